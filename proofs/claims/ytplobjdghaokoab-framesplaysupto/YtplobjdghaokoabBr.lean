import Derived.Test.YtplobjdghaokoabMv
import Derived.Deep.QuietTactic
import Derived.BigQuiet
namespace Go.Proofs.Ytplobjdghaokoab
open Go.RowKit
set_option linter.unusedVariables false

set_option maxHeartbeats 16000000 in
set_option maxRecDepth 100000 in
/-- Would a Drop take a slab's last use? -/
theorem breaks_any (W0 W : World) (c : BC) (u : List Nat) (cs : Nat → List Cut) (first n al wh : Int) (h : BB W0 W c u u cs (fun i => tabsL (cs i))) (hn2 : n ≤ 9223372036854775807) (hf1 : -9223372036854775808 ≤ first) :
    Calls Try.prog 21 #[.pointer (some ⟨c.bb, 0, none⟩), .agg #[.int .i64 3, .int .i64 first, .int .i64 n, .int .i64 al, .int .i64 wh]] W fun e W' => ∃ b, e = .returned (.bool b) ∧ (b = false → ∀ i, i < 2 → NoBr c.f0 u (cs i) first n) ∧ Turn (fun _ => False) W W' := by
  have T0 : Turn (fun _ => False) W (W.alloc (.cells #[.int .i64 3, .int .i64 first, .int .i64 n, .int .i64 al, .int .i64 wh] 29)) := (Turn.refl _ W).alloc _
  have hr0 := row_new W [.int .i64 3, .int .i64 first, .int .i64 n, .int .i64 al, .int .i64 wh] 29
  have hz0 : W.heap.size < (W.alloc (.cells #[.int .i64 3, .int .i64 first, .int .i64 n, .int .i64 al, .int .i64 wh] 29)).heap.size := by simp
  have HA : Hid (BB W0 W c u u cs (fun i => tabsL (cs i))) := h
  clear h
  go_enter Try.func21, Try.ntmps21
  go_wp2
  generalize W.alloc (.cells #[.int .i64 3, .int .i64 first, .int .i64 n, .int .i64 al, .int .i64 wh] 29) = W1 at *
  generalize hob : W.heap.size = ob at *
  have H0 : Hid (Turn (fun _ => False) W W1 ∧ RowAt W1 ob 29 [.int .i64 3, .int .i64 first, .int .i64 n, .int .i64 al, .int .i64 wh] ∧ ob < W1.heap.size) := ⟨T0, hr0, hz0⟩
  clear T0 hr0 hz0 hob
  go_loopw [5] (fun s5 wr => ∃ i : Nat, i ≤ 2 ∧ s5 = .int .i64 i ∧ Hid (Turn (fun _ => False) W1 wr ∧ ∀ j, j < i → NoBr c.f0 u (cs j) first n)) (fun s5 _ => 2 - (intOf s5).toNat)
  case atStart => exact ⟨0, by omega, rfl, Turn.refl _ _, fun j hj => by omega⟩
  case round =>
    obtain ⟨i, hi, rfl, HI⟩ := hrel
    by_cases hi2 : i < 2
    · have hiz : (i : Int) < 2 := by omega
      have hB := (HA.out.keep H0.out.1).keep HI.out.1
      have k3 := hB.c3
      have kt := hB.cpt hi2
      obtain ⟨SS, hrs, _, _⟩ := hB.rs hi2
      obtain ⟨_, hps, _, _⟩ := hB.ps hi2
      have hlen := hps.len
      have htl : (tabsL (cs i)).length ≤ 1073741824 := by have := tabsL_len (cs i); omega
      have hfr := rsFrames_any wr SS (c.t i) c.r (tabsL (cs i)) hrs htl (tabsL_bd hps.fb)
      rw [fs_tabs hps.srt hps.2, framesL_len] at hfr
      have HFB : Hid (∀ d ∈ cs i, d.f < 268435456) := hps.fb
      clear hrs hps hB htl
      generalize hm : (cs i).length = m at *
      have HM : Hid ((cs i).length = m) := hm
      clear hm
      go_wp2_with (first
        | (go_at_call 31; refine hfr.mono ?_; clear hfr; rintro e w1 ⟨x1, rfl, ho1, ht1⟩;
           have ho1' : w1.ownsRow wr.heap.size 3 1 x1 (framesL (cs i)).length (encI (framesL (cs i))) := (by rw [framesL_len, HM.out]; exact ho1);
           obtain ⟨la, lc, rfl, hia, _⟩ := own_iat ho1';
           have HW1 : Hid (Turn (fun _ => False) W1 w1 ∧ IAt w1 la (framesL (cs i))) := ⟨HI.out.1.trans ht1 (fun _ h => h.elim), hia⟩;
           rw [framesL_len, HM.out];
           clear ho1 ho1' ht1 hia)
        | go_in)
      go_loopw [7] (fun s7 wq => ∃ k : Nat, k ≤ m ∧ s7 = .int .i64 k ∧ (∃ q, wq = w1.drewN q) ∧ Hid (∀ (j : Nat) (d : Cut), j < k → (cs i)[j]? = some d → NoBr c.f0 u [d] first n)) (fun s7 _ => m - (intOf s7).toNat)
      case atStart => exact ⟨0, by omega, rfl, ⟨0, rfl⟩, fun j d hj => by omega⟩
      case round =>
        obtain ⟨k, hk, rfl, HQ0, HF⟩ := hrel
        have HQ : Hid (∃ q, wr = w1.drewN q) := HQ0
        clear HQ0
        by_cases hkm : k < m
        · obtain ⟨d, hd⟩ : ∃ d, (cs i)[k]? = some d := ⟨_, List.getElem?_eq_getElem (by rw [HM.out]; exact hkm)⟩
          have HT1 : Hid (Turn (fun _ => False) W1 wr ∧ Turn (fun _ => False) w1 wr) := by
            obtain ⟨q, e⟩ := HQ.out
            rw [e]
            exact ⟨HW1.out.1.drewN q, (Turn.refl _ _).drewN q⟩
          obtain ⟨g, rfl, _, hcf⟩ := (HW1.out.2.turn HT1.out.2 (fun _ _ h => h)) k _ (framesL_at hd)
          have hcb := HFB.out d (List.mem_of_getElem? hd)
          have HC : Hid ((cs i)[k]? = some d) := hd
          have hkz : (k : Int) < (m : Int) := by omega
          have hB := ((HA.out.keep H0.out.1).keep HT1.out.1)
          have e1 := hB.c1
          have hor := H0.out.2.1.turn HT1.out.1 (fun h => h)
          have o0 : wr.cell? ⟨ob, 0, none⟩ = some (.int .i64 3) := by rw [hor.cell]; rfl
          have o1 : wr.cell? ⟨ob, 1, none⟩ = some (.int .i64 first) := by rw [hor.cell]; rfl
          have o2 : wr.cell? ⟨ob, 2, none⟩ = some (.int .i64 n) := by rw [hor.cell]; rfl
          have hru : ∀ qq, Calls Try.prog 8 #[.pointer (some ⟨c.r, 0, none⟩), .int .i64 (d.f : Int)] (wr.drewN qq) fun e W' => e = .returned (.int .i64 (usesR c.f0 u d.f)) ∧ ∃ q', W' = (wr.drewN qq).drewN q' := fun qq => ruses_any _ c.r c.rb c.f0 u d.f (hB.drewN qq).rp
          clear hd hB hor k3 kt
          have HNX : Hid (NoBr c.f0 u [d] first n → ∀ (j : Nat) (d' : Cut), j < k + 1 → (cs i)[j]? = some d' → NoBr c.f0 u [d'] first n) := fun hb j d' hj hd' => by
            by_cases e : j = k
            · subst e
              rw [HC.out] at hd'
              cases hd'
              exact hb
            · exact HF.out j d' (by omega) hd'
          generalize hxx : (d.f : Int) = x at *
          have hx0 : 0 ≤ x := by omega
          by_cases hn1 : 1 ≤ n
          · have hn1b : decide (1 ≤ n) = true := decide_eq_true hn1
            by_cases hfx : first ≤ x
            · have hfxb : decide (first ≤ x) = true := decide_eq_true hfx
              obtain ⟨y, hy⟩ : ∃ y, IntKind.i64.wrap (x - first) = y := ⟨_, rfl⟩
              by_cases hyn : y < n
              · have hynb : decide (y < n) = true := decide_eq_true hyn
                by_cases hu1 : usesR c.f0 u x = 1
                · rw [hu1] at hru
                  go_wp2
                  go_quiet ((go_at_call 8; exact Calls.quiet_of (hru _)))
                  go_wp2
                  go_ret
                  exact ⟨true, rfl, (fun e => by cases e), (H0.out.1.trans HT1.out.1 (fun _ h => h.elim)).drewN _⟩
                · have HNB : Hid (NoBr c.f0 u [d] first n) := fun d' hd' _ _ _ => by
                    simp at hd'
                    subst hd'
                    rw [hxx]
                    exact hu1
                  generalize usesR c.f0 u x = uu at *
                  have hu1b : ((uu : Int) == 1) = false := by simp; omega
                  go_wp2
                  go_quiet ((go_at_call 8; exact Calls.quiet_of (hru _)))
                  go_wp2
                  go_roundw
                  case rel => exact ⟨k + 1, by omega, by go_num, (by obtain ⟨q, e⟩ := HQ.out; exact ⟨_, by rw [e, World.drewN_drewN]⟩), HNX.out HNB.out⟩
                  case measure => simp [intOf]; omega
              · have hynb : decide (y < n) = false := decide_eq_false hyn
                have HNB : Hid (NoBr c.f0 u [d] first n) := fun d' hd' _ _ h3 => by
                  simp at hd'
                  subst hd'
                  rw [hxx] at h3
                  exfalso
                  have : IntKind.i64.wrap (x - first) = x - first := by rw [IntKind.wrap_i64]; omega
                  omega
                go_wp2
                go_quiet (fail)
                go_wp2
                go_roundw
                case rel => exact ⟨k + 1, by omega, by go_num, (by obtain ⟨q, e⟩ := HQ.out; exact ⟨_, by rw [e, World.drewN_drewN]⟩), HNX.out HNB.out⟩
                case measure => simp [intOf]; omega
            · have hfxb : decide (first ≤ x) = false := decide_eq_false hfx
              have HNB : Hid (NoBr c.f0 u [d] first n) := fun d' hd' _ h2 _ => by
                simp at hd'
                subst hd'
                rw [hxx] at h2
                exact absurd h2 hfx
              go_wp2
              go_quiet (fail)
              go_wp2
              go_roundw
              case rel => exact ⟨k + 1, by omega, by go_num, (by obtain ⟨q, e⟩ := HQ.out; exact ⟨_, by rw [e, World.drewN_drewN]⟩), HNX.out HNB.out⟩
              case measure => simp [intOf]; omega
          · have hn1b : decide (1 ≤ n) = false := decide_eq_false hn1
            have HNB : Hid (NoBr c.f0 u [d] first n) := fun d' hd' h1 _ _ => absurd h1 hn1
            go_wp2
            go_quiet (fail)
            go_wp2
            go_roundw
            case rel => exact ⟨k + 1, by omega, by go_num, (by obtain ⟨q, e⟩ := HQ.out; exact ⟨_, by rw [e, World.drewN_drewN]⟩), HNX.out HNB.out⟩
            case measure => simp [intOf]; omega
        · obtain rfl : k = m := by omega
          have HNA : Hid (NoBr c.f0 u (cs i) first n) := fun d hd => by
            obtain ⟨j, hj⟩ := List.mem_iff_getElem?.1 hd
            exact HF.out j d (by have := (List.getElem?_eq_some_iff.1 hj).1; rw [HM.out] at this; exact this) hj d (by simp)
          go_wp2
          go_roundw
          case rel => exact ⟨i + 1, by omega, by go_num, (by obtain ⟨q, e⟩ := HQ.out; rw [e]; exact HW1.out.1.drewN q), fun j hj => by
            by_cases e : j = i
            · rw [e]; exact HNA.out
            · exact HI.out.2 j (by omega)⟩
          case measure => simp [intOf]; omega
    · obtain rfl : i = 2 := by omega
      go_wp2
      go_ret
      exact ⟨false, rfl, fun _ => HI.out.2, H0.out.1.trans HI.out.1 (fun _ h => h.elim)⟩
end Go.Proofs.Ytplobjdghaokoab
