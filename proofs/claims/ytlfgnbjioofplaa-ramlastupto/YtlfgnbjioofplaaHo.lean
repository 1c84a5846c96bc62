import Derived.Test.YtlfgnbjioofplaaPu
import Derived.Test.YtlfgnbjioofplaaLa
import Derived.Test.YtlfgnbjioofplaaRg
import Derived.BigQuiet
namespace Go.Proofs.Ytlfgnbjioofplaa
open Go.RowKit
set_option linter.unusedVariables false

/-- Is one of so many bytes from a place on not zero? -/
def sm (m : Nat → Int) (b : Nat) : Nat → Bool
  | 0 => false
  | k + 1 => sm m b k || decide (m (b + k) ≠ 0)
theorem sm_any (m : Nat → Int) (b k : Nat) : sm m b k = true ↔ ∃ o, o < k ∧ m (b + o) ≠ 0 := by
  induction k with
  | zero => simp [sm]
  | succ k ih =>
    rw [sm, Bool.or_eq_true, ih, decide_eq_true_eq]
    constructor
    · rintro (⟨o, ho, h⟩ | h)
      · exact ⟨o, by omega, h⟩
      · exact ⟨k, by omega, h⟩
    · rintro ⟨o, ho, h⟩
      by_cases e : o = k
      · subst e; exact .inr h
      · exact .inl ⟨o, by omega, h⟩
theorem sm_cnt (m : Nat → Int) (f : Nat) : sm m (f * 4096) 4096 = decide (cnt (fr m f) ≠ 0) := by
  by_cases h : cnt (fr m f) = 0
  · rw [decide_eq_false (by simpa using h)]
    have := cnt_fr_zero.1 h
    cases hs : sm m (f * 4096) 4096 with
    | false => rfl
    | true =>
      obtain ⟨o, ho, hne⟩ := (sm_any m (f * 4096) 4096).1 hs
      exact absurd (this o ho) hne
  · rw [decide_eq_true h]
    rw [sm_any]
    have h1 : ¬ ∀ o, o < 4096 → m (f * 4096 + o) = 0 := fun h2 => h (cnt_fr_zero.2 h2)
    simpa using h1
theorem Touch.skip {f : Nat} {m : Nat → Int} {L : List Int} (h : Touch f m L) (hc : cnt (fr m f) = 0) : Touch (f + 1) m L := by
  refine ⟨h.1, fun i => (h.2 i).trans ⟨?_, ?_⟩⟩
  · rintro ⟨n, e, hn, hx⟩
    exact ⟨n, e, by omega, hx⟩
  · rintro ⟨n, e, hn, hx⟩
    refine ⟨n, e, ?_, hx⟩
    by_cases hnf : n = f
    · subst hnf; exact absurd hc hx
    · omega
theorem Touch.snoc {f : Nat} {m : Nat → Int} {L : List Int} (h : Touch f m L) (hc : cnt (fr m f) ≠ 0) : Touch (f + 1) m (L ++ [(f : Int)]) := by
  refine ⟨?_, fun i => ?_⟩
  · rw [List.pairwise_append]
    refine ⟨h.1, List.pairwise_singleton _ _, fun a ha b hb => ?_⟩
    simp at hb
    subst hb
    obtain ⟨n, e, hn, _⟩ := (h.2 a).1 ha
    omega
  · rw [List.mem_append, h.2 i]
    constructor
    · rintro (⟨n, e, hn, hx⟩ | hi)
      · exact ⟨n, e, by omega, hx⟩
      · simp at hi
        exact ⟨f, hi, by omega, hc⟩
    · rintro ⟨n, e, hn, hx⟩
      by_cases hnf : n = f
      · subst hnf; exact .inr (by simp [e])
      · exact .inl ⟨n, e, by omega, hx⟩
theorem Touch.zero (m : Nat → Int) : Touch 0 m [] := ⟨List.Pairwise.nil, fun i => ⟨fun h => (by cases h), fun ⟨n, _, h, _⟩ => absurd h (Nat.not_lt_zero n)⟩⟩
theorem Touch.len {f : Nat} {m : Nat → Int} {L : List Int} (h : Touch f m L) : L.length ≤ f := rising_len h.1 (fun i hi => by
  obtain ⟨n, e, hn, _⟩ := (h.2 i).1 hi
  exact ⟨n, e, hn⟩)
theorem or_num (b0 b1 b2 b3 : Int) (h0 : 0 ≤ b0 ∧ b0 < 256) (h1 : 0 ≤ b1 ∧ b1 < 256) (h2 : 0 ≤ b2 ∧ b2 < 256) (h3 : 0 ≤ b3 ∧ b3 < 256) :
    bits BinOp.or IntKind.u32 (bits BinOp.or IntKind.u32 (bits BinOp.or IntKind.u32 b0 (b1 * 256)) (b2 * 65536)) (b3 * 16777216) = b0 + 256 * (b1 + 256 * (b2 + 256 * b3)) := by
  have e1 := or_sum b0 b1 8 (by omega) (by simpa using h0.2) (by omega) (by simp; omega)
  have e2 := or_sum (b0 + b1 * 256) b2 16 (by omega) (by simp; omega) (by omega) (by simp; omega)
  have e3 := or_sum (b0 + b1 * 256 + b2 * 65536) b3 24 (by omega) (by simp; omega) (by omega) (by simp; omega)
  simp only [Int.reducePow] at e1 e2 e3
  rw [e1, e2, e3]
  omega

set_option maxHeartbeats 8000000 in
set_option maxRecDepth 100000 in
theorem holds_any (W : World) (S : Nat → Prop) (p bk : Nat) (m : Nat → Int) (cap : Nat) (h : PM W S p 4 m) (hb : ∀ i, i < 16384 → W.cell? ⟨bk, i, none⟩ = some (.int .u8 (m i))) (hbl : bk < W.heap.size) :
    Calls Try.prog 17 #[.pointer (some ⟨p, 0, none⟩), .slice (some ⟨bk, 0, none⟩) 16384 cap] W fun e W' => e = .returned (.bool true) ∧ Turn (fun _ => False) W W' := by
  have hby := h.byts
  have hrd := read_ok W S p 4 m 0 16384 h (by omega)
  have HP : Hid (PM W S p 4 m) := h
  have HB : Hid (∀ i, i < 16384 → W.cell? ⟨bk, i, none⟩ = some (.int .u8 (m i))) := hb
  have HBY : Hid (Byts m) := hby
  have HCB : Hid (∀ w1 : World, RowAt w1 W.heap.size 5 (encB (rd m 0 16384)) → Turn (fun _ => False) W w1 → Calls Try.prog 24 #[.slice (some ⟨W.heap.size, 0, none⟩) 16384 16384, .slice (some ⟨bk, 0, none⟩) 16384 cap] w1 fun e W' => e = .returned (.bool true) ∧ ∃ q, W' = w1.drewN q) := fun w1 hr ht => by
    have := bytes_any w1 (some ⟨W.heap.size, 0, none⟩) (some ⟨bk, 0, none⟩) 16384 cap (rd m 0 16384) (fun j x hj => ⟨_, _, rfl, by rw [hr.cell, Nat.zero_add]; exact encB_at hj⟩) (fun j x hj => ⟨_, _, rfl, by
      have hl : j < 16384 := by have := (List.getElem?_eq_some_iff.1 hj).1; rwa [rd_len] at this
      rw [rd_at _ _ _ hl, Nat.zero_add] at hj
      rw [ht.cell hbl (fun h => h), Nat.zero_add, HB.out j hl]
      simpa using hj⟩) (by rw [rd_len]; omega)
    rw [rd_len] at this
    exact this
  clear h hb hby
  go_enter Try.func17, Try.ntmps17
  go_wp2_with (first
    | (go_at_call 22; refine hrd.mono ?_; clear hrd; rintro e w1 ⟨rfl, hr1, ht1⟩; have hcb := HCB.out w1 hr1 ht1; have HT1 : Hid (Turn (fun _ => False) W w1) := ht1; clear hr1 ht1)
    | (go_at_call 24; refine hcb.mono ?_; clear hcb; rintro e w2 ⟨rfl, q, rfl⟩)
    | go_in)
  clear HCB
  go_loopw [7, 8] (fun v i wr => ∃ (f : Nat) (L : List Int), f ≤ 4 ∧ i = .int .i64 f ∧ Hid (wr.ownsRow W.heap.size 3 1 v L.length (encI L) ∧ Touch f m L ∧ Turn (fun _ => False) W wr)) (fun _ i _ => 4 - (intOf i).toNat)
  case atStart => exact ⟨0, [], Nat.zero_le _, rfl, World.ownsRow_nil _ _ _ _, Touch.zero m, HT1.out.drewN _⟩
  case round =>
    obtain ⟨f, L, hf, rfl, HX⟩ := hrel
    clear HT1
    obtain ⟨hoL, htc, hT⟩ := HX.out
    obtain ⟨vA, vC, rfl⟩ := slice_form hoL
    by_cases hlt : f < 4
    · have hfz : (f : Int) < 4 := by omega
      have hb0 : 4096 * (f : Int) = ((f * 4096 : Nat) : Int) := by omega
      have hb1 : f * 4096 ≤ 12288 := by omega
      have HS : Hid (sm m (f * 4096) 4096 = decide (cnt (fr m f) ≠ 0)) := sm_cnt m f
      generalize f * 4096 = b0 at *
      have HBW : Hid (∀ i, i < 16384 → wr.cell? ⟨bk, i, none⟩ = some (.int .u8 (m i))) := fun i hi => by rw [hT.cell hbl (fun h => h)]; exact HB.out i hi
      clear hoL htc hT
      go_wp2
      go_loop [9, 10] (fun s i => ∃ k : Nat, k ≤ 4096 ∧ i = .int .i64 k ∧ s = .bool (sm m b0 k)) (fun _ i => 4096 - (intOf i).toNat)
      case atStart => exact ⟨0, Nat.zero_le _, rfl, rfl⟩
      case round =>
        obtain ⟨k, hk, rfl, rfl⟩ := hrel
        by_cases hkl : k < 4096
        · have hkz : (k : Int) < 4096 := by omega
          have hc := HBW.out (b0 + k) (by omega)
          have HSK : Hid (sm m b0 (k + 1) = (sm m b0 k || decide (m (b0 + k) ≠ 0))) := rfl
          have hjm : b0 + k < 16384 := by omega
          have hj : (b0 : Int) + (k : Int) = ((b0 + k : Nat) : Int) := by omega
          generalize b0 + k = j at *
          generalize hsm : sm m b0 k = bb at *
          cases bb with
          | true =>
            go_wp2
            go_round
            case rel => exact ⟨k + 1, by omega, by go_num, by rw [HSK.out]; rfl⟩
            case measure => simp [intOf]; omega
          | false =>
            by_cases hz : m j = 0
            · rw [hz] at hc
              go_wp2
              go_round
              case rel => exact ⟨k + 1, by omega, by go_num, by rw [HSK.out, hz]; rfl⟩
              case measure => simp [intOf]; omega
            · go_wp2
              go_round
              case rel => exact ⟨k + 1, by omega, by go_num, by rw [HSK.out, decide_eq_true hz, show (m j != 0) = true by simpa using hz]; rfl⟩
              case measure => simp [intOf]; omega
        · have hk4 : k = 4096 := by omega
          subst hk4
          rw [HS.out]
          by_cases hz : cnt (fr m f) = 0
          · rw [decide_eq_false (show ¬ cnt (fr m f) ≠ 0 by simpa using hz)]
            have HX2 : Hid (wr.ownsRow W.heap.size 3 1 (.slice vA L.length vC) L.length (encI L) ∧ Touch (f + 1) m L ∧ Turn (fun _ => False) W wr) := ⟨HX.out.1, HX.out.2.1.skip hz, HX.out.2.2⟩
            clear HX hz
            go_wp2
            go_roundw
            case rel => exact ⟨f + 1, L, by omega, by go_num, HX2⟩
            case measure => simp [intOf]; omega
          · rw [decide_eq_true hz]
            have hLl := HX.out.2.1.len
            obtain ⟨g, cp, w2, cur, hr, hlog, hrow, hcp1, hcp2, hcl, hT2⟩ := appI wr W.heap.size _ L (f : Int) HX.out.1 HX.out.2.2.size (by omega)
            have HX2 : Hid (w2.ownsRow W.heap.size 3 1 (.slice (some ⟨g, 0, none⟩) (L.length + 1) cp) (L ++ [(f : Int)]).length (encI (L ++ [(f : Int)])) ∧ Touch (f + 1) m (L ++ [(f : Int)]) ∧ Turn (fun _ => False) W w2) := by
              refine ⟨?_, HX.out.2.1.snoc hz, HX.out.2.2.trans hT2 (fun x hx => .inr hx)⟩
              rw [show (L ++ [(f : Int)]).length = L.length + 1 by simp]
              refine own_of_row hrow hlog hcp1 hcp2 (by rw [hcl, Nat.mul_one]) ?_
              rw [Nat.mul_one, List.take_append_of_le_length (by rw [encI_len]; simp), List.take_of_length_le (by rw [encI_len]; simp)]
            clear HX hz hrow hcl hT2
            go_wp2_with (first
              | (at_builtin; refine Lib.wpList_append_run _ rfl _ _ 33 33 rfl _ _ rfl rfl _ _ (hr _) ?_)
              | go_in)
            go_roundw
            case rel => exact ⟨f + 1, L ++ [(f : Int)], by omega, by go_num, HX2⟩
            case measure => simp [intOf]; omega
    · have hf4 : f = 4 := by omega
      have HX4 : Hid (wr.ownsRow W.heap.size 3 1 (.slice vA L.length vC) L.length (encI L) ∧ Touch 4 m L ∧ Turn (fun _ => False) W wr) := by rw [← hf4]; exact HX.out
      have hfz : ¬ (f : Int) < 4 := by omega
      clear HX hf4 hlt
      have HPW : Hid (∀ q, PM (wr.drewN q) S p 4 m) := fun q => HP.out.keep (hT.drewN q) (fun _ _ h => h)
      have HBW : Hid (∀ i, i < 16384 → wr.cell? ⟨bk, i, none⟩ = some (.int .u8 (m i))) := fun i hi => by rw [hT.cell hbl (fun h => h)]; exact HB.out i hi
      clear hoL htc hT
      go_wp2
      generalize wr = wz at *
      go_loopw [11] (fun i ww => ∃ k q : Nat, k ≤ 33 ∧ i = .int .i64 ((508 * k : Nat) : Int) ∧ ww = wz.drewN q) (fun i _ => 16800 - (intOf i).toNat)
      case atStart => exact ⟨0, 0, Nat.zero_le _, rfl, rfl⟩
      case round =>
        obtain ⟨k, q, hk, rfl, rfl⟩ := hrel
        by_cases hkl : k < 33
        · have ha4 : 508 * k % 4 = 0 := by omega
          have ha2 : 508 * k % 2 = 0 := by omega
          have hal : 508 * k < 16384 := by omega
          have HA : Hid (508 * (k + 1) = 508 * k + 508) := by show _ = _; omega
          have HAM : Hid (508 * k ≤ 16256) := by show _ ≤ _; omega
          generalize 508 * k = a at *
          have hal3 : a + 3 < 16384 := by have := HAM.out; omega
          have haz : (a : Int) < 16384 := by omega
          have hp := HPW.out q
          have hgb := byte_any (wz.drewN q) S p 4 m a hp (by omega)
          have hgh := half_any (wz.drewN q) S p 4 m a hp (by omega)
          have hgw := word_any (wz.drewN q) S p 4 m a hp (by omega)
          have hv1 : valV 4 m a 1 = m a := by unfold valV; rw [if_pos (err0 a 1 (by omega) hal (by omega)), num1]
          have hv2 : valV 4 m a 2 = m a + 256 * m (a + 1) := by unfold valV; rw [if_pos (err0 a 2 (by omega) hal ha2), num2]
          have hv4 : valV 4 m a 4 = m a + 256 * (m (a + 1) + 256 * (m (a + 2) + 256 * m (a + 3))) := by unfold valV; rw [if_pos (err0 a 4 (by omega) hal ha4), num4]
          rw [hv1, err0 a 1 (by omega) hal (by omega)] at hgb
          rw [hv2, err0 a 2 (by omega) hal ha2] at hgh
          rw [hv4, err0 a 4 (by omega) hal ha4] at hgw
          have c0 := HBW.out a (by omega)
          have c1 := HBW.out (a + 1) (by omega)
          have c2 := HBW.out (a + 2) (by omega)
          have c3 := HBW.out (a + 3) (by omega)
          have b0 := HBY.out a
          have b1 := HBY.out (a + 1)
          have b2 := HBY.out (a + 2)
          have b3 := HBY.out (a + 3)
          have HOR := or_num (m a) (m (a + 1)) (m (a + 2)) (m (a + 3)) b0 b1 b2 b3
          clear hv1 hv2 hv4 ha2 ha4 hp
          generalize m a = m0 at *
          generalize m (a + 1) = m1 at *
          generalize m (a + 2) = m2 at *
          generalize m (a + 3) = m3 at *
          generalize hx4 : m0 + 256 * (m1 + 256 * (m2 + 256 * m3)) = x4 at *
          have hx2 : x4 % 65536 = m0 + 256 * m1 := by omega
          have hxw : IntKind.u16.wrap x4 = m0 + 256 * m1 := by rw [IntKind.wrap_u16]; exact hx2
          have hx2b : 0 ≤ m0 + 256 * m1 ∧ m0 + 256 * m1 < 65536 := by omega
          have hx4b : 0 ≤ x4 ∧ x4 < 4294967296 := by omega
          generalize m0 + 256 * m1 = x2 at *
          have HOR2 : Hid (bits BinOp.or IntKind.u32 (bits BinOp.or IntKind.u32 (bits BinOp.or IntKind.u32 m0 (m1 * 256)) (m2 * 65536)) (m3 * 16777216) = x4) := HOR
          clear HOR hx4
          obtain ⟨b00, b01⟩ := b0
          obtain ⟨b10, b11⟩ := b1
          obtain ⟨b20, b21⟩ := b2
          obtain ⟨b30, b31⟩ := b3
          obtain ⟨x20, x21⟩ := hx2b
          obtain ⟨x40, x41⟩ := hx4b
          go_wp2_with (first
            | (go_at_call 11; refine hgb.mono ?_; rintro e w2 ⟨rfl, rfl⟩)
            | (go_at_call 30; refine hgh.mono ?_; rintro e w2 ⟨rfl, rfl⟩)
            | (go_at_call 32; refine hgw.mono ?_; rintro e w2 ⟨rfl, rfl⟩)
            | go_in)
          go_quiet (fail)
          rw [HOR2.out]
          go_wp2
          go_roundw
          case rel => exact ⟨k + 1, q + nq, by omega, by rw [HA.out]; go_num, rfl⟩
          case measure => simp [intOf]; omega
        · have hk3 : k = 33 := by omega
          subst hk3
          have htc := touched_any (wz.drewN q) S p 4 m (HPW.out q)
          have HIN : Hid (∀ (q : Nat) (w2 : World) (cp2 : Nat) (cur2 : List Value), Turn (fun _ => False) (wz.drewN q) w2 → RowAt w2 (wz.drewN q).heap.size 3 cur2 → cur2.take L.length = L.map (Value.int .i64) → Calls Try.prog 21 #[.slice (some ⟨(wz.drewN q).heap.size, 0, none⟩) L.length cp2, .slice vA L.length vC] w2 fun e W' => e = .returned (.bool true) ∧ ∃ q, W' = w2.drewN q) := fun q w2 cp2 cur2 ht2 hr2 hr6 => by
            refine ints_any w2 _ _ cp2 vC L (fun j x hj => ⟨_, _, rfl, ?_⟩) (fun j x hj => ?_) (by have := HX4.out.2.1.len; omega)
            · rw [hr2.cell, Nat.zero_add]
              have hjl := (List.getElem?_eq_some_iff.1 hj).1
              have h1 : (cur2.take L.length)[j]? = some (.int .i64 x) := by rw [hr6, List.getElem?_map, hj]; rfl
              rwa [List.getElem?_take_of_lt hjl] at h1
            · have ho := own_turn HX4.out.1 (((Turn.refl (fun _ => False) wz).drewN q).trans ht2 (fun _ h => h.elim)) (fun _ _ h => h)
              rcases row_of_own ho with ⟨_, _, e⟩ | ⟨g, cap3, cur3, e, hg, hrw, h1, h2, h3, h4⟩
              · have : L = [] := by simpa [encI] using e
                subst this
                simp at hj
              · injection e with e1 e2 e3
                refine ⟨g, 0, e1, ?_⟩
                rw [hrw.cell, Nat.zero_add]
                have hjl := (List.getElem?_eq_some_iff.1 hj).1
                have h5 : (cur3.take (L.length * 1))[j]? = some (.int .i64 x) := by rw [h4]; exact encI_at hj
                rw [Nat.mul_one] at h5
                rwa [List.getElem?_take_of_lt hjl] at h5
          go_wp2_with (first
            | (go_at_call 13; refine htc.mono ?_; clear htc; rintro e w2 ⟨v2, L2, rfl, hL2, ⟨cp2, cur2, rfl, hr2, hr3, hr4, hr5, hr6⟩, ht2⟩; have hLL := hL2.uniq HX4.out.2.1; subst hLL; have hin := HIN.out q w2 cp2 cur2 ht2 hr2 hr6; have HT2 : Hid (Turn (fun _ => False) W w2) := (HX4.out.2.2.drewN q).trans ht2 (fun _ h => h.elim); clear hr2 hr3 hr4 hr5 hr6 ht2 hL2)
            | (go_at_call 21; refine hin.mono ?_; clear hin; rintro e w3 ⟨rfl, q3, rfl⟩)
            | go_in)
          go_ret
          exact ⟨rfl, HT2.out.drewN _⟩
end Go.Proofs.Ytlfgnbjioofplaa
