import Derived.Test.YtplobjdghaokoaaGa
namespace Go.Proofs.Ytplobjdghaokoaa
open Go.RowKit
set_option linter.unusedVariables false

theorem tabsW (W : World) (S : Nat → Prop) (s p : Nat) (cs : List Cut) (hS : PS W S s p cs) :
    Calls Try.prog 26 #[.pointer (some ⟨s, 0, none⟩)] W fun e W' => ∃ a cap, e = .returned (.slice a (tabsL cs).length cap) ∧ Turn (fun _ => False) W W' ∧ IAt W' a (tabsL cs) ∧ ∀ g, a = some ⟨g, 0, none⟩ → W.heap.size ≤ g ∧ g < W'.heap.size := by
  refine (tables_any W S s p cs hS).mono ?_
  rintro e w' ⟨v, rfl, ho, ht⟩
  obtain ⟨a, cap, rfl, hi, hg⟩ := own_iat ho
  exact ⟨a, cap, rfl, ht, hi, hg⟩
theorem framesW (W : World) (S : Nat → Prop) (s p : Nat) (cs : List Cut) (hS : PS W S s p cs) :
    Calls Try.prog 27 #[.pointer (some ⟨s, 0, none⟩)] W fun e W' => ∃ a cap, e = .returned (.slice a (framesL cs).length cap) ∧ Turn (fun _ => False) W W' ∧ IAt W' a (framesL cs) ∧ ∀ g, a = some ⟨g, 0, none⟩ → W.heap.size ≤ g ∧ g < W'.heap.size := by
  refine (framesS_any W S s p cs hS).mono ?_
  rintro e w' ⟨v, rfl, ho, ht⟩
  obtain ⟨a, cap, rfl, hi, hg⟩ := own_iat ho
  exact ⟨a, cap, rfl, ht, hi, hg⟩
theorem tabs_le {W : World} {S : Nat → Prop} {s p : Nat} {cs : List Cut} (h : PS W S s p cs) : (tabsL cs).length ≤ 1073741824 := by have := tabsL_len cs; have := h.len; omega

set_option maxHeartbeats 16000000 in
set_option maxRecDepth 100000 in
theorem gives_any (W : World) (S : Nat → Prop) (s p : Nat) (cs : List Cut) (a : Option Addr) (ca : Nat) (L : List Int) (t g now ahead : Int) (hS : PS W S s p cs) (hL : IAt W a L) (hl : L.length ≤ 1073741824) (hb : ∀ x ∈ L, 0 ≤ x ∧ x ≤ 1073741824)
    (hG : Gv L (tabsL cs) t g now ahead) (ha : ahead ≤ 1048576) :
    Calls Try.prog 30 #[.pointer (some ⟨s, 0, none⟩), .slice a L.length ca, .int .i64 t, .int .i64 g, .int .i64 now, .int .i64 ahead] W fun e W' => e = .returned (.bool true) ∧ Turn (fun _ => False) W W' := by
  have htb := tabsW W S s p cs hS
  have htl := tabs_le hS
  have HL : Hid (IAt W a L) := hL
  have HB : Hid (∀ x ∈ L, 0 ≤ x ∧ x ≤ 1073741824) := hb
  have hwi := fun x => within_any W a ca L x hL (by omega)
  clear hS hL hb
  generalize hn : L.length = n at *
  have HN : Hid (L.length = n) := hn
  generalize hm : (tabsL cs).length = m at *
  have HM : Hid ((tabsL cs).length = m) := hm
  clear hn hm
  rcases hG with ⟨j0, k0, hF, rfl, rfl, htT⟩ | ⟨hF, rfl, rfl, rfl, hT⟩ | ⟨hF, ha0, rfl, ht4, ht0, rfl, htL, htT⟩
  · obtain ⟨y, hy, hk4, rfl, hxL, hin, hbef⟩ := hF
    have HF : Hid (L[j0]? = some y ∧ (∀ q : Nat, q < k0 → 4 * (y / 4) + (q : Int) ∈ L) ∧ ∀ (i : Nat) (z : Int), i < j0 → L[i]? = some z → ∀ q : Nat, q < 4 → 4 * (z / 4) + (q : Int) ∈ L) := ⟨hy, hin, hbef⟩
    obtain ⟨y1, y2⟩ := HB.out y (List.mem_of_getElem? hy)
    have hj0 : j0 < n := by have := (List.getElem?_eq_some_iff.1 hy).1; rw [HN.out] at this; exact this
    clear hy hin hbef
    have HXL : Hid (4 * (y / 4) + (k0 : Int) ∉ L) := hxL
    have HTT : Hid (4 * (y / 4) + (k0 : Int) ∈ tabsL cs) := htT
    clear hxL htT
    generalize hx : 4 * (y / 4) + (k0 : Int) = x at *
    have HX : Hid (4 * (y / 4) + (k0 : Int) = x) := hx
    have hx0 : 0 ≤ x := by omega
    have hx1 : x ≤ 1073741830 := by omega
    clear hx
    go_enter Try.func30, Try.ntmps30
    go_wp2
    go_loop [13, 14] (fun s13 s14 => ∃ i : Nat, i ≤ n ∧ s14 = .int .i64 i ∧ ((i ≤ j0 ∧ s13 = .int .i64 (-1)) ∨ (j0 < i ∧ s13 = .int .i64 x))) (fun s13 s14 => n - (intOf s14).toNat)
    case atStart => exact ⟨0, Nat.zero_le _, rfl, .inl ⟨Nat.zero_le _, rfl⟩⟩
    case round =>
      obtain ⟨i, hi, rfl, hcase⟩ := hrel
      by_cases hlt : i < n
      · obtain ⟨z, hz⟩ : ∃ z, L[i]? = some z := ⟨_, List.getElem?_eq_getElem (by rw [HN.out]; omega)⟩
        obtain ⟨z1, z2⟩ := HB.out z (List.mem_of_getElem? hz)
        obtain ⟨gb, rfl, _, hcz⟩ := HL.out i z hz
        have HZ : Hid (L[i]? = some z) := hz
        clear hz
        have hiz : (i : Int) < (n : Int) := by omega
        rcases hcase with ⟨hij, rfl⟩ | ⟨hij, rfl⟩
        · go_wp2
          go_loop [13, 15] (fun s13 s15 => ∃ k : Nat, k ≤ 4 ∧ s15 = .int .i64 k ∧ ((s13 = .int .i64 (-1) ∧ (i = j0 → k ≤ k0)) ∨ (i = j0 ∧ k = k0 + 1 ∧ s13 = .int .i64 x))) (fun s13 s15 => 4 - (intOf s15).toNat)
          case atStart => exact ⟨0, by omega, rfl, .inl ⟨rfl, fun _ => Nat.zero_le _⟩⟩
          case round =>
            obtain ⟨k, hk, rfl, hc2⟩ := hrel
            rcases hc2 with ⟨rfl, hk0⟩ | ⟨rfl, hkk, rfl⟩
            · by_cases hk4 : k < 4
              · have hkz : (k : Int) < 4 := by omega
                by_cases hend : i = j0 ∧ k = k0
                · obtain ⟨rfl, rfl⟩ := hend
                  obtain rfl : z = y := by have := HZ.out; rw [HF.out.1] at this; cases this; rfl
                  have hw := hwi x
                  rw [decide_eq_false HXL.out] at hw
                  have hxe := HX.out
                  go_wp2_with (first | (go_at_call 46; refine hw.mono ?_; rintro e w' ⟨rfl, rfl⟩) | go_in)
                  go_round
                  case rel => exact ⟨k + 1, by omega, by go_num, .inr (by refine ⟨?_, ?_, ?_⟩ <;> first | trivial | rfl | go_num)⟩
                  case measure => simp [intOf]; omega
                · have hmem : 4 * (z / 4) + (k : Int) ∈ L := by
                    by_cases hij2 : i = j0
                    · subst hij2
                      obtain rfl : z = y := by have := HZ.out; rw [HF.out.1] at this; cases this; rfl
                      exact HF.out.2.1 k (by have := hk0 rfl; omega)
                    · exact HF.out.2.2 i z (by omega) HZ.out k hk4
                  have hw := hwi (4 * (z / 4) + (k : Int))
                  rw [decide_eq_true hmem] at hw
                  clear hmem
                  go_wp2_with (first | (go_at_call 46; refine hw.mono ?_; rintro e w' ⟨rfl, rfl⟩) | go_in)
                  go_round
                  case rel => exact ⟨k + 1, by omega, by go_num, .inl ⟨rfl, fun e => by have := hk0 e; omega⟩⟩
                  case measure => simp [intOf]; omega
              · obtain rfl : k = 4 := by omega
                go_wp2
                go_round
                case rel => exact ⟨i + 1, by omega, by go_num, .inl ⟨by
                  by_cases e : i = j0
                  · have := hk0 e; omega
                  · omega, rfl⟩⟩
                case measure => simp [intOf]; omega
            · have hkz : (k : Int) ≤ 4 := by omega
              have hxn : ¬ (x < 0) := by omega
              by_cases hk4 : (k : Int) < 4
              all_goals
                go_wp2
                go_round
                case rel => exact ⟨i + 1, by omega, by go_num, .inr ⟨by omega, rfl⟩⟩
                case measure => simp [intOf]; omega
        · have hxn : ¬ (x < 0) := by omega
          go_wp2
          go_loop [13, 15] (fun s13 s15 => s13 = .int .i64 x ∧ s15 = .int .i64 0) (fun s13 s15 => 0)
          case atStart => exact ⟨rfl, rfl⟩
          case round =>
            obtain ⟨rfl, rfl⟩ := hrel
            go_wp2
            go_round
            case rel => exact ⟨i + 1, by omega, by go_num, .inr ⟨by omega, rfl⟩⟩
            case measure => simp [intOf]; omega
      · obtain rfl : i = n := by omega
        rcases hcase with ⟨hij, rfl⟩ | ⟨hij, rfl⟩
        · omega
        · have hxn : (0 : Int) ≤ x := by omega
          go_wp2_with (first
            | (go_at_call 26; refine htb.mono ?_; clear htb; rintro e w2 ⟨a2, c2, rfl, ht2, hi2, _⟩;
               have hw2 := within_any w2 a2 c2 (tabsL cs) x hi2 (by rw [HM.out]; omega);
               rw [decide_eq_true HTT.out, HM.out] at hw2;
               have HT2 : Hid (Turn (fun _ => False) W w2) := ht2; clear ht2 hi2)
            | (go_at_call 46; refine hw2.mono ?_; clear hw2; rintro e w' ⟨rfl, rfl⟩)
            | go_in)
          go_ret
          exact ⟨rfl, HT2.out⟩
  · have HF : Hid (∀ (i : Nat) (z : Int), L[i]? = some z → ∀ q : Nat, q < 4 → 4 * (z / 4) + (q : Int) ∈ L) := fun i z hz q hq => hF z (List.mem_of_getElem? hz) q hq
    have HT : Hid (tabsL cs = L) := hT
    clear hF hT
    go_enter Try.func30, Try.ntmps30
    go_wp2
    go_loop [13, 14] (fun s13 s14 => ∃ i : Nat, i ≤ n ∧ s14 = .int .i64 i ∧ s13 = .int .i64 (-1)) (fun s13 s14 => n - (intOf s14).toNat)
    case atStart => exact ⟨0, Nat.zero_le _, rfl, rfl⟩
    case round =>
      obtain ⟨i, hi, rfl, rfl⟩ := hrel
      by_cases hlt : i < n
      · obtain ⟨z, hz⟩ : ∃ z, L[i]? = some z := ⟨_, List.getElem?_eq_getElem (by rw [HN.out]; omega)⟩
        obtain ⟨z1, z2⟩ := HB.out z (List.mem_of_getElem? hz)
        obtain ⟨gb, rfl, _, hcz⟩ := HL.out i z hz
        have HZ : Hid (L[i]? = some z) := hz
        clear hz
        have hiz : (i : Int) < (n : Int) := by omega
        go_wp2
        go_loop [13, 15] (fun s13 s15 => ∃ k : Nat, k ≤ 4 ∧ s15 = .int .i64 k ∧ s13 = .int .i64 (-1)) (fun s13 s15 => 4 - (intOf s15).toNat)
        case atStart => exact ⟨0, by omega, rfl, rfl⟩
        case round =>
          obtain ⟨k, hk, rfl, rfl⟩ := hrel
          by_cases hk4 : k < 4
          · have hkz : (k : Int) < 4 := by omega
            have hw := hwi (4 * (z / 4) + (k : Int))
            rw [decide_eq_true (HF.out i z HZ.out k hk4)] at hw
            go_wp2_with (first | (go_at_call 46; refine hw.mono ?_; rintro e w' ⟨rfl, rfl⟩) | go_in)
            go_round
            case rel => exact ⟨k + 1, by omega, by go_num, rfl⟩
            case measure => simp [intOf]; omega
          · obtain rfl : k = 4 := by omega
            go_wp2
            go_round
            case rel => exact ⟨i + 1, by omega, by go_num, rfl⟩
            case measure => simp [intOf]; omega
      · obtain rfl : i = n := by omega
        go_wp2_with (first
          | (go_at_call 26; refine htb.mono ?_; clear htb; rintro e w2 ⟨a2, c2, rfl, ht2, hi2, _⟩;
             have hw2 := sameInts_any w2 a2 a c2 ca (tabsL cs) L hi2 (HL.out.turn ht2 (fun _ _ h => h)) (by rw [HM.out]; omega) (by rw [HN.out]; omega);
             rw [decide_eq_true HT.out, HM.out, HN.out] at hw2;
             have HT2 : Hid (Turn (fun _ => False) W w2) := ht2; clear ht2 hi2)
          | (go_at_call 16; refine hw2.mono ?_; clear hw2; rintro e w' ⟨rfl, q, rfl⟩)
          | go_in)
        go_ret
        exact ⟨rfl, HT2.out.drewN _⟩
  · have HF : Hid (∀ (i : Nat) (z : Int), L[i]? = some z → ∀ q : Nat, q < 4 → 4 * (z / 4) + (q : Int) ∈ L) := fun i z hz q hq => hF z (List.mem_of_getElem? hz) q hq
    have HT : Hid (t ∉ L ∧ t ∈ tabsL cs) := ⟨htL, htT⟩
    clear hF htL htT
    go_enter Try.func30, Try.ntmps30
    go_wp2
    go_loop [13, 14] (fun s13 s14 => ∃ i : Nat, i ≤ n ∧ s14 = .int .i64 i ∧ s13 = .int .i64 (-1)) (fun s13 s14 => n - (intOf s14).toNat)
    case atStart => exact ⟨0, Nat.zero_le _, rfl, rfl⟩
    case round =>
      obtain ⟨i, hi, rfl, rfl⟩ := hrel
      by_cases hlt : i < n
      · obtain ⟨z, hz⟩ : ∃ z, L[i]? = some z := ⟨_, List.getElem?_eq_getElem (by rw [HN.out]; omega)⟩
        obtain ⟨z1, z2⟩ := HB.out z (List.mem_of_getElem? hz)
        obtain ⟨gb, rfl, _, hcz⟩ := HL.out i z hz
        have HZ : Hid (L[i]? = some z) := hz
        clear hz
        have hiz : (i : Int) < (n : Int) := by omega
        go_wp2
        go_loop [13, 15] (fun s13 s15 => ∃ k : Nat, k ≤ 4 ∧ s15 = .int .i64 k ∧ s13 = .int .i64 (-1)) (fun s13 s15 => 4 - (intOf s15).toNat)
        case atStart => exact ⟨0, by omega, rfl, rfl⟩
        case round =>
          obtain ⟨k, hk, rfl, rfl⟩ := hrel
          by_cases hk4 : k < 4
          · have hkz : (k : Int) < 4 := by omega
            have hw := hwi (4 * (z / 4) + (k : Int))
            rw [decide_eq_true (HF.out i z HZ.out k hk4)] at hw
            go_wp2_with (first | (go_at_call 46; refine hw.mono ?_; rintro e w' ⟨rfl, rfl⟩) | go_in)
            go_round
            case rel => exact ⟨k + 1, by omega, by go_num, rfl⟩
            case measure => simp [intOf]; omega
          · obtain rfl : k = 4 := by omega
            go_wp2
            go_round
            case rel => exact ⟨i + 1, by omega, by go_num, rfl⟩
            case measure => simp [intOf]; omega
      · obtain rfl : i = n := by omega
        have hane : ¬ (ahead = 0) := by omega
        have hw := hwi t
        rw [decide_eq_false HT.out.1] at hw
        go_wp2_with (first
          | (go_at_call 26; refine htb.mono ?_; clear htb; rintro e w2 ⟨a2, c2, rfl, ht2, hi2, _⟩;
             have hw2 := within_any w2 a2 c2 (tabsL cs) t hi2 (by rw [HM.out]; omega);
             rw [decide_eq_true HT.out.2, HM.out] at hw2;
             have HT2 : Hid (Turn (fun _ => False) W w2) := ht2; clear ht2 hi2)
          | (go_at_call 46; refine hw.mono ?_; clear hw; rintro e w' ⟨rfl, rfl⟩)
          | (go_at_call 46; refine hw2.mono ?_; clear hw2; rintro e w' ⟨rfl, rfl⟩)
          | go_in)
        go_ret
        exact ⟨rfl, HT2.out⟩
end Go.Proofs.Ytplobjdghaokoaa
