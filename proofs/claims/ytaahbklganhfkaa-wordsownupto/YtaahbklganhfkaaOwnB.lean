import Derived.Test.YtaahbklganhfkaaOwnD
import Derived.Deep.RegionHeld3
import Derived.Deep.QuietTactic
import Derived.BigQuiet
import Derived.Deep.DrawnRows
namespace Go.Proofs.Ytaahbklganhfkaa
open Go.RowKit
set_option linter.unusedVariables false

set_option maxRecDepth 100000 in
set_option maxHeartbeats 4000000 in
/-- atlaslaw01.WordsOwn. -/
theorem law_own (s r : ByteArray) (w : World) (hs : s.size ≤ 1048576) (hr : r.size ≤ 1048576) :
    Calls Try.prog 7 #[.string s, .string r] w fun e w' => e = .returned (.bool true) ∧ Below w.heap.size w w' := by
  have hl0 := fieldsB_len s
  have hl1 := fieldsB_len r
  go_enter Try.func7, Try.ntmps7
  go_wp2_with fail
  refine (fields_any s _ (by omega)).mono ?_
  rintro e w1 ⟨v0, rfl, o0, b1⟩
  go_wp2_with fail
  refine (fields_any r _ (by omega)).mono ?_
  rintro e w2 ⟨v1, rfl, o1, b2⟩
  go_wp2_with fail
  refine (fields_any s _ (by omega)).mono ?_
  rintro e w3 ⟨v2, rfl, o2, b3⟩
  go_wp2_with fail
  refine (refFields_any s _ (by omega)).mono ?_
  rintro e w4 ⟨x4, rfl, o4, b4⟩
  have o0' := owns_below (owns_below (owns_below o0 b2) b3) b4
  have o1' := owns_below (owns_below o1 b3) b4
  have o2' := owns_below o2 b4
  go_wp2_with fail
  refine (same_eq _ _ _ _ _ _ o0' o4 (by omega)).mono ?_
  rintro e u ⟨rfl, q4, rfl⟩
  go_wp2_with fail
  refine (refFields_any r _ (by omega)).mono ?_
  rintro e w5 ⟨x5, rfl, o5, b5⟩
  have o1'' := owns_below (owns_drewN o1' q4) b5
  have o0'' := owns_below (owns_drewN o0' q4) b5
  have o2'' := owns_below (owns_drewN o2' q4) b5
  go_wp2_with fail
  refine (same_eq _ _ _ _ _ _ o1'' o5 (by omega)).mono ?_
  rintro e u ⟨rfl, q5, rfl⟩
  go_wp2_with fail
  refine (same_eq _ _ _ _ _ _ (owns_drewN o2'' q5) (owns_drewN o0'' q5) (by omega)).mono ?_
  rintro e u ⟨rfl, q6, rfl⟩
  obtain ⟨a0, n0, c0, rfl⟩ := owns_slice o0''
  obtain ⟨a1, n1, c1, rfl⟩ := owns_slice o1''
  obtain ⟨a2, n2, c2, rfl⟩ := owns_slice o2''
  have hst0 := St.start b1 b2 b3 b4 b5 o0 o1 o2 (q5 + q6)
  have hL0 : ∀ i, i < 3 → (by3 (fieldsB (ahead s)) (fieldsB (ahead r)) (fieldsB (ahead s)) i).length ≤ 2000000 := by
    intro i hi
    rcases (show i = 0 ∨ i = 1 ∨ i = 2 by omega) with rfl | rfl | rfl
    · show (fieldsB (ahead s)).length ≤ _
      omega
    · show (fieldsB (ahead r)).length ≤ _
      omega
    · show (fieldsB (ahead s)).length ≤ _
      omega
  go_wp2_with fail
  generalize by3 (fieldsB (ahead s)) (fieldsB (ahead r)) (fieldsB (ahead s)) = L at hst0 hL0
  generalize by3 (Value.slice a0 n0 c0) (.slice a1 n1 c1) (.slice a2 n2 c2) = v at hst0
  generalize hs4 w.heap.size w1.heap.size w2.heap.size w3.heap.size = H at hst0
  clear b1 b2 b3 b4 b5 o0 o0' o0'' o1 o1' o1'' o2 o2' o2'' o4 o5
  go_loopw [10] (fun y W => ∃ k : Nat, k ≤ 3 ∧ y = .int .i64 k ∧ St w W H w5.heap.size v mk3 (aft L k)) (fun y _ => 3 - (intOf y).toNat)
  case atStart => exact ⟨0, by omega, rfl, hst0.congr (fun i _ => by simp [aft])⟩
  case round =>
    clear hst0
    generalize w5.heap.size = GA at *
    obtain ⟨k, hk, rfl, hst⟩ := hrel
    by_cases hlt : k < 3
    · have j0 : (0 : Int) ≤ (k : Int) := by omega
      have j1 : (k : Int) < 3 := by omega
      obtain ⟨ak, nk, ck, hvk⟩ := owns_slice (hst.part k hlt).own
      have hlk : (L k).length = nk := by
        have := hst.part k hlt
        rw [hvk, aft_at] at this
        exact this.len
      have HLK : Hid (_ = _) := hlk
      have HVK : Hid (_ = _) := hvk
      have hLk := hL0 k hlt
      rw [hlk] at hLk
      clear hlk hvk
      go_wp2_with fail
      go_loopw [11] (fun y W => ∃ j : Nat, j ≤ nk ∧ y = .int .i64 j ∧ St w W H GA v mk3 (mid L k j)) (fun y _ => nk - (intOf y).toNat)
      case atStart => exact ⟨0, Nat.zero_le _, rfl, hst.congr (fun i _ => mid_zero L k i)⟩
      case round =>
        clear hst
        obtain ⟨j, hj, rfl, hst⟩ := hrel
        have cl := (hst.cells hlt).1 (by rw [HVK.out]; rfl)
        rw [HVK.out] at cl
        have cm := (hst.cells hlt).2
        by_cases hjl : j < nk
        · have hpt := hst.part k hlt
          rw [HVK.out] at hpt
          obtain ⟨g, rfl, hg1, hg2, hgl, hgc⟩ := hpt.view (by omega)
          have i0 : (0 : Int) ≤ (j : Int) := by omega
          have i1 : (j : Int) < (nk : Int) := by omega
          obtain ⟨hcj, hfj⟩ := hgc j (by omega)
          clear hgc
          generalize (mid L k j k)[j] = x at hcj
          have hlow := hst.low' hlt
          have e1 : ¬ GA = g := by omega
          have e2 : ¬ GA + 1 = g := by omega
          have e3 : ¬ g = GA := by omega
          have e4 : ¬ g = GA + 1 := by omega
          go_wp2_with fail
          go_region_held3 (fun w' => w'.cell? ⟨GA, k, none⟩ = some (.slice (some ⟨g, 0, none⟩) nk ck) ∧ w'.cell? ⟨GA + 1, k, none⟩ = some (.string (mk3 k))) (go_keep) (fail)
          go_wp2
          go_roundw
          case rel => exact ⟨j + 1, by omega, by go_num, hst.put hlt HVK.out (by rw [HLK.out]; exact hjl)⟩
          case measure =>
            simp [intOf]
            omega
        · obtain rfl : j = nk := by omega
          have hst2 := hst.congr (fun i _ => mid_full L k i j HLK.out)
          go_wp2_with fail
          clear cl cm hst
          go_loopw [12, 13] (fun x y W => ∃ j : Nat, j ≤ 64 ∧ y = .int .i64 j ∧ St w W H GA v mk3 (aft L (k + 1)) ∧ More W (H k) (H (k + 1)) (GA + 2) (v k) x (aft L (k + 1) k) j ⟨#[101, 110, 100]⟩) (fun _ y _ => 64 - (intOf y).toNat)
          case atStart => exact ⟨0, by omega, rfl, hst2, More.start HVK.out (hst2.part k hlt)⟩
          case round =>
            clear hst2
            obtain ⟨i, hi, rfl, hst, hmore⟩ := hrel
            by_cases hi64 : i < 64
            · have hlow := hst.low' hlt
              have hsz := hst.size
              have hlen : (aft L (k + 1) k).length ≤ 3000000 := by
                have := hL0 k hlt
                unfold aft
                rw [if_pos (by omega), List.length_replicate]
                omega
              go_wp2_with (at_builtin; refine Hid.out ?_)
              refine wpList_more (hst.alloc _) hlt (hmore.alloc (by omega) _) hlen hi (by rfl) _ _ (by rfl) (by rfl) ⟨wr.heap.size, 0, none⟩ (by rfl) (cell_new wr _ _) ?_
              intro v' w1 hst1 hmore1
              clear hst hmore
              go_wp2
              go_roundw
              case rel => exact ⟨i + 1, by omega, by go_num, hst1, hmore1⟩
              case measure =>
                simp [intOf]
                omega
            · go_wp2
              go_roundw
              case rel => exact ⟨k + 1, by omega, by go_num, hst⟩
              case measure =>
                simp [intOf]
                omega
    · obtain rfl : k = 3 := by omega
      go_wp2_with fail
      clear hlt hk
      go_loopw [14] (fun y W => ∃ k : Nat, k ≤ 3 ∧ y = .int .i64 k ∧ St w W H GA v mk3 (aft L 3)) (fun y _ => 3 - (intOf y).toNat)
      case atStart => exact ⟨0, by omega, rfl, hst⟩
      case round =>
        clear hst
        obtain ⟨k, hk, rfl, hst⟩ := hrel
        by_cases hlt : k < 3
        · have j0 : (0 : Int) ≤ (k : Int) := by omega
          have j1 : (k : Int) < 3 := by omega
          obtain ⟨ak, nk, ck, hvk⟩ := owns_slice (hst.part k hlt).own
          have hlk : (L k).length = nk := by
            have := hst.part k hlt
            rw [hvk, aft_marks L k hlt] at this
            simpa using this.len
          have HLK : Hid (_ = _) := hlk
          have HVK : Hid (_ = _) := hvk
          have hLk := hL0 k hlt
          rw [hlk] at hLk
          clear hlk hvk
          go_wp2_with fail
          go_loopw [15] (fun y W => ∃ j : Nat, j ≤ nk ∧ y = .int .i64 j ∧ St w W H GA v mk3 (aft L 3)) (fun y _ => nk - (intOf y).toNat)
          case atStart => exact ⟨0, Nat.zero_le _, rfl, hst⟩
          case round =>
            clear hst
            obtain ⟨j, hj, rfl, hst⟩ := hrel
            have cl := (hst.cells hlt).1 (by rw [HVK.out]; rfl)
            rw [HVK.out] at cl
            have cm := (hst.cells hlt).2
            by_cases hjl : j < nk
            · have hpt := hst.part k hlt
              rw [HVK.out, aft_marks L k hlt, HLK.out] at hpt
              obtain ⟨g, rfl, hg1, hg2, hgl, hgc⟩ := hpt.view (by omega)
              have i0 : (0 : Int) ≤ (j : Int) := by omega
              have i1 : (j : Int) < (nk : Int) := by omega
              have hcj := (hgc j (by simpa using hjl)).1
              rw [List.getElem_replicate] at hcj
              clear hgc hpt hgl
              generalize mk3 k = x at cm hcj
              go_wp2
              go_quiet (fail)
              go_wp2
              go_roundw
              case rel => exact ⟨j + 1, by omega, by go_num, hst.drewN _⟩
              case measure =>
                simp [intOf]
                omega
            · go_wp2
              go_roundw
              case rel => exact ⟨k + 1, by omega, by go_num, hst⟩
              case measure =>
                simp [intOf]
                omega
        · have hb := hst.bel
          clear hst
          go_wp2_with fail
          refine (fields_any s _ (by omega)).mono ?_
          rintro e w6 ⟨v6, rfl, o6, b6⟩
          go_wp2_with fail
          refine (refFields_any s _ (by omega)).mono ?_
          rintro e w7 ⟨v7, rfl, o7, b7⟩
          have o6' := owns_below o6 b7
          have f6 := hb.trans (b6.mono hb.size)
          have f7 := f6.trans (b7.mono f6.size)
          clear hb b6 b7
          go_wp2_with fail
          refine (same_eq _ _ _ _ _ _ o6' o7 (by omega)).mono ?_
          rintro e u ⟨rfl, q7, rfl⟩
          go_wp2_with fail
          refine (fields_any r _ (by omega)).mono ?_
          rintro e w8 ⟨v8, rfl, o8, b8⟩
          go_wp2_with fail
          refine (refFields_any r _ (by omega)).mono ?_
          rintro e w9 ⟨v9, rfl, o9, b9⟩
          have o8' := owns_below o8 b9
          have f8 := (below_drewN f7 q7).trans (b8.mono f7.size)
          have f9 := f8.trans (b9.mono f8.size)
          clear f6 f7 f8 b8 b9
          go_wp2_with fail
          refine (same_eq _ _ _ _ _ _ o8' o9 (by omega)).mono ?_
          rintro e u ⟨rfl, q9, rfl⟩
          go_wp2
          go_ret
          exact ⟨rfl, below_drewN f9 q9⟩
end Go.Proofs.Ytaahbklganhfkaa
