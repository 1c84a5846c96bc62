import Derived.Test.YtplobjdghaokoaaSb
import Derived.WalkKit
import Derived.RegionTactic
import Derived.Deep.RegionLaw
import Derived.OwnWalk
namespace Go.Proofs.Ytplobjdghaokoaa
open Go.RowKit
set_option linter.unusedVariables false

theorem infoEL : (Try.prog.info? 85).map (fun i => (i.zero, i.size, i.bytes)) = some (some (.agg #[.int .i64 0, .bool false, .bool false, .bool false, .bool false]), 5, 16) := by kernel_rfl

theorem shape_of_row {W : World} {g : Nat} {e : TypeId} {cur : List Value} (h : RowAt W g e cur) : W.shape? g = some (e, cur.length) := by
  simp [World.shape?, show W.heap[g]? = _ from h]

/-- overlaps of a piece of one row and of another one. -/
theorem overlaps_apart (w : World) (g h ao bo la ca lb cb : Nat) (cg ch : List Value) (e1 e2 : TypeId) (hg : RowAt w g e1 cg) (hh : RowAt w h e2 ch) (hne : g ≠ h) (h0 : ch.length ≠ 0) :
    (callFunc 58 #[.slice (some ⟨g, ao, none⟩) la ca, .slice (some ⟨h, bo, none⟩) lb cb]).run Try.prog w = .ok (.value (.bool false)) w := by
  rw [run_callFunc_extern Try.func58 (by kernel_rfl) (by kernel_rfl) (by kernel_rfl) (e := Extern.SlicesOverlaps.overlaps #[79, 79] #[4]) (by kernel_rfl),
    Lib.run_overlaps_apart w 79 4 85 Try.underlying79 5 Try.sizeOf85 ⟨g, ao, none⟩ ⟨h, bo, none⟩ la ca lb cb hne e1 e2 cg.length ch.length (shape_of_row hg) (shape_of_row hh) h0 (hg.frozen _) (hg.frozen _)]
  rfl

/-- The list behind the two copies. -/
theorem shift_list (cur vs : List Value) (i j n m : Nat) {im nm : Nat} (hv : vs.length = m) (hij : i ≤ j) (hin : j ≤ n) (hn : i + m + (n - j) ≤ cur.length) (hnc : n ≤ cur.length) (him : im = i + m) (hnm : nm = i + m + (n - j)) :
    (((cur.take im ++ (cur.take n).drop j ++ cur.drop (im + ((cur.take n).drop j).length)).take i ++ vs ++ (cur.take im ++ (cur.take n).drop j ++ cur.drop (im + ((cur.take n).drop j).length)).drop (i + vs.length))).take nm = cur.take i ++ vs ++ (cur.take n).drop j := by
  subst him hnm
  apply List.ext_getElem?
  intro q
  simp only [List.getElem?_take, List.getElem?_append, List.length_append, List.length_take, List.length_drop, List.getElem?_drop, hv]
  have e1 : min (i + m) cur.length = i + m := by omega
  have e2 : min n cur.length = n := by omega
  have e3 : min i cur.length = i := by omega
  simp only [e1, e2, e3]
  have e4 : min i (i + m + (n - j) + (cur.length - (i + m + (n - j)))) = i := by omega
  by_cases c1 : q < i
  · simp only [show q < i + m + (n - j) by omega, e4, show q < i + m by omega, c1, if_true]
  · by_cases c2 : q < i + m
    · simp only [show q < i + m + (n - j) by omega, e4, c1, c2, if_true, if_false]
    · by_cases c3 : q < i + m + (n - j)
      · simp only [c3, e4, c1, c2, if_true, if_false, show ¬ (i + m + (q - (i + m)) < i + m) by omega, show i + m + (q - (i + m)) < i + m + (n - j) by omega, show i + m + (q - (i + m)) - (i + m) = q - (i + m) by omega]
      · simp only [c3, c1, c2, if_false, show ¬ (j + (q - (i + m)) < n) by omega]

set_option maxHeartbeats 4000000 in
set_option maxRecDepth 100000 in
/-- Insert in the middle, without room. -/
theorem insert_away (g cap n m i h vc : Nat) (cur vs : List Value) (w : World) (hg : RowAt w g 85 cur) (hc : cur.length = cap * 5) (hnc : n ≤ cap) (hcm : cap ≤ maxLen)
    (hvr : ∀ j u, vs[j]? = some u → w.cell? ⟨h, j, none⟩ = some u) (hvl : vs.length = m * 5) (hh : h < w.heap.size)
    (hi : i < n) (hm : 0 < m) (hroom : cap < n + m) (hby : (n + m) * 16 ≤ 140737488355328) (h1x : ∀ u ∈ cur.take (n * 5), u.oneCell' = true) (h1v : ∀ u ∈ vs, u.oneCell' = true) :
    Calls Try.prog 53 #[.slice (some ⟨g, 0, none⟩) n cap, .int .i64 i, .slice (some ⟨h, 0, none⟩) m vc] w fun e w' =>
      ∃ c' cur', e = .returned (.slice (some ⟨w.heap.size, 0, none⟩) (n + m) c') ∧ RowAt w' w.heap.size 85 cur' ∧ cur'.length = c' * 5 ∧ n + m ≤ c' ∧ c' ≤ maxLen ∧ w.grownBy w' none ∧
        cur'.take ((n + m) * 5) = cur.take (i * 5) ++ vs ++ (cur.take (n * 5)).drop (i * 5) := by
  obtain ⟨inf, hi0, hz0, hzs, hzb⟩ := info_parts infoEL
  have hcut : (cur.take (i * 5)).length = i * 5 := by rw [List.length_take, hc]; exact Nat.min_eq_left (Nat.mul_le_mul_right _ (by omega))
  obtain ⟨w1, c', rest, hr1, hrow1, hrl, hcc, hcm', hgr1, hsz1⟩ := append_zeros (P := Try.prog) w 79 3 85 inf _ .i64 .i64 Try.underlying79 Try.underlying3 hi0 hz0 (by rw [hzs]; rfl) (by rw [hzs]; decide) ⟨g, 0, none⟩ i cap (cur.take (i * 5))
    (by rw [hzs]; exact hcut) (fun j v hj => by
      rw [Addr.add_lit, hg.cell, Nat.zero_add]
      rw [List.getElem?_take] at hj
      split at hj
      · exact hj
      · cases hj) (n + m - i) (by omega) (by omega) (by unfold maxLen; omega) (by rw [hzb, show i + (n + m - i) = n + m by omega]; exact hby) ((n : Int) + m - i) (by omega)
  rw [show i + (n + m - i) = n + m by omega] at hr1 hcc
  unfold maxLen at hcm
  have hz1 : ¬ ((m : Int) = 0) := by omega
  have hz2 : ¬ ((i : Int) = (n : Int)) := by omega
  have hz3 : (cap : Int) < (n : Int) + (m : Int) := by omega
  have hin : (i : Int) ≤ (n : Int) := by omega
  have hgl := hg.lt
  have hrl' : rest.length = (c' - i) * 5 := by rw [hrl, hzs]
  obtain ⟨w2, hr2, hrow2, hgr2⟩ := copy_row (P := Try.prog) w1 79 79 85 inf Try.underlying79 hi0 w.heap.size (i * 5) (n + m - i) ⟨h, 0, none⟩ m _ 85 vs hrow1 (by rw [hzs, hvl, show Nat.min m (n + m - i) = m from Nat.min_eq_left (by omega)])
    (fun j u hj => by
      rw [Addr.add_lit, Nat.zero_add]
      exact hgr1.cell (hvr j u hj) (by simp)) (by rw [List.length_append, hcut, hvl, hrl']; omega) h1v
  rw [show Nat.min m (n + m - i) = m from Nat.min_eq_left (by omega)] at hr2
  have hgw : RowAt w2 g 85 cur := (hg.grown hgr1 (by simp)).grown hgr2 (by simp; omega)
  have htl : ((cur.take (n * 5)).drop (i * 5)).length = (n - i) * 5 := by rw [List.length_drop, List.length_take, hc, Nat.min_eq_left (Nat.mul_le_mul_right _ hnc), ← Nat.sub_mul]
  obtain ⟨w3, hr3, hrow3, hgr3⟩ := copy_row (P := Try.prog) w2.drew 79 79 85 inf Try.underlying79 hi0 w.heap.size ((i + m) * 5) (n + m - (i + m)) ⟨g, i * 5, none⟩ (n - i) _ 85 ((cur.take (n * 5)).drop (i * 5)) hrow2
    (by rw [hzs, htl, show Nat.min (n - i) (n + m - (i + m)) = n - i from Nat.min_eq_left (by omega)])
    (fun j u hj => by
      rw [Addr.add_lit]
      show w2.cell? _ = _
      rw [hgw.cell]
      rw [List.getElem?_drop, List.getElem?_take] at hj
      split at hj
      · exact hj
      · cases hj) (by rw [htl]; simp only [List.length_append, List.length_take, List.length_drop, hcut, hvl, hrl']; omega)
    (fun u hu => h1x u (List.mem_of_mem_drop hu))
  have hw1 : IntKind.i64.wrap ((i : Int) + (m : Int)) = (i : Int) + (m : Int) := by rw [IntKind.wrap_i64]; omega
  have hb1 : (0 : Int) ≤ (i : Int) + (m : Int) := by omega
  have htn : ((i : Int) + (m : Int)).toNat = i + m := by omega
  have hb2 : ¬ (c' = i + m) := by omega
  have hb4 : ¬ (cap = i) := by omega
  go_enter Try.func53, Try.ntmps53
  go_wp2_with (first | (at_builtin; refine Lib.wpList_append_run _ rfl _ _ 79 3 rfl _ _ rfl rfl _ _ (hr1 _) ?_) | (at_builtin; refine wpl_copy _ rfl _ _ 79 79 rfl _ _ rfl rfl (hr2 _ _ _) ?_))
  go_region_law (refine step_copy rfl _ _ 79 79 rfl _ _ (by simp [Act.eval, Act.put]) (by simp [Act.eval, Act.put]) (hr3 _ _ _) ?_)
  go_wp2
  go_ret
  refine ⟨c', _, rfl, hrow3, ?_, hcc, hcm', ?_, ?_⟩
  · simp only [List.length_append, List.length_take, List.length_drop, hcut, hvl, hrl', htl]; omega
  · exact grownBy_new (grownBy_new hgr1 hgr2 (Nat.le_refl _)) (grownBy_trans (grownBy_drew _ _) hgr3) (Nat.le_refl _)
  · have e1 : (cur.take (i * 5) ++ rest).take (i * 5) = cur.take (i * 5) := by
      rw [List.take_append_of_le_length (by rw [hcut]; exact Nat.le_refl _), List.take_of_length_le (by rw [hcut]; exact Nat.le_refl _)]
    rw [e1]
    have e2 : (cur.take (i * 5) ++ vs).length = (i + m) * 5 := by rw [List.length_append, hcut, hvl, Nat.add_mul]
    rw [List.take_append_of_le_length (show (i + m) * 5 ≤ (cur.take (i * 5) ++ vs).length by rw [e2]; exact Nat.le_refl _), List.take_of_length_le (show (cur.take (i * 5) ++ vs).length ≤ (i + m) * 5 by rw [e2]; exact Nat.le_refl _)]
    rw [List.take_append_of_le_length (by rw [List.length_append, e2, htl]; omega)]
    exact List.take_of_length_le (by rw [List.length_append, e2, htl]; omega)

set_option maxHeartbeats 4000000 in
set_option maxRecDepth 100000 in
/-- Insert in the middle, with room. -/
theorem insert_shift (g cap n m i h vc : Nat) (cur cv : List Value) (w : World) (hg : RowAt w g 85 cur) (hc : cur.length = cap * 5) (hnc : n ≤ cap) (hcm : cap ≤ maxLen)
    (hv : RowAt w h 85 cv) (hvl : m * 5 ≤ cv.length) (hne : h ≠ g)
    (hi : i < n) (hm : 0 < m) (hroom : n + m ≤ cap) (h1x : ∀ u ∈ cur.take (n * 5), u.oneCell' = true) (h1v : ∀ u ∈ cv.take (m * 5), u.oneCell' = true) :
    Calls Try.prog 53 #[.slice (some ⟨g, 0, none⟩) n cap, .int .i64 i, .slice (some ⟨h, 0, none⟩) m vc] w fun e w' =>
      ∃ cur', e = .returned (.slice (some ⟨g, 0, none⟩) (n + m) cap) ∧ RowAt w' g 85 cur' ∧ cur'.length = cap * 5 ∧ w.grownBy w' (some g) ∧
        cur'.take ((n + m) * 5) = cur.take (i * 5) ++ cv.take (m * 5) ++ (cur.take (n * 5)).drop (i * 5) := by
  obtain ⟨inf, hi0, hz0, hzs, hzb⟩ := info_parts infoEL
  have hcut : (cur.take (i * 5)).length = i * 5 := by rw [List.length_take, hc]; exact Nat.min_eq_left (Nat.mul_le_mul_right _ (by omega))
  have hvl' : (cv.take (m * 5)).length = m * 5 := by rw [List.length_take]; exact Nat.min_eq_left hvl
  have htl : ((cur.take (n * 5)).drop (i * 5)).length = (n - i) * 5 := by rw [List.length_drop, List.length_take, hc, Nat.min_eq_left (Nat.mul_le_mul_right _ hnc), ← Nat.sub_mul]
  obtain ⟨w1, hr1, hrow1, hgr1⟩ := copy_row (P := Try.prog) w.drew 79 79 85 inf Try.underlying79 hi0 g ((i + m) * 5) (n + m - (i + m)) ⟨g, i * 5, none⟩ (n + m - i) cur 85 ((cur.take (n * 5)).drop (i * 5)) hg
    (by rw [hzs, htl, show Nat.min (n + m - i) (n + m - (i + m)) = n - i by simp only [Nat.min_def]; split <;> omega])
    (fun j u hj => by
      rw [Addr.add_lit]
      show w.cell? _ = _
      rw [hg.cell]
      rw [List.getElem?_drop, List.getElem?_take] at hj
      split at hj
      · exact hj
      · cases hj) (by rw [htl, hc]; omega) (fun u hu => h1x u (List.mem_of_mem_drop hu))
  have hvw : RowAt w1 h 85 cv := hv.grown (grownBy_trans (grownBy_drew _ _) hgr1) (by simp; exact hne)
  obtain ⟨w2, hr2, hrow2, hgr2⟩ := copy_row (P := Try.prog) w1 79 79 85 inf Try.underlying79 hi0 g (i * 5) (n + m - i) ⟨h, 0, none⟩ m _ 85 (cv.take (m * 5)) hrow1 (by rw [hzs, hvl', show Nat.min m (n + m - i) = m from Nat.min_eq_left (by omega)])
    (fun j u hj => by
      rw [Addr.add_lit, Nat.zero_add, hvw.cell]
      rw [List.getElem?_take] at hj
      split at hj
      · exact hj
      · cases hj) (by rw [hvl']; simp only [List.length_append, List.length_take, List.length_drop, htl, hc]; omega) h1v
  unfold maxLen at hcm
  have hov : ∀ bo lb cb, (callFunc 58 #[.slice (some ⟨h, 0, none⟩) m vc, .slice (some ⟨g, bo, none⟩) lb cb]).run Try.prog w = .ok (.value (.bool false)) w := fun bo lb cb =>
    overlaps_apart w h g 0 bo m vc lb cb cv cur 85 85 hv hg hne (by rw [hc]; omega)
  have hz1 : ¬ ((m : Int) = 0) := by omega
  have hz2 : ¬ ((i : Int) = (n : Int)) := by omega
  have hz3 : ¬ ((cap : Int) < (n : Int) + (m : Int)) := by omega
  have hin : (i : Int) ≤ (n : Int) := by omega
  have hin2 : (i : Int) ≤ (n : Int) + (m : Int) := by omega
  have hw1 : IntKind.i64.wrap ((i : Int) + (m : Int)) = (i : Int) + (m : Int) := by rw [IntKind.wrap_i64]; omega
  have hb1 : (0 : Int) ≤ (i : Int) + (m : Int) := by omega
  have hb0 : (0 : Int) ≤ (n : Int) + (m : Int) := by omega
  have hb7 : (n : Int) + (m : Int) ≤ (cap : Int) := by omega
  have htn : ((i : Int) + (m : Int)).toNat = i + m := by omega
  have htn2 : ((n : Int) + (m : Int)).toNat = n + m := by omega
  have hb2 : ¬ (cap = i + m) := by omega
  have hb4 : ¬ (cap = i) := by omega
  go_enter Try.func53, Try.ntmps53
  go_wp2_with (simp only [hov])
  go_region_law (refine step_copy rfl _ _ 79 79 rfl _ _ (by simp [Act.eval, Act.put]) (by simp [Act.eval, Act.put]) (hr1 _ _ _) ?_)
  go_wp2_with (at_builtin; refine wpl_copy _ rfl _ _ 79 79 rfl _ _ rfl rfl (hr2 _ _ _) ?_)
  go_ret
  refine ⟨_, rfl, hrow2, ?_, grownBy_trans (grownBy_trans (grownBy_drew _ _) hgr1) hgr2, ?_⟩
  · simp only [List.length_append, List.length_take, List.length_drop, hvl', htl, hc]; omega
  · exact shift_list cur (cv.take (m * 5)) (i * 5) (i * 5) (n * 5) (m * 5) hvl' (Nat.le_refl _) (by omega) (by omega) (by omega) (by omega) (by omega)

theorem cells_take {W : World} {g : Nat} {e : TypeId} {cur : List Value} (h : RowAt W g e cur) (q : Nat) : ∀ j u, (cur.take q)[j]? = some u → W.cell? ⟨g, j, none⟩ = some u := by
  intro j u hj
  rw [h.cell]
  rw [List.getElem?_take] at hj
  split at hj
  · exact hj
  · cases hj

set_option maxHeartbeats 4000000 in
set_option maxRecDepth 100000 in
/-- Insert of nothing; Insert at the end. -/
theorem insert_nothing (s v : Value) (a : Option Addr) (n cap i : Nat) (w : World) (hs : s = .slice a n cap) (ha : a = none ∨ ∃ g, a = some ⟨g, 0, none⟩) (vc : Nat) (va : Option Addr) (hv : v = .slice va 0 vc) (hi : i ≤ n) (hnc : n ≤ cap) (hcm : cap ≤ maxLen) :
    Calls Try.prog 53 #[s, .int .i64 i, v] w fun e w' => e = .returned s ∧ w' = w := by
  subst hs hv
  unfold maxLen at hcm
  have hin : (i : Int) ≤ (n : Int) := by omega
  rcases ha with rfl | ⟨g, rfl⟩
  all_goals
    go_enter Try.func53, Try.ntmps53
    go_wp2
    all_goals (go_ret; exact ⟨rfl, rfl⟩)

set_option maxHeartbeats 4000000 in
set_option maxRecDepth 100000 in
theorem insert_end (s v v' : Value) (a va : Option Addr) (n m cap vc : Nat) (w w' : World) (hs : s = .slice a n cap) (ha : a = none ∨ ∃ g, a = some ⟨g, 0, none⟩) (hv : v = .slice va m vc) (hm : 0 < m) (hnc : n ≤ cap) (hcm : cap ≤ maxLen)
    (hr : ∀ ty, (Builtin.append_ #[79, 79] ty #[s, v]).run Try.prog w = .ok v' w') :
    Calls Try.prog 53 #[s, .int .i64 n, v] w fun e w2 => e = .returned v' ∧ w2 = w' := by
  subst hs hv
  unfold maxLen at hcm
  have hz1 : ¬ ((m : Int) = 0) := by omega
  rcases ha with rfl | ⟨g, rfl⟩
  all_goals
    go_enter Try.func53, Try.ntmps53
    go_wp2_with (at_builtin; refine Lib.wpList_append_run _ rfl _ _ 79 79 rfl _ _ rfl rfl _ _ (hr _) ?_)
    all_goals (go_ret; exact ⟨rfl, rfl⟩)

theorem insert_any (lo n m i : Nat) (s v : Value) (xs vs : List Value) (w : World) (hs : w.ownsRow lo 85 5 s n xs) (hv : w.ownsRow lo 85 5 v m vs) (hne : ∀ g, s.ownBlock = some g → v.ownBlock ≠ some g)
    (hi : i ≤ n) (hby : (n + m) * 16 ≤ 140737488355328) (h1x : ∀ u ∈ xs, u.oneCell' = true) (h1v : ∀ u ∈ vs, u.oneCell' = true) (hlo : lo ≤ w.heap.size) :
    Calls Try.prog 53 #[s, .int .i64 i, v] w fun e w' => ∃ v', e = .returned v' ∧ w'.ownsRow lo 85 5 v' (n + m) (xs.take (i * 5) ++ vs ++ xs.drop (i * 5)) ∧ w.grownBy w' s.ownBlock ∧
      (∀ g, v'.ownBlock = some g → s.ownBlock = some g ∨ w.heap.size ≤ g) := by
  obtain ⟨inf, hi0, hz0, hzs, hzb⟩ := info_parts infoEL
  have hxl := hs.1
  have hvl := hv.1
  have hs0 := hs
  have hv0 := hv
  by_cases hm : m = 0
  · subst hm
    obtain rfl : vs = [] := List.eq_nil_of_length_eq_zero (by simpa using hvl)
    obtain ⟨va, vc, rfl⟩ : ∃ va vc, v = .slice va 0 vc := by
      rcases row_of_own hv with ⟨rfl, _, _⟩ | ⟨g, cap, cur, rfl, _⟩
      · exact ⟨_, _, rfl⟩
      · exact ⟨_, _, rfl⟩
    obtain ⟨a, cap, rfl, ha, hnc, hcm⟩ : ∃ a cap, s = .slice a n cap ∧ (a = none ∨ ∃ g, a = some ⟨g, 0, none⟩) ∧ n ≤ cap ∧ cap ≤ maxLen := by
      rcases row_of_own hs with ⟨rfl, rfl, _⟩ | ⟨g, cap, cur, rfl, _, _, h1, h2, _⟩
      · exact ⟨_, _, rfl, .inl rfl, Nat.le_refl _, by decide⟩
      · exact ⟨_, _, rfl, .inr ⟨g, rfl⟩, h1, h2⟩
    refine (insert_nothing _ _ a n cap i w rfl ha vc va rfl hi hnc hcm).mono ?_
    rintro e w' ⟨rfl, rfl⟩
    refine ⟨_, rfl, ?_, grownBy_refl _ _, fun g hg => .inl hg⟩
    rw [List.append_nil, List.take_append_drop]
    exact hs0
  · by_cases hin : i = n
    · subst hin
      obtain ⟨v', w', hr, ho, hg, hb⟩ := append_any (P := Try.prog) w 79 85 inf _ Try.underlying79 hi0 hz0 (by rw [hzs]; rfl) lo i m s v xs vs (by rw [hzs]; exact hs) (by rw [hzs]; exact src_of_own Try.underlying79 hv h1v) hlo (by unfold maxLen; omega) (by rw [hzb]; exact hby)
      rw [hzs] at ho
      obtain ⟨va, vc, rfl⟩ : ∃ va vc, v = .slice va m vc := by
        rcases row_of_own hv with ⟨rfl, rfl, _⟩ | ⟨g, cap, cur, rfl, _⟩
        · exact ⟨_, _, rfl⟩
        · exact ⟨_, _, rfl⟩
      obtain ⟨a, cap, rfl, ha, hnc, hcm⟩ : ∃ a cap, s = .slice a i cap ∧ (a = none ∨ ∃ g, a = some ⟨g, 0, none⟩) ∧ i ≤ cap ∧ cap ≤ maxLen := by
        rcases row_of_own hs with ⟨rfl, rfl, _⟩ | ⟨g, cap, cur, rfl, _, _, h1, h2, _⟩
        · exact ⟨_, _, rfl, .inl rfl, Nat.le_refl _, by decide⟩
        · exact ⟨_, _, rfl, .inr ⟨g, rfl⟩, h1, h2⟩
      refine (insert_end _ _ v' a va i m cap vc w w' rfl ha rfl (by omega) hnc hcm hr).mono ?_
      rintro e w2 ⟨rfl, rfl⟩
      refine ⟨_, rfl, ?_, hg, hb⟩
      rw [List.take_of_length_le (by omega), List.drop_eq_nil_of_le (by omega), List.append_nil]
      exact ho
    · rcases row_of_own hs with ⟨rfl, rfl, _⟩ | ⟨g, cap, cur, rfl, hlog, hg, hnc, hcm, hcl, hct⟩
      · omega
      rcases row_of_own hv with ⟨rfl, rfl, _⟩ | ⟨h, vc, cv, rfl, hloh, hh, hmc, hvcm, hcvl, hvt⟩
      · omega
      have hgh : h ≠ g := fun e => hne g rfl (by rw [e]; rfl)
      by_cases hroom : n + m ≤ cap
      · refine (insert_shift g cap n m i h vc cur cv w hg hcl hnc hcm hh (by omega) hgh (by omega) (by omega) hroom (by rw [hct]; exact h1x) (by rw [hvt]; exact h1v)).mono ?_
        rintro e w' ⟨cur', rfl, hrow, hl, hgr, ht⟩
        refine ⟨_, rfl, own_of_row hrow hlog hroom hcm hl ?_, hgr, fun g hg => .inl hg⟩
        rw [ht, hvt, hct, ← hct, List.take_take, Nat.min_eq_left (by omega)]
      · refine (insert_away g cap n m i h vc cur vs w hg hcl hnc hcm (fun j u hj => by have := hv0.cells rfl j u hj; rwa [Addr.add_lit, Nat.zero_add] at this) hvl hh.lt (by omega) (by omega) (by omega) hby (by rw [hct]; exact h1x) h1v).mono ?_
        rintro e w' ⟨c', cur', rfl, hrow, hl, hc1, hc2, hgr, ht⟩
        refine ⟨_, rfl, own_of_row hrow hlo hc1 hc2 hl ?_, grownBy_none _ hgr, fun g hg => .inr (by cases hg; exact Nat.le_refl _)⟩
        rw [ht, hct, ← hct, List.take_take, Nat.min_eq_left (by omega)]
end Go.Proofs.Ytplobjdghaokoaa
