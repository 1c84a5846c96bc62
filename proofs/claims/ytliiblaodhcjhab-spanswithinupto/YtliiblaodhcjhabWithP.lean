import Derived.Test.YtliiblaodhcjhabAlike
import Derived.Test.YtliiblaodhcjhabRRun
import Derived.Test.YtliiblaodhcjhabMade
namespace Go.Proofs.Ytliiblaodhcjhab
open Go.RowKit
set_option linter.unusedVariables false

/-- A span, cut off at both ends. -/
def cutW (lo hi : Int) (s : Sp Int) : Sp Int := ⟨if s.lo < lo then lo else s.lo, if hi < s.hi then hi else s.hi, s.val⟩
def outW (lo hi : Int) (s : Sp Int) : Bool := decide (s.hi < lo) || decide (hi < s.lo)
/-- What of the spans lies from lo to hi. -/
def withinL (lo hi : Int) (L : List (Sp Int)) : List (Sp Int) := (L.filter fun s => !outW lo hi s).map (cutW lo hi)
theorem within_nil (lo hi : Int) : withinL lo hi [] = [] := rfl
theorem within_snoc (lo hi : Int) (L : List (Sp Int)) (s : Sp Int) : withinL lo hi (L ++ [s]) = if outW lo hi s then withinL lo hi L else withinL lo hi L ++ [cutW lo hi s] := by
  rw [withinL, withinL, List.filter_append, List.map_append]
  cases h : outW lo hi s <;> simp [h]
theorem within_len (lo hi : Int) (L : List (Sp Int)) : (withinL lo hi L).length ≤ L.length := by
  rw [withinL, List.length_map]
  exact List.length_filter_le _ _

/-- The spans that are met lie side by side. -/
theorem within_mid {L : List (Sp Int)} {c : Int} {u : Option Int} (h : Good c u L) {lo hi : Int} (hlh : lo ≤ hi) : withinL lo hi L = ((L.drop (ei L lo)).take (sa L hi - ei L lo)).map (cutW lo hi) := by
  rw [withinL]
  congr 1
  induction L generalizing c u with
  | nil => rfl
  | cons s r ih =>
    have hr := h.2.2.2.2
    have hs := good_lo h s (by simp)
    by_cases h1 : s.hi < lo
    · have ho : outW lo hi s = true := by simp [outW, h1]
      rw [List.filter_cons, ho, ei_cons_high s r h1, sa_cons_high s r (by omega)]
      simp only [Bool.not_true, Bool.false_eq_true, if_false, List.drop_succ_cons]
      rw [ih hr]
      congr 1
      omega
    · rw [ei_cons_low h (by omega)]
      by_cases h2 : hi < s.lo
      · rw [sa_cons_low h h2]
        have : ∀ t ∈ s :: r, outW lo hi t = true := by
          intro t ht
          rcases List.mem_cons.1 ht with rfl | ht
          · simp [outW, h2]
          · have := good_lo hr t ht
            have h3 : hi < t.lo := by omega
            simp [outW, h3]
        rw [List.filter_eq_nil_iff.2 (fun t ht => by simp [this t ht])]
        rfl
      · have ho : outW lo hi s = false := by
          have a1 : ¬ s.hi < lo := h1
          have a2 : ¬ hi < s.lo := h2
          simp [outW, a1, a2]
        rw [List.filter_cons, ho, sa_cons_high s r (by omega)]
        simp only [Bool.not_false, if_true, List.drop_zero, Nat.sub_zero, List.take_succ_cons]
        congr 1
        have hz : ei r lo = 0 := ei_zero hr (by omega)
        rw [ih hr, hz]
        rfl

theorem lr_append1 (w : World) (B : Nat) (pv : Value) (A : List (Sp Int)) (t : Sp Int) (h : Lr w B pv A) (hB : B ≤ w.heap.size) (hby : A.length ≤ 9000000) :
    ∃ v' w', (∀ ty, (Builtin.append_ #[36, 36] ty #[pv, .slice (some ⟨w.heap.size, 0, none⟩) 1 1]).run Try.prog (w.alloc (.cells #[.int .u64 t.lo, .int .u64 t.hi, .int .i64 t.val] 47)) = .ok v' w') ∧ Lr w' B v' (A ++ [t]) ∧ w.grownBy w' pv.ownBlock := by
  obtain ⟨inf, hi0, hz0, hzs, hzb⟩ := info_parts infoRE
  have h1 : Below w.heap.size w (w.alloc (.cells #[.int .u64 t.lo, .int .u64 t.hi, .int .i64 t.val] 47)) := below_alloc (Below.refl _ w) _
  have ho1 : (w.alloc (.cells #[.int .u64 t.lo, .int .u64 t.hi, .int .i64 t.val] 47)).ownsRow 0 47 3 (.slice (some ⟨w.heap.size, 0, none⟩) 1 1) 1 (encI t) :=
    own_of_row (cur := encI t) (heap_alloc_new w _) (Nat.zero_le _) (Nat.le_refl _) (by decide) rfl rfl
  obtain ⟨v', w', hr, ho, hg, hb⟩ := append_any (P := Try.prog) (w.alloc (.cells #[.int .u64 t.lo, .int .u64 t.hi, .int .i64 t.val] 47)) 36 47 inf _ Try.underlying36 hi0 hz0 (by rw [hzs]; rfl) B A.length 1 pv (.slice (some ⟨w.heap.size, 0, none⟩) 1 1) (cellsI A) (encI t)
    (by rw [hzs]; exact row_keep h h1) (by rw [hzs]; exact src_of_own Try.underlying36 ho1 (by intro u hu; simp [encI] at hu; rcases hu with rfl | rfl | rfl <;> rfl)) (Nat.le_trans hB h1.size) (by unfold maxLen; omega) (by rw [hzb]; omega)
  refine ⟨v', w', hr, ?_, grownBy_trans (grownBy_none _ (below_grown h1)) hg⟩
  rw [hzs] at ho
  rw [Lr, List.length_append, cellsI_append]
  simpa [cellsI] using ho

set_option maxHeartbeats 6000000 in
set_option maxRecDepth 100000 in
theorem rwithin_le (W : World) (lo0 p : Nat) (v : Value) (D : List Dn) (h : RefAt W lo0 p v D) (hs : D.length ≤ 1048576) (L : List (Sp Int)) (hL : Good 0 none L) (hBo : Both L D) (lo hi : Int) (hlh : lo ≤ hi) :
    Calls Try.prog 12 #[.pointer (some ⟨p, 0, none⟩), .int .u64 lo, .int .u64 hi] W fun e W' => ∃ v', e = .returned v' ∧ (Lr W' W.heap.size v' (withinL lo hi L) ∧ L.length ≤ 3000000) ∧ Below W.heap.size W W' := by
  have hC := rsp_is W lo0 p v D h hs L hL hBo
  clear h hBo hL
  go_enter Try.func12, Try.ntmps12
  go_wp2_with (fail)
  refine hC.mono ?_
  rintro e w1 ⟨vl, rfl, ⟨hLr, hll⟩, hb1⟩
  obtain ⟨la, lc, hlv, hlcell⟩ := Lr.view hLr
  subst hlv
  have HV : Hid (∀ i s, L[i]? = some s → ∃ g, la = some ⟨g, 0, none⟩ ∧ g < w1.heap.size ∧ w1.cell? ⟨g, i * 3, none⟩ = some (.int .u64 s.lo) ∧ w1.cell? ⟨g, i * 3 + 1, none⟩ = some (.int .u64 s.hi) ∧ w1.cell? ⟨g, i * 3 + 2, none⟩ = some (.int .i64 s.val)) := fun i s hs => by
    obtain ⟨g, h1, h2, h3, h4, h5, h6, h7⟩ := hlcell i s hs
    exact ⟨g, h1, h3, h4, h5, h6⟩
  clear hC hLr hlcell
  generalize hn : L.length = n at *
  have HN : Hid (L.length = n) := hn
  clear hn
  go_wp2
  go_loopw [8, 9] (fun sl si wr => ∃ (i : Nat) (va : Option Addr) (vc : Nat), sl = .slice va (withinL lo hi (L.take i)).length vc ∧ si = .int .i64 i ∧ i ≤ n ∧ Hid (Lr wr w1.heap.size (.slice va (withinL lo hi (L.take i)).length vc) (withinL lo hi (L.take i))) ∧ Hid (Below w1.heap.size w1 wr)) (fun _ si _ => n - (intOf si).toNat)
  case atStart => exact ⟨0, none, 0, rfl, rfl, Nat.zero_le _, World.ownsRow_nil _ _ _ _, Below.refl _ _⟩
  case round =>
    obtain ⟨i, va, vc, rfl, rfl, hi', HY, HB⟩ := hrel
    by_cases hlt : i < n
    · obtain ⟨s, hs'⟩ : ∃ s, L[i]? = some s := ⟨_, List.getElem?_eq_getElem (by rw [HN.out]; exact hlt)⟩
      obtain ⟨g, rfl, hgl, q0, q1, q2⟩ := HV.out i s hs'
      have HT : Hid (withinL lo hi (L.take (i + 1)) = if outW lo hi s then withinL lo hi (L.take i) else withinL lo hi (L.take i) ++ [cutW lo hi s]) := by
        have hk' : i < L.length := (List.getElem?_eq_some_iff.1 hs').1
        have ho' : L[i] = s := (List.getElem?_eq_some_iff.1 hs').2
        show _ = _
        rw [List.take_succ_eq_append_getElem hk', ho', within_snoc]
      have hMl := within_len lo hi (L.take i)
      have hMl2 : (L.take i).length ≤ n := by rw [List.length_take, HN.out]; omega
      generalize withinL lo hi (L.take i) = M at *
      obtain ⟨hcc, _⟩ := bcell HB.out
      rw [← hcc g _ hgl] at q0 q1 q2
      clear hcc hs'
      have hiz : (i : Int) < (n : Int) := by omega
      have hi0 : (0 : Int) ≤ (i : Int) := by omega
      have hMb : M.length ≤ 9000000 := by omega
      by_cases c1 : s.hi < lo
      · have HT2 : Hid (withinL lo hi (L.take (i + 1)) = M) := by show _ = _; rw [HT.out, if_pos (by simp [outW, c1])]
        have hba := below_alloc (Below.refl wr.heap.size wr) (.cells #[.int .u64 s.lo, .int .u64 s.hi, .int .i64 s.val] 47)
        go_wp2
        go_roundw
        case rel => exact ⟨i + 1, va, vc, by rw [HT2.out], by go_num, by omega, by rw [HT2.out]; exact row_keep HY.out hba, below_go HB.out hba⟩
        case measure => simp [intOf]; omega
      · by_cases c2 : hi < s.lo
        · have HT2 : Hid (withinL lo hi (L.take (i + 1)) = M) := by show _ = _; rw [HT.out, if_pos (by simp [outW, c2])]
          have hba := below_alloc (Below.refl wr.heap.size wr) (.cells #[.int .u64 s.lo, .int .u64 s.hi, .int .i64 s.val] 47)
          go_wp2
          go_roundw
          case rel => exact ⟨i + 1, va, vc, by rw [HT2.out], by go_num, by omega, by rw [HT2.out]; exact row_keep HY.out hba, below_go HB.out hba⟩
          case measure => simp [intOf]; omega
        · have HT2 : Hid (withinL lo hi (L.take (i + 1)) = M ++ [cutW lo hi s]) := by show _ = _; rw [HT.out, if_neg (by simp [outW]; omega)]
          by_cases c3 : s.lo < lo
          · by_cases c4 : hi < s.hi
            · have hba := below_alloc (Below.refl wr.heap.size wr) (.cells #[.int .u64 lo, .int .u64 hi, .int .i64 s.val] 47)
              have hcw : cutW lo hi s = ⟨lo, hi, s.val⟩ := by simp [cutW, c3, c4]
              obtain ⟨v5, w5, hr5, hk5, hg5⟩ := lr_append1 (wr.alloc (.cells #[.int .u64 lo, .int .u64 hi, .int .i64 s.val] 47)) w1.heap.size (.slice va M.length vc) M ⟨lo, hi, s.val⟩ (row_keep HY.out hba) (Nat.le_trans HB.out.size hba.size) hMb
              have hB5 : Below w1.heap.size w1 w5 := (below_go HB.out hba).grown hg5 (Nat.le_trans HB.out.size hba.size) (fun g hg => (World.ownsRow.lt HY.out g hg).1)
              rw [← hcw, ← HT2.out] at hk5
              obtain ⟨va5, vc5, hv5⟩ := slice_form hk5
              subst hv5
              rw [World.size_alloc] at hr5
              have HK5 : Hid (Lr w5 w1.heap.size (.slice va5 (withinL lo hi (L.take (i + 1))).length vc5) (withinL lo hi (L.take (i + 1)))) := hk5
              clear hk5 hg5 hcw
              go_wp2_with (at_builtin; refine Lib.wpList_append_run _ rfl _ _ 36 36 rfl _ _ (by rfl) (by rfl) _ _ (hr5 _) ?_)
              go_roundw
              case rel => exact ⟨i + 1, va5, vc5, rfl, by go_num, by omega, HK5, hB5⟩
              case measure => simp [intOf]; omega
            · have hba := below_alloc (Below.refl wr.heap.size wr) (.cells #[.int .u64 lo, .int .u64 s.hi, .int .i64 s.val] 47)
              have hcw : cutW lo hi s = ⟨lo, s.hi, s.val⟩ := by simp [cutW, c3, c4]
              obtain ⟨v5, w5, hr5, hk5, hg5⟩ := lr_append1 (wr.alloc (.cells #[.int .u64 lo, .int .u64 s.hi, .int .i64 s.val] 47)) w1.heap.size (.slice va M.length vc) M ⟨lo, s.hi, s.val⟩ (row_keep HY.out hba) (Nat.le_trans HB.out.size hba.size) hMb
              have hB5 : Below w1.heap.size w1 w5 := (below_go HB.out hba).grown hg5 (Nat.le_trans HB.out.size hba.size) (fun g hg => (World.ownsRow.lt HY.out g hg).1)
              rw [← hcw, ← HT2.out] at hk5
              obtain ⟨va5, vc5, hv5⟩ := slice_form hk5
              subst hv5
              rw [World.size_alloc] at hr5
              have HK5 : Hid (Lr w5 w1.heap.size (.slice va5 (withinL lo hi (L.take (i + 1))).length vc5) (withinL lo hi (L.take (i + 1)))) := hk5
              clear hk5 hg5 hcw
              go_wp2_with (at_builtin; refine Lib.wpList_append_run _ rfl _ _ 36 36 rfl _ _ (by rfl) (by rfl) _ _ (hr5 _) ?_)
              go_roundw
              case rel => exact ⟨i + 1, va5, vc5, rfl, by go_num, by omega, HK5, hB5⟩
              case measure => simp [intOf]; omega
          · by_cases c4 : hi < s.hi
            · have hba := below_alloc (Below.refl wr.heap.size wr) (.cells #[.int .u64 s.lo, .int .u64 hi, .int .i64 s.val] 47)
              have hcw : cutW lo hi s = ⟨s.lo, hi, s.val⟩ := by simp [cutW, c3, c4]
              obtain ⟨v5, w5, hr5, hk5, hg5⟩ := lr_append1 (wr.alloc (.cells #[.int .u64 s.lo, .int .u64 hi, .int .i64 s.val] 47)) w1.heap.size (.slice va M.length vc) M ⟨s.lo, hi, s.val⟩ (row_keep HY.out hba) (Nat.le_trans HB.out.size hba.size) hMb
              have hB5 : Below w1.heap.size w1 w5 := (below_go HB.out hba).grown hg5 (Nat.le_trans HB.out.size hba.size) (fun g hg => (World.ownsRow.lt HY.out g hg).1)
              rw [← hcw, ← HT2.out] at hk5
              obtain ⟨va5, vc5, hv5⟩ := slice_form hk5
              subst hv5
              rw [World.size_alloc] at hr5
              have HK5 : Hid (Lr w5 w1.heap.size (.slice va5 (withinL lo hi (L.take (i + 1))).length vc5) (withinL lo hi (L.take (i + 1)))) := hk5
              clear hk5 hg5 hcw
              go_wp2_with (at_builtin; refine Lib.wpList_append_run _ rfl _ _ 36 36 rfl _ _ (by rfl) (by rfl) _ _ (hr5 _) ?_)
              go_roundw
              case rel => exact ⟨i + 1, va5, vc5, rfl, by go_num, by omega, HK5, hB5⟩
              case measure => simp [intOf]; omega
            · have hba := below_alloc (Below.refl wr.heap.size wr) (.cells #[.int .u64 s.lo, .int .u64 s.hi, .int .i64 s.val] 47)
              have hcw : cutW lo hi s = ⟨s.lo, s.hi, s.val⟩ := by simp [cutW, c3, c4]
              obtain ⟨v5, w5, hr5, hk5, hg5⟩ := lr_append1 (wr.alloc (.cells #[.int .u64 s.lo, .int .u64 s.hi, .int .i64 s.val] 47)) w1.heap.size (.slice va M.length vc) M ⟨s.lo, s.hi, s.val⟩ (row_keep HY.out hba) (Nat.le_trans HB.out.size hba.size) hMb
              have hB5 : Below w1.heap.size w1 w5 := (below_go HB.out hba).grown hg5 (Nat.le_trans HB.out.size hba.size) (fun g hg => (World.ownsRow.lt HY.out g hg).1)
              rw [← hcw, ← HT2.out] at hk5
              obtain ⟨va5, vc5, hv5⟩ := slice_form hk5
              subst hv5
              rw [World.size_alloc] at hr5
              have HK5 : Hid (Lr w5 w1.heap.size (.slice va5 (withinL lo hi (L.take (i + 1))).length vc5) (withinL lo hi (L.take (i + 1)))) := hk5
              clear hk5 hg5 hcw
              go_wp2_with (at_builtin; refine Lib.wpList_append_run _ rfl _ _ 36 36 rfl _ _ (by rfl) (by rfl) _ _ (hr5 _) ?_)
              go_roundw
              case rel => exact ⟨i + 1, va5, vc5, rfl, by go_num, by omega, HK5, hB5⟩
              case measure => simp [intOf]; omega
    · obtain rfl : i = n := by omega
      have HE : Hid (L.take i = L) := by show _ = _; rw [← HN.out]; exact List.take_length
      have HF : Hid (Lr wr W.heap.size (.slice va (withinL lo hi (L.take i)).length vc) (withinL lo hi L)) := by
        show Lr _ _ _ _
        have h1 : Lr wr W.heap.size _ _ := own_mono HY.out hb1.size
        rw [HE.out] at h1 ⊢
        exact h1
      go_wp2
      go_ret
      exact ⟨_, rfl, ⟨HF.out, by rw [HN.out]; exact hll⟩, below_go hb1 HB.out⟩

set_option maxHeartbeats 6000000 in
set_option maxRecDepth 100000 in
theorem rwithin_gt (W : World) (lo0 p : Nat) (v : Value) (D : List Dn) (h : RefAt W lo0 p v D) (hs : D.length ≤ 1048576) (L : List (Sp Int)) (hL : Good 0 none L) (hBo : Both L D) (lo hi : Int) (hlh : ¬ lo ≤ hi) :
    Calls Try.prog 12 #[.pointer (some ⟨p, 0, none⟩), .int .u64 lo, .int .u64 hi] W fun e W' => ∃ v', e = .returned v' ∧ (Lr W' W.heap.size v' [] ∧ L.length ≤ 3000000) ∧ Below W.heap.size W W' := by
  have hC := rsp_is W lo0 p v D h hs L hL hBo
  clear h hBo hL
  go_enter Try.func12, Try.ntmps12
  go_wp2_with (fail)
  refine hC.mono ?_
  rintro e w1 ⟨vl, rfl, ⟨hLr, hll⟩, hb1⟩
  obtain ⟨la, lc, hlv, hlcell⟩ := Lr.view hLr
  subst hlv
  have HV : Hid (∀ i s, L[i]? = some s → ∃ g, la = some ⟨g, 0, none⟩ ∧ g < w1.heap.size ∧ w1.cell? ⟨g, i * 3, none⟩ = some (.int .u64 s.lo) ∧ w1.cell? ⟨g, i * 3 + 1, none⟩ = some (.int .u64 s.hi) ∧ w1.cell? ⟨g, i * 3 + 2, none⟩ = some (.int .i64 s.val)) := fun i s hs => by
    obtain ⟨g, h1, h2, h3, h4, h5, h6, h7⟩ := hlcell i s hs
    exact ⟨g, h1, h3, h4, h5, h6⟩
  clear hC hLr hlcell
  generalize hn : L.length = n at *
  have HN : Hid (L.length = n) := hn
  clear hn
  go_wp2
  go_loopw [8, 9] (fun sl si wr => sl = .slice none 0 0 ∧ si = .int .i64 0 ∧ Hid (Below w1.heap.size w1 wr)) (fun _ _ _ => 0)
  case atStart => exact ⟨rfl, rfl, Below.refl _ _⟩
  case round =>
    obtain ⟨rfl, rfl, HB⟩ := hrel
    by_cases hz : n = 0
    · subst hz
      go_wp2
      go_ret
      exact ⟨_, rfl, ⟨World.ownsRow_nil _ _ _ _, by rw [HN.out]; exact hll⟩, below_go hb1 HB.out⟩
    · have hpos : (0 : Int) < (n : Int) := by omega
      clear hz
      go_wp2
      go_ret
      exact ⟨_, rfl, ⟨World.ownsRow_nil _ _ _ _, by rw [HN.out]; exact hll⟩, below_go hb1 HB.out⟩
end Go.Proofs.Ytliiblaodhcjhab
