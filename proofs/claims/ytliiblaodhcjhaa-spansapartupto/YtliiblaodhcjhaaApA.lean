import Derived.Test.YtliiblaodhcjhaaSaid
import Derived.Test.YtliiblaodhcjhaaTwo
namespace Go.Proofs.Ytliiblaodhcjhaa
open Go.RowKit
set_option linter.unusedVariables false

def encO (o : Op4) : List Value := [.int .i64 o.kind, .int .u64 o.lo, .int .u64 o.hi, .int .i64 o.val]
def cellsO (L : List Op4) : List Value := L.flatMap encO
theorem cellsO_append (A B : List Op4) : cellsO (A ++ B) = cellsO A ++ cellsO B := by simp [cellsO]
theorem cellsO_one (L : List Op4) : ∀ u ∈ cellsO L, u.oneCell' = true := by
  intro u hu
  simp only [cellsO, List.mem_flatMap, encO] at hu
  obtain ⟨o, _, hs⟩ := hu
  simp only [List.mem_cons, List.not_mem_nil, or_false] at hs
  rcases hs with rfl | rfl | rfl | rfl <;> rfl
theorem infoO : (Try.prog.info? 28).map (fun i => (i.zero, i.size, i.bytes)) = some (some (.agg #[.int .i64 0, .int .u64 0, .int .u64 0, .int .i64 0]), 4, 32) := by kernel_rfl

/-- A list of calls that is owned. -/
def Opl (W : World) (lo : Nat) (v : Value) (L : List Op4) : Prop := W.ownsRow lo 28 4 v L.length (cellsO L)

theorem cellsO_len (L : List Op4) : (cellsO L).length = L.length * 4 := cat_len encO 4 (fun _ => rfl) L

theorem src_script {W w : World} {a : Option Addr} {ops : List Op4} (h : Script W a ops) (hB : Below W.heap.size W w) (cap : Nat) : Src Try.prog 4 22 (.slice a ops.length cap) ops.length (cellsO ops) w := by
  cases a with
  | none =>
    obtain rfl : ops = [] := by
      cases ops with
      | nil => rfl
      | cons x r => obtain ⟨b, off, e, _⟩ := h.lies 0 x rfl; cases e
    exact Src.ofNil w Try.underlying22 cap
  | some ad =>
    refine Src.ofSlice w Try.underlying22 ad ops.length cap _ (cellsO_len ops) (fun j u hj => ?_) (cellsO_one ops)
    have hlt : j < ops.length * 4 := by rw [← cellsO_len]; exact (List.getElem?_eq_some_iff.1 hj).1
    obtain ⟨o, ho⟩ : ∃ o, ops[j / 4]? = some o := ⟨_, List.getElem?_eq_getElem (by omega)⟩
    obtain ⟨b, off, e, hb, c0, c1, c2, c3⟩ := h.lies (j / 4) o ho
    cases e
    have hq := cat_at encO 4 (fun _ => rfl) ho (j % 4) (Nat.mod_lt _ (by decide))
    rw [show j / 4 * 4 + j % 4 = j by omega] at hq
    rw [show (ops.flatMap encO)[j]? = some u from hj] at hq
    rw [Addr.add_lit, hB.cell hb]
    have hm : j % 4 < 4 := Nat.mod_lt _ (by decide)
    have hj4 : off + j = off + j / 4 * 4 + j % 4 := by omega
    rw [hj4]
    generalize j % 4 = r at *
    match r, hm with
    | 0, _ => rw [hq]; exact c0
    | 1, _ => rw [hq]; exact c1
    | 2, _ => rw [hq]; exact c2
    | 3, _ => rw [hq]; exact c3

theorem os_append (w : World) (B : Nat) (pv x : Value) (A M : List Op4) (h : Opl w B pv A) (hx : Src Try.prog 4 22 x M.length (cellsO M) w) (hB : B ≤ w.heap.size) (hby : A.length + M.length ≤ 9000000) :
    ∃ v' w', (∀ ty, (Builtin.append_ #[22, 22] ty #[pv, x]).run Try.prog w = .ok v' w') ∧ Opl w' B v' (A ++ M) ∧ w.grownBy w' pv.ownBlock := by
  obtain ⟨inf, hi0, hz0, hzs, hzb⟩ := info_parts infoO
  obtain ⟨v', w', hr, ho, hg, hb⟩ := append_any (P := Try.prog) w 22 28 inf _ Try.underlying22 hi0 hz0 (by rw [hzs]; rfl) B A.length M.length pv x (cellsO A) (cellsO M)
    (by rw [hzs]; exact h) (by rw [hzs]; exact hx) hB (by unfold maxLen; omega) (by rw [hzb]; omega)
  refine ⟨v', w', hr, ?_, hg⟩
  rw [hzs] at ho
  rw [Opl, List.length_append, cellsO_append]
  exact ho

theorem os_one (w : World) (B : Nat) (pv : Value) (A : List Op4) (t : Op4) (h : Opl w B pv A) (hB : B ≤ w.heap.size) (hby : A.length ≤ 8000000) :
    ∃ v' w', (∀ ty, (Builtin.append_ #[22, 22] ty #[pv, .slice (some ⟨w.heap.size, 0, none⟩) 1 1]).run Try.prog (w.alloc (.cells #[.int .i64 t.kind, .int .u64 t.lo, .int .u64 t.hi, .int .i64 t.val] 28)) = .ok v' w') ∧ Opl w' B v' (A ++ [t]) ∧ w.grownBy w' pv.ownBlock := by
  have h1 : Below w.heap.size w (w.alloc (.cells #[.int .i64 t.kind, .int .u64 t.lo, .int .u64 t.hi, .int .i64 t.val] 28)) := below_alloc (Below.refl _ w) _
  have ho1 : (w.alloc (.cells #[.int .i64 t.kind, .int .u64 t.lo, .int .u64 t.hi, .int .i64 t.val] 28)).ownsRow 0 28 4 (.slice (some ⟨w.heap.size, 0, none⟩) 1 1) 1 (cellsO [t]) :=
    own_of_row (cur := encO t) (heap_alloc_new w _) (Nat.zero_le _) (Nat.le_refl _) (by decide) rfl rfl
  obtain ⟨v', w', hr, ho, hg⟩ := os_append _ B pv (.slice (some ⟨w.heap.size, 0, none⟩) 1 1) A [t] (row_keep h h1) (src_of_own Try.underlying22 ho1 (cellsO_one _)) (Nat.le_trans hB h1.size) (by simp; omega)
  exact ⟨v', w', hr, ho, grownBy_trans (grownBy_none _ (below_grown h1)) hg⟩

theorem Opl.script {W : World} {lo : Nat} {v : Value} {ops : List Op4} (h : Opl W lo v ops) (hr : ∀ o ∈ ops, (0 ≤ o.lo ∧ o.lo ≤ 18446744073709551615) ∧ (0 ≤ o.hi ∧ o.hi ≤ 18446744073709551615) ∧ (-9223372036854775808 ≤ o.kind ∧ o.kind ≤ 9223372036854775807) ∧ (-9223372036854775808 ≤ o.val ∧ o.val ≤ 9223372036854775807)) :
    ∃ a cap, v = .slice a ops.length cap ∧ Script W a ops := by
  rcases row_of_own h with ⟨rfl, h1, h2⟩ | ⟨g, cap, cur, rfl, a, b, c, d, e, f⟩
  · have : ops = [] := List.eq_nil_of_length_eq_zero h1
    subst this
    exact ⟨none, 0, rfl, ⟨fun i o ho => by simp at ho, hr⟩⟩
  · refine ⟨some ⟨g, 0, none⟩, cap, rfl, ⟨fun i o ho => ?_, hr⟩⟩
    have hlt : i < ops.length := (List.getElem?_eq_some_iff.1 ho).1
    have hc : ∀ j, j < 4 → W.cell? ⟨g, i * 4 + j, none⟩ = (encO o)[j]? := fun j hj => by
      rw [World.ownsRow.cellAt h (i * 4 + j) (by omega)]
      exact cat_at encO 4 (fun _ => rfl) ho j hj
    refine ⟨g, 0, rfl, b.lt, ?_, ?_, ?_, ?_⟩
    · rw [Nat.zero_add]; exact hc 0 (by omega)
    · rw [Nat.zero_add]; exact hc 1 (by omega)
    · rw [Nat.zero_add]; exact hc 2 (by omega)
    · rw [Nat.zero_add]; exact hc 3 (by omega)

def clrO (o : Op4) : Op4 := if o.kind = 1 then o else ⟨2, o.lo, o.hi, o.val⟩
/-- One call of the kind that a clone is given. -/
def layC (L : List (Sp Int)) (o : Op4) : List (Sp Int) := if o.kind = 1 then setR L o.lo o.hi o.val else clearR L o.lo o.hi
theorem layS_clr (L : List (Sp Int)) (o : Op4) : layS L (clrO o) = layC L o := by
  rw [clrO, layC]
  by_cases h : o.kind = 1
  · rw [if_pos h, if_pos h, layS, if_pos h]
  · rw [if_neg h, if_neg h, layS]
    simp
theorem layL_clr (ops more : List Op4) : layL (ops ++ more.map clrO) = more.foldl layC (layL ops) := by
  rw [layL, List.foldl_append, ← layL]
  generalize layL ops = L
  induction more generalizing L with
  | nil => rfl
  | cons o r ih =>
    rw [List.map_cons, List.foldl_cons, List.foldl_cons, layS_clr]
    exact ih _

set_option maxHeartbeats 4000000 in
set_option maxRecDepth 100000 in
theorem cleared_any (W0 W : World) (hB : Below W0.heap.size W0 W) (a : Option Addr) (cap : Nat) (ops : List Op4) (S : Script W0 a ops) (hs : ops.length ≤ 1048576) :
    Calls Try.prog 28 #[.slice a ops.length cap] W fun e W' => ∃ v', e = .returned v' ∧ Opl W' W.heap.size v' (ops.map clrO) ∧ Below W.heap.size W W' := by
  have HS : Hid (Script W0 a ops) := S
  clear S
  generalize hn : ops.length = n at *
  have HN : Hid (ops.length = n) := hn
  clear hn
  go_enter Try.func28, Try.ntmps28
  go_wp2
  go_loopw [3, 4] (fun sl si wr => ∃ (k : Nat) (va : Option Addr) (vc : Nat), sl = .slice va k vc ∧ si = .int .i64 k ∧ k ≤ n ∧ Hid (Opl wr W.heap.size (.slice va k vc) ((ops.take k).map clrO)) ∧ Hid (Below W.heap.size W wr)) (fun _ si _ => n - (intOf si).toNat)
  case atStart => exact ⟨0, none, 0, rfl, rfl, Nat.zero_le _, World.ownsRow_nil _ _ _ _, Below.refl _ _⟩
  case round =>
    obtain ⟨k, va, vc, rfl, rfl, hk, HO, HB⟩ := hrel
    by_cases hlt : k < n
    · obtain ⟨o, ho⟩ : ∃ o, ops[k]? = some o := ⟨_, List.getElem?_eq_getElem (by rw [HN.out]; exact hlt)⟩
      obtain ⟨b, off, rfl, hbl, e0, e1, e2, e3⟩ := HS.out.lies k o ho
      obtain ⟨hcc, _⟩ := bcell (below_go hB HB.out)
      rw [← hcc b _ hbl] at e0 e1 e2 e3
      have HT : Hid ((ops.take (k + 1)).map clrO = (ops.take k).map clrO ++ [clrO o]) := by
        have hk' : k < ops.length := (List.getElem?_eq_some_iff.1 ho).1
        have ho' : ops[k] = o := (List.getElem?_eq_some_iff.1 ho).2
        show _ = _
        rw [List.take_succ_eq_append_getElem hk', ho', List.map_append]
        rfl
      have HL : Hid (((ops.take k).map clrO).length = k) := by
        show _ = _
        rw [List.length_map, List.length_take, HN.out]
        omega
      clear hcc ho
      have hltz : (k : Int) < (n : Int) := by omega
      have hk0 : (0 : Int) ≤ (k : Int) := by omega
      generalize (ops.take k).map clrO = M at *
      by_cases hk1 : o.kind = 1
      · have hk2 : (o.kind == 1) = true := by simp [hk1]
        have hb1 := below_alloc (Below.refl wr.heap.size wr) (.cells #[.int .i64 o.kind, .int .u64 o.lo, .int .u64 o.hi, .int .i64 o.val] 28)
        obtain ⟨v1, w1, hr1, ho1, hg1⟩ := os_one (wr.alloc (.cells #[.int .i64 o.kind, .int .u64 o.lo, .int .u64 o.hi, .int .i64 o.val] 28)) W.heap.size (.slice va k vc) M o (row_keep HO.out hb1) (Nat.le_trans HB.out.size hb1.size) (by rw [HL.out]; omega)
        have hB1 : Below W.heap.size W w1 := (below_go HB.out hb1).grown hg1 (Nat.le_trans HB.out.size hb1.size) (fun g hg => (World.ownsRow.lt HO.out g hg).1)
        rw [show M ++ [o] = (ops.take (k + 1)).map clrO by rw [HT.out, clrO, if_pos hk1]] at ho1
        obtain ⟨va3, vc3, hv3⟩ := slice_form ho1
        have hl3 : ((ops.take (k + 1)).map clrO).length = k + 1 := by rw [HT.out]; simp [HL.out]
        rw [hl3] at hv3
        subst hv3
        have HK : Hid (Opl w1 W.heap.size (.slice va3 (k + 1) vc3) ((ops.take (k + 1)).map clrO)) := ho1
        rw [World.size_alloc] at hr1
        clear ho1 hg1 hk1 hl3
        go_wp2_with (at_builtin; refine Lib.wpList_append_run _ rfl _ _ 22 22 rfl _ _ (by rfl) (by rfl) _ _ (hr1 _) ?_)
        go_roundw
        case rel => exact ⟨k + 1, va3, vc3, rfl, by go_num, by omega, HK, hB1⟩
        case measure => simp [intOf]; omega
      · have hk2 : (o.kind == 1) = false := by simp [hk1]
        have hb1 := below_alloc (Below.refl wr.heap.size wr) (.cells #[.int .i64 2, .int .u64 o.lo, .int .u64 o.hi, .int .i64 o.val] 28)
        obtain ⟨v1, w1, hr1, ho1, hg1⟩ := os_one (wr.alloc (.cells #[.int .i64 2, .int .u64 o.lo, .int .u64 o.hi, .int .i64 o.val] 28)) W.heap.size (.slice va k vc) M ⟨2, o.lo, o.hi, o.val⟩ (row_keep HO.out hb1) (Nat.le_trans HB.out.size hb1.size) (by rw [HL.out]; omega)
        have hB1 : Below W.heap.size W w1 := (below_go HB.out hb1).grown hg1 (Nat.le_trans HB.out.size hb1.size) (fun g hg => (World.ownsRow.lt HO.out g hg).1)
        rw [show M ++ [⟨2, o.lo, o.hi, o.val⟩] = (ops.take (k + 1)).map clrO by rw [HT.out, clrO, if_neg hk1]] at ho1
        obtain ⟨va3, vc3, hv3⟩ := slice_form ho1
        have hl3 : ((ops.take (k + 1)).map clrO).length = k + 1 := by rw [HT.out]; simp [HL.out]
        rw [hl3] at hv3
        subst hv3
        have HK : Hid (Opl w1 W.heap.size (.slice va3 (k + 1) vc3) ((ops.take (k + 1)).map clrO)) := ho1
        rw [World.size_alloc] at hr1
        clear ho1 hg1 hk1 hl3
        go_wp2_with (at_builtin; refine Lib.wpList_append_run _ rfl _ _ 22 22 rfl _ _ (by rfl) (by rfl) _ _ (hr1 _) ?_)
        go_roundw
        case rel => exact ⟨k + 1, va3, vc3, rfl, by go_num, by omega, HK, hB1⟩
        case measure => simp [intOf]; omega
    · obtain rfl : k = n := by omega
      have HE : Hid (ops.take k = ops) := by show _ = _; rw [← HN.out]; exact List.take_length
      go_wp2
      go_ret
      have h1 := HO.out
      rw [HE.out] at h1
      exact ⟨_, rfl, h1, HB.out⟩
end Go.Proofs.Ytliiblaodhcjhaa
