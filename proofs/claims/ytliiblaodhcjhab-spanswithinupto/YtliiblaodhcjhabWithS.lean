import Derived.Test.YtliiblaodhcjhabPiec
namespace Go.Proofs.Ytliiblaodhcjhab
open Go.RowKit Go.Shelf
set_option linter.unusedVariables false
attribute [local go_sem] Oper.semAt_some

theorem Script.keepW {W W' : World} {a : Option Addr} {ops : List Op4} (h : Script W a ops) (hb : Below W.heap.size W W') : Script W' a ops := by
  refine ⟨fun i o ho => ?_, h.rng⟩
  obtain ⟨b, off, h1, h2, q0, q1, q2, q3⟩ := h.lies i o ho
  obtain ⟨hc, _⟩ := bcell hb
  exact ⟨b, off, h1, Nat.lt_of_lt_of_le h2 hb.size, by rw [hc _ _ h2]; exact q0, by rw [hc _ _ h2]; exact q1, by rw [hc _ _ h2]; exact q2, by rw [hc _ _ h2]; exact q3⟩

theorem rwithin_any (W : World) (lo0 p : Nat) (v : Value) (D : List Dn) (h : RefAt W lo0 p v D) (hs : D.length ≤ 1048576) (L : List (Sp Int)) (hL : Good 0 none L) (hBo : Both L D) (lo hi : Int) :
    Calls Try.prog 12 #[.pointer (some ⟨p, 0, none⟩), .int .u64 lo, .int .u64 hi] W fun e W' => ∃ v', e = .returned v' ∧ (Lr W' W.heap.size v' (goesL lo hi L) ∧ L.length ≤ 3000000) ∧ Below W.heap.size W W' := by
  by_cases hlh : lo ≤ hi
  · rw [goesL, if_pos hlh]
    exact rwithin_le W lo0 p v D h hs L hL hBo lo hi hlh
  · rw [goesL, if_neg hlh]
    exact rwithin_gt W lo0 p v D h hs L hL hBo lo hi hlh

/-- Between two rounds of the loop that clears the map. -/
structure Stw (W w8 w10 : World) (Bm Bw lw : Nat) (wa : Option Addr) (wc gl : Nat) (G L : List (Sp Int)) (pre : List (Sp Int)) (Y : World) : Prop where
  cnt : Boxed Y (w8.heap.size + 1 + 1 + 1) 3 (.int .i64 pre.length)
  want : Boxed Y Bw 36 (.slice wa gl wc)
  map : Boxed Y Bm 24 (.pointer (some ⟨W.heap.size + 1, 0, none⟩))
  res : Boxed Y W.heap.size 4 (.bool false)
  list : Y.ownsRow lw 47 3 (.slice wa gl wc) gl (cellsI G)
  at' : ∃ v, MapAt Y (W.heap.size + 1) (W.heap.size + 1) v (if pre = [] then L else [])
  part : pre <+: G
  bel : Below W.heap.size W Y
  clo : ∀ b c e, w10.heap[b]? = some (.cells c e (0, 0)) → e ≠ 45 → w8.heap.size ≤ b → b < w8.heap.size + 3 → Y.heap[b]? = some (.cells c e (0, 0))

theorem row_other {W W' : World} {lo n size : Nat} {e : TypeId} {v : Value} {xs : List Value} {row : Option Nat} (h : W.ownsRow lo e size v n xs) (hg : W.grownBy W' row) (hr : ∀ r, row = some r → ∃ o : Obj, W.heap[r]? = some o ∧ o.isCells = false) : W'.ownsRow lo e size v n xs := by
  rcases row_of_own h with ⟨rfl, h1, h2⟩ | ⟨g, cap, cur, rfl, a, b, c, d, e1, f⟩
  · rw [h1, h2]; exact World.ownsRow_nil _ _ _ _
  · refine own_of_row (b.grown hg (fun e => ?_)) a c d e1 f
    obtain ⟨o, ho, hc⟩ := hr g e.symm
    rw [show W.heap[g]? = _ from b] at ho
    cases ho
    cases hc

theorem map_other {W W' : World} {lo p : Nat} {v : Value} {L : List (Sp Int)} {row : Option Nat} (h : MapAt W lo p v L) (hg : W.grownBy W' row) (hr : ∀ r, row = some r → ∃ o : Obj, W.heap[r]? = some o ∧ o.isCells = false) : MapAt W' lo p v L := by
  refine ⟨?_, row_other h.own hg hr, h.low, h.good⟩
  rw [hg.block p h.lt (fun e => by obtain ⟨o, ho, hc⟩ := hr p e.symm; rw [h.box] at ho; cases ho; cases hc)]
  exact h.box

theorem stw_own (W w8 w10 : World) (Bm Bw lw : Nat) (wa : Option Addr) (wc gl : Nat) (G L : List (Sp Int)) (hb : W.heap.size ≤ w10.heap.size) : OwnFrom w10.heap.size (fun pre Y => Stw W w8 w10 Bm Bw lw wa wc gl G L pre Y) := by
  intro pre X Y row h hg hr
  have hr2 := fun r e => (hr r e).2
  obtain ⟨v, hm⟩ := h.at'
  exact ⟨boxed_own _ _ (fun (_ : Unit) => _) () X Y row h.cnt hg hr2, boxed_own _ _ (fun (_ : Unit) => _) () X Y row h.want hg hr2, boxed_own _ _ (fun (_ : Unit) => _) () X Y row h.map hg hr2, boxed_own _ _ (fun (_ : Unit) => _) () X Y row h.res hg hr2,
    row_other h.list hg hr2, ⟨v, map_other hm hg hr2⟩, h.part, h.bel.grown hg h.bel.size (fun k e => Nat.le_trans hb (hr k e).1), fun b c e h1 h2 h3 h4 => by
      have h5 := h.clo b c e h1 h2 h3 h4
      rw [hg.block b (Array.getElem?_eq_some_iff.1 h5).1 (fun e => by obtain ⟨o, ho, hc⟩ := hr2 b e.symm; rw [h5] at ho; cases ho; cases hc)]
      exact h5⟩

/-- Two spans, held against one another. -/
def sameW (s t : Sp Int) : Bool := s.lo == t.lo && s.hi == t.hi && s.val == t.val
theorem sameW_iff {s t : Sp Int} : sameW s t = true ↔ s = t := by
  cases s; cases t; simp [sameW, and_assoc]

set_option maxHeartbeats 1000000 in
theorem like_gen (s t : Sp Int) (w : World) : Calls Try.prog 16 #[.agg #[.int .u64 s.lo, .int .u64 s.hi, .int .i64 s.val], .agg #[.int .u64 t.lo, .int .u64 t.hi, .int .i64 t.val]] w fun e w' => e = .returned (.bool (sameW s t)) ∧ Below w.heap.size w w' := by
  have hb := below_alloc (below_alloc (Below.refl w.heap.size w) (.cells #[.int .u64 s.lo, .int .u64 s.hi, .int .i64 s.val] 45)) (.cells #[.int .u64 t.lo, .int .u64 t.hi, .int .i64 t.val] 47)
  rw [sameW]
  by_cases h1 : s.lo = t.lo
  · have e1 : (s.lo == t.lo) = true := by simp [h1]
    by_cases h2 : s.hi = t.hi
    · have e2 : (s.hi == t.hi) = true := by simp [h2]
      rw [e1, e2]
      clear h1 h2
      go_enter Try.func16, Try.ntmps16
      go_wp2
      go_ret
      exact ⟨by simp, hb⟩
    · have e2 : (s.hi == t.hi) = false := by simp [h2]
      rw [e1, e2]
      clear h1 h2
      go_enter Try.func16, Try.ntmps16
      go_wp2
      go_ret
      exact ⟨rfl, hb⟩
  · have e1 : (s.lo == t.lo) = false := by simp [h1]
    rw [e1]
    clear h1
    go_enter Try.func16, Try.ntmps16
    go_wp2
    go_ret
    exact ⟨rfl, hb⟩

theorem clear_all {L : List (Sp Int)} (hg : Good 0 none L) : clearR L 0 18446744073709551615 = [] := by
  rw [clearR, if_pos (by decide)]
  refine (clearL_good hg (by decide) (by decide)).uniq (u' := none) (c := 0) trivial (fun k h0 h1 => ?_)
  rw [clearL_get hg (by decide), if_pos ⟨h0, h1⟩]
  rfl

theorem clear_whole (W : World) (lo p : Nat) (v : Value) (L : List (Sp Int)) (h : MapAt W lo p v L) (hsz : L.length ≤ 3000000) :
    Calls Try.prog 18 #[.pointer (some ⟨p, 0, none⟩), .int .u64 0, .int .u64 18446744073709551615] W fun e W' => e = .returned (.int .i64 0) ∧ (∃ v', MapAt W' lo p v' [] ∧ (∀ g, v'.ownBlock = some g → v.ownBlock = some g ∨ W.heap.size ≤ g)) ∧ Turn W W' p v := by
  refine (clear_any W lo p v L 0 18446744073709551615 h (by omega) (by decide) (by decide)).mono ?_
  rintro e W' ⟨rfl, v', h1, h2, h3⟩
  rw [clear_all h.good] at h1
  exact ⟨rfl, ⟨v', h1, h3⟩, h2⟩

/-- What Clear leaves as it lay. -/
theorem kps_turn {B p : Nat} {W W' : World} {v v' : Value} (t : Turn W W' p v) (hc : W.cell? ⟨p, 0, none⟩ = some v) (hc' : W'.cell? ⟨p, 0, none⟩ = some v') (ho : ∀ g, v'.ownBlock = some g → v.ownBlock = some g ∨ W.heap.size ≤ g) : KpS B p W W' := by
  have e1 : blkAt W p = v.ownBlock := by rw [blkAt, hc]
  have e2 : blkAt W' p = v'.ownBlock := by rw [blkAt, hc']
  refine ⟨t.size, ?_, fun g o hg _ _ h2 h3 => ?_⟩
  · rw [e1, e2]
    cases hv : v'.ownBlock with
    | none => exact .inr (fun g e => by cases e)
    | some g =>
      rcases ho g hv with e | e
      · exact .inl e.symm
      · exact .inr (fun g' e' => by cases e'; exact e)
  · rw [e1] at h3
    rw [t.block g (Array.getElem?_eq_some_iff.1 hg).1 h2 (fun e => h3 e.symm)]
    exact hg

theorem kps_set {B p : Nat} {W : World} (u : Value) (hne : B ≠ p) : KpS B p W (W.setCell ⟨B, 0, none⟩ u) := by
  refine ⟨by simp, .inl ?_, fun g o hg _ h1 _ _ => ?_⟩
  · rw [blkAt, blkAt, World.cell?_setCell_other W _ _ _ (fun e => hne (by cases e; rfl))]
  · rw [heap_setCell_other W ⟨B, 0, none⟩ g u h1]
    exact hg
end Go.Proofs.Ytliiblaodhcjhab
