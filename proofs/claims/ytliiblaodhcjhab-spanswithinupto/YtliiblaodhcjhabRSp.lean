import Derived.Test.YtliiblaodhcjhabRefQ
namespace Go.Proofs.Ytliiblaodhcjhab
open Go.RowKit
set_option linter.unusedVariables false

def encI (s : Sp Int) : List Value := [.int .u64 s.lo, .int .u64 s.hi, .int .i64 s.val]
def cellsI (L : List (Sp Int)) : List Value := L.flatMap encI
theorem cellsI_append (A B : List (Sp Int)) : cellsI (A ++ B) = cellsI A ++ cellsI B := by simp [cellsI]

theorem infoRE : (Try.prog.info? 47).map (fun i => (i.zero, i.size, i.bytes)) = some (some (.agg #[.int .u64 0, .int .u64 0, .int .i64 0]), 3, 24) := by kernel_rfl
/-- A list of the reference's spans. -/
def Lr (W : World) (lo : Nat) (v : Value) (L : List (Sp Int)) : Prop := W.ownsRow lo 47 3 v L.length (cellsI L)

theorem lr_append (w : World) (B : Nat) (pv : Value) (A : List (Sp Int)) (t : Sp Int) (h : Lr w B pv A) (hB : B ≤ w.heap.size) (hby : A.length ≤ 9000000) :
    ∃ v' w', (∀ ty, (Builtin.append_ #[36, 36] ty #[pv, .slice (some ⟨w.heap.size, 0, none⟩) 1 1]).run Try.prog (w.alloc (.cells #[.int .u64 t.lo, .int .u64 t.hi, .int .i64 t.val] 47)).drew = .ok v' w') ∧ Lr w' B v' (A ++ [t]) ∧ w.grownBy w' pv.ownBlock := by
  obtain ⟨inf, hi0, hz0, hzs, hzb⟩ := info_parts infoRE
  have h1 : Below w.heap.size w (w.alloc (.cells #[.int .u64 t.lo, .int .u64 t.hi, .int .i64 t.val] 47)).drew := (below_alloc (Below.refl _ w) _).drew
  have ho1 : (w.alloc (.cells #[.int .u64 t.lo, .int .u64 t.hi, .int .i64 t.val] 47)).drew.ownsRow 0 47 3 (.slice (some ⟨w.heap.size, 0, none⟩) 1 1) 1 (encI t) :=
    own_of_row (cur := encI t) (heap_alloc_new w _) (Nat.zero_le _) (Nat.le_refl _) (by decide) rfl rfl
  obtain ⟨v', w', hr, ho, hg, hb⟩ := append_any (P := Try.prog) (w.alloc (.cells #[.int .u64 t.lo, .int .u64 t.hi, .int .i64 t.val] 47)).drew 36 47 inf _ Try.underlying36 hi0 hz0 (by rw [hzs]; rfl) B A.length 1 pv (.slice (some ⟨w.heap.size, 0, none⟩) 1 1) (cellsI A) (encI t)
    (by rw [hzs]; exact row_keep h h1) (by rw [hzs]; exact src_of_own Try.underlying36 ho1 (by intro u hu; simp [encI] at hu; rcases hu with rfl | rfl | rfl <;> rfl)) (Nat.le_trans hB h1.size) (by unfold maxLen; omega) (by rw [hzb]; omega)
  refine ⟨v', w', hr, ?_, grownBy_trans (grownBy_none _ (below_grown h1)) hg⟩
  rw [hzs] at ho
  rw [Lr, List.length_append, cellsI_append]
  simpa [cellsI] using ho

theorem Lr.view {W : World} {lo : Nat} {v : Value} {L : List (Sp Int)} (h : Lr W lo v L) : ∃ a cap, v = .slice a L.length cap ∧ ∀ i s, L[i]? = some s → ∃ g, a = some ⟨g, 0, none⟩ ∧ lo ≤ g ∧ g < W.heap.size ∧ W.cell? ⟨g, i * 3, none⟩ = some (.int .u64 s.lo) ∧ W.cell? ⟨g, i * 3 + 1, none⟩ = some (.int .u64 s.hi) ∧ W.cell? ⟨g, i * 3 + 2, none⟩ = some (.int .i64 s.val) ∧ W.frozen? ⟨g, i * 3 + 1, none⟩ = false := by
  rcases row_of_own h with ⟨rfl, h1, h2⟩ | ⟨g, cap, cur, rfl, a, b, c, d, e, f⟩
  · refine ⟨none, 0, by rw [h1], fun i x hx => ?_⟩
    have : L = [] := List.eq_nil_of_length_eq_zero h1
    rw [this] at hx
    simp at hx
  · refine ⟨some ⟨g, 0, none⟩, cap, rfl, fun i x hx => ⟨g, rfl, a, b.lt, ?_⟩⟩
    have hlt : i < L.length := (List.getElem?_eq_some_iff.1 hx).1
    have hc : ∀ j, j < 3 → W.cell? ⟨g, i * 3 + j, none⟩ = (encI x)[j]? := fun j hj => by
      rw [World.ownsRow.cellAt h (i * 3 + j) (by omega)]
      exact cat_at encI 3 (fun _ => rfl) hx j hj
    exact ⟨hc 0 (by omega), hc 1 (by omega), hc 2 (by omega), b.frozen _⟩

/-- The last span's end is set. -/
theorem Lr.set {W : World} {lo g cap : Nat} {A : List (Sp Int)} {t : Sp Int} (h : Lr W lo (.slice (some ⟨g, 0, none⟩) (A ++ [t]).length cap) (A ++ [t])) (e : Int) :
    Lr (W.setCell ⟨g, A.length * 3 + 1, none⟩ (.int .u64 e)) lo (.slice (some ⟨g, 0, none⟩) (A ++ [t]).length cap) (A ++ [⟨t.lo, e, t.val⟩]) := by
  have h1 := (World.ownsRow.stored h (A.length * 3 + 1) (.int .u64 e)).1
  have hl : (A ++ [⟨t.lo, e, t.val⟩] : List (Sp Int)).length = (A ++ [t]).length := by simp
  rw [Lr, hl]
  have hc : cellsI (A ++ [⟨t.lo, e, t.val⟩]) = (cellsI (A ++ [t])).set (A.length * 3 + 1) (.int .u64 e) := by
    rw [cellsI_append, cellsI_append, List.set_append_right _ _ (by rw [show (cellsI A).length = A.length * 3 from cat_len encI 3 (fun _ => rfl) A]; omega), show (cellsI A).length = A.length * 3 from cat_len encI 3 (fun _ => rfl) A, show A.length * 3 + 1 - A.length * 3 = 1 by omega]
    simp [cellsI, encI]
  rw [hc]
  exact h1

theorem fold_le {D : List Dn} {l : List Int} (h : ∀ x ∈ l, x ≤ 18446744073709551615) (hd : ∀ d ∈ D, d.lo ≤ 18446744073709551615) : ∀ x ∈ D.foldl cutS l, x ≤ 18446744073709551615 := by
  induction D generalizing l with
  | nil => exact h
  | cons d r ih =>
    refine ih (fun x hx => ?_) (fun e he => hd e (by simp [he]))
    rw [cutS] at hx
    have := hd d (by simp)
    split at hx
    · rcases insK_mem.1 hx with rfl | hx
      · omega
      · rcases insK_mem.1 hx with rfl | hx
        · omega
        · exact h x hx
    · rcases insK_mem.1 hx with rfl | hx
      · omega
      · exact h x hx
end Go.Proofs.Ytliiblaodhcjhab
