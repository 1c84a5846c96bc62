import Derived.Test.YtbbnodhpafiplaaDoorHb
import Derived.Test.YtbbnodhpafiplaaDoorLa
import Derived.Test.YtbbnodhpafiplaaDoorCg
import Derived.Laws.AppendOwn
import Derived.Deep.DeepAppendWide
import Derived.Test.YtbbnodhpafiplaaDoorAp
import Derived.Test.YtbbnodhpafiplaaDoorHe1
import Derived.Test.YtbbnodhpafiplaaDoorHe2
import Derived.Test.YtbbnodhpafiplaaDoorHf
namespace Go.Proofs.YtbbnodhpafiplaaDoor
open Go.RowKit
set_option linter.unusedVariables false
set_option linter.unusedSimpArgs false
/-- Each block in a place is among K. -/
def Inv (X : Hi) (K : List Blo) : Prop := ∀ s, (s ∈ X.i ∨ s ∈ X.d ∨ s ∈ X.m) → s.full = true → s.b ∈ K
theorem mem_puF {L : List Slo} {b : Blo} {pick : Int} {s : Slo} (h : s ∈ (puF L b pick).2) : s ∈ L ∨ s = ⟨true, b⟩ := by
  unfold puF at h
  split at h
  · split at h
    · exact .inl h
    · split at h
      · exact List.mem_or_eq_of_mem_set h
      · exact List.mem_or_eq_of_mem_set h
  · exact .inl h
theorem mem_filF {L : List Slo} {b : Blo} {va asid pick : Int} {s : Slo} (h : s ∈ filF L b va asid pick) : s ∈ L ∨ s = ⟨true, b⟩ := by
  unfold filF at h
  split at h
  · exact mem_puF h
  · exact .inl h
theorem mem_evF {L : List Slo} {i : Int} {s : Slo} (h : s ∈ (evF L i).2) : s ∈ L ∨ s = sZ := by
  unfold evF at h
  split at h
  · exact List.mem_or_eq_of_mem_set h
  · exact .inl h
theorem mem_flF {L : List Slo} {d : Dro} {s : Slo} (h : s ∈ (flF L d).2) (hf : s.full = true) : s ∈ L ∧ tkF d s.b = false := by
  simp only [flF, List.mem_map] at h
  obtain ⟨x, hx, hs⟩ := h
  by_cases h1 : fkF d x = true
  · rw [if_pos h1] at hs
    rw [← hs] at hf
    cases hf
  · rw [if_neg h1] at hs
    subst hs
    refine ⟨hx, ?_⟩
    simp [fkF, hf] at h1
    exact h1
theorem lkP_fold (va asid : Int) (L : List Slo) (r : Blo × Nat) : (L.foldl (lkS va asid) r = r) ∨ (r.2 < (L.foldl (lkS va asid) r).2 ∧ ∃ s, s ∈ L ∧ s.full = true ∧ ovF s.b va asid = true ∧ (L.foldl (lkS va asid) r).1 = s.b) := by
  induction L generalizing r with
  | nil => exact .inl rfl
  | cons x L ih =>
    simp only [List.foldl_cons]
    rcases ih (lkS va asid r x) with h | ⟨h1, s, h2, h3, h4, h5⟩
    · by_cases hx : (x.full && ovF x.b va asid) = true
      · have he : lkS va asid r x = (x.b, r.2 + 1) := by simp only [lkS, hx, if_true]
        rw [h, he]
        simp only [Bool.and_eq_true] at hx
        exact .inr ⟨by simp, x, .head _, hx.1, hx.2, rfl⟩
      · have he : lkS va asid r x = r := by simp only [lkS]; rw [if_neg hx]
        rw [h, he]
        exact .inl rfl
    · have hle : r.2 ≤ (lkS va asid r x).2 := by unfold lkS; split <;> simp
      exact .inr ⟨Nat.lt_of_le_of_lt hle h1, s, .tail _ h2, h3, h4, h5⟩
theorem lk_one {L : List Slo} {va asid : Int} (h : (lkF L va asid).2 = 1) : ∃ s, s ∈ L ∧ s.full = true ∧ ovF s.b va asid = true ∧ (lkF L va asid).1 = s.b := by
  have h1 : lkF L va asid = lkP L va asid := by
    unfold lkF at h ⊢
    split at h
    · rename_i h1; rw [if_pos h1]
    · rename_i h1; exact absurd h h1
  rw [h1] at h ⊢
  rcases lkP_fold va asid L (bZ, 0) with h2 | ⟨_, h2⟩
  · have h3 : lkP L va asid = (bZ, 0) := h2
    rw [h3] at h
    cases h
  · exact h2
theorem lk_ne {L : List Slo} {va asid : Int} (h : ¬ (lkF L va asid).2 = 1) : (lkF L va asid).1 = bZ := by
  unfold lkF at h ⊢
  split
  · rename_i h1
    rw [if_pos h1] at h
    exact absurd h1 h
  · rfl
theorem Inv.sm {X : Hi} {K : List Blo} (h : Inv X K) (f : Bool) {s : Slo} (hs : s ∈ X.sm f) (hf : s.full = true) : s.b ∈ K := by
  cases f
  · exact h s (.inr (.inl hs)) hf
  · exact h s (.inl hs) hf
theorem Inv.setS {X : Hi} {K : List Blo} (h : Inv X K) (f : Bool) {L : List Slo} (hL : ∀ s ∈ L, s.full = true → s.b ∈ K) : Inv (X.setS f L) K := by
  cases f
  · rintro s (hs | hs | hs) hf
    · exact h s (.inl hs) hf
    · exact hL s hs hf
    · exact h s (.inr (.inr hs)) hf
  · rintro s (hs | hs | hs) hf
    · exact hL s hs hf
    · exact h s (.inr (.inl hs)) hf
    · exact h s (.inr (.inr hs)) hf
theorem Inv.mono {X : Hi} {K K' : List Blo} (h : Inv X K) (hk : ∀ b ∈ K, b ∈ K') : Inv X K' := fun s hs hf => hk _ (h s hs hf)
theorem Inv.find {X : Hi} {K : List Blo} (h : Inv X K) (va asid : Int) (f : Bool) (pick : Int) (mf : Bool) : Inv (fiF X va asid f pick mf).2 K := by
  unfold fiF
  split
  · simp only
    split
    · rename_i h1
      refine h.setS f fun s hs hf => ?_
      rcases mem_puF hs with h2 | h2
      · exact h.sm f h2 hf
      · rw [h2]
        obtain ⟨t, ht1, ht2, _, ht4⟩ := lk_one h1.1
        show (lkF X.m va asid).1 ∈ K
        rw [ht4]
        exact h t (.inr (.inr ht1)) ht2
    · exact h
  · exact h
theorem fi_one {X : Hi} {K : List Blo} (h : Inv X K) {va asid : Int} {f : Bool} {pick : Int} {mf : Bool} (h1 : (fiF X va asid f pick mf).1.2 = 1) : (fiF X va asid f pick mf).1.1 ∈ K ∧ ovF (fiF X va asid f pick mf).1.1 va asid = true := by
  unfold fiF at h1 ⊢
  split
  · rename_i hc
    rw [if_pos hc] at h1
    obtain ⟨t, ht1, ht2, ht3, ht4⟩ := lk_one (L := X.m) (va := va) (asid := asid) (by simp only at h1; omega)
    simp only
    rw [ht4]
    exact ⟨h t (.inr (.inr ht1)) ht2, ht3⟩
  · rename_i hc
    rw [if_neg hc] at h1
    obtain ⟨t, ht1, ht2, ht3, ht4⟩ := lk_one (L := X.sm f) (va := va) (asid := asid) (by simp only at h1; omega)
    simp only
    rw [ht4]
    exact ⟨h.sm f ht1 ht2, ht3⟩
theorem fi_ne {X : Hi} {va asid : Int} {f : Bool} {pick : Int} {mf : Bool} (h1 : ¬ (fiF X va asid f pick mf).1.2 = 1) : (fiF X va asid f pick mf).1.1 = bZ := by
  unfold fiF at h1 ⊢
  split
  · rename_i hc
    rw [if_pos hc] at h1
    exact lk_ne (by simp only at h1; omega)
  · rename_i hc
    rw [if_neg hc] at h1
    exact lk_ne (by simp only at h1; omega)
theorem fi_le (X : Hi) (va asid : Int) (f : Bool) (pick : Int) (mf : Bool) : (fiF X va asid f pick mf).1.2 ≤ 2 := by
  unfold fiF
  split <;> exact Nat.min_le_right _ _
theorem Inv.keep {X : Hi} {K : List Blo} (h : Inv X K) (b : Blo) (va asid : Int) (f : Bool) (pick : Int) : Inv (keF X b va asid f pick).2 (K ++ [b]) := by
  have h2 : Inv X (K ++ [b]) := h.mono fun x hx => List.mem_append_left _ hx
  have hb : b ∈ K ++ [b] := List.mem_append_right _ (.head _)
  unfold keF
  split
  · refine Inv.setS (X := ⟨X.i, X.d, filF X.m b va asid pick⟩) ?_ f ?_
    · rintro s (hs | hs | hs) hf
      · exact h2 s (.inl hs) hf
      · exact h2 s (.inr (.inl hs)) hf
      · rcases mem_filF hs with h3 | h3
        · exact h2 s (.inr (.inr h3)) hf
        · rw [h3]; exact hb
    · intro s hs hf
      rcases mem_filF hs with h3 | h3
      · exact h2.sm f h3 hf
      · rw [h3]; exact hb
  · exact h2
theorem ke_ok {X : Hi} {b : Blo} {va asid : Int} {f : Bool} {pick : Int} (h : (keF X b va asid f pick).1 = 0) : ovF b va asid = true := by
  unfold keF at h
  split at h
  · assumption
  · simp at h
theorem ke_no {X : Hi} {b : Blo} {va asid : Int} {f : Bool} {pick : Int} (h : ¬ (keF X b va asid f pick).1 = 0) : (keF X b va asid f pick).2 = X := by
  unfold keF at h ⊢
  split
  · rename_i h1; rw [if_pos h1] at h; exact absurd rfl h
  · rfl
theorem Inv.evict {X : Hi} {K : List Blo} (h : Inv X K) (which i : Int) : Inv (evH X which i).2 K := by
  unfold evH
  split
  · rintro s (hs | hs | hs) hf
    · rcases mem_evF hs with h1 | h1
      · exact h s (.inl h1) hf
      · rw [h1] at hf; cases hf
    · exact h s (.inr (.inl hs)) hf
    · exact h s (.inr (.inr hs)) hf
  · split
    · rintro s (hs | hs | hs) hf
      · exact h s (.inl hs) hf
      · rcases mem_evF hs with h1 | h1
        · exact h s (.inr (.inl h1)) hf
        · rw [h1] at hf; cases hf
      · exact h s (.inr (.inr hs)) hf
    · split
      · rintro s (hs | hs | hs) hf
        · exact h s (.inl hs) hf
        · exact h s (.inr (.inl hs)) hf
        · rcases mem_evF hs with h1 | h1
          · exact h s (.inr (.inr h1)) hf
          · rw [h1] at hf; cases hf
      · exact h
theorem Inv.drop {X : Hi} {K : List Blo} (h : Inv X K) (d : Dro) : Inv (drH X d).2 (K.filter fun b => !tkF d b) := by
  have f : ∀ s : Slo, tkF d s.b = false → s.b ∈ K → s.b ∈ K.filter fun b => !tkF d b := fun s h1 h2 => List.mem_filter.2 ⟨h2, by rw [h1]; rfl⟩
  rintro s (hs | hs | hs) hf
  · obtain ⟨h1, h2⟩ := mem_flF hs hf
    exact f s h2 (h s (.inl h1) hf)
  · obtain ⟨h1, h2⟩ := mem_flF hs hf
    exact f s h2 (h s (.inr (.inl h1)) hf)
  · obtain ⟨h1, h2⟩ := mem_flF hs hf
    exact f s h2 (h s (.inr (.inr h1)) hf)
theorem Inv.pl {X : Hi} {K : List Blo} (h : Inv X K) (k : Int) : ∀ s ∈ plH X k, s.full = true → s.b ∈ K := by
  intro s hs hf
  unfold plH at hs
  split at hs
  · exact h s (.inl hs) hf
  · split at hs
    · exact h s (.inr (.inl hs)) hf
    · split at hs
      · exact h s (.inr (.inr hs)) hf
      · cases hs
theorem any_mem {K : List Blo} {b : Blo} (h : b ∈ K) : K.any (fun y => y.same b) = true := List.any_eq_true.2 ⟨b, h, Blo.same_self b⟩
/-- The first block. -/
def fB : Blo := ⟨3, 1, 4096, 8192, 0, 3, 0, true, false⟩
theorem fB_ok : BOk fB := ⟨by decide, by decide, by decide⟩
theorem zeros_look (n : Nat) (va asid : Int) : lkF (List.replicate n sZ) va asid = (bZ, 0) := by
  have h : ∀ (m : Nat) (r : Blo × Nat), (List.replicate m sZ).foldl (lkS va asid) r = r := by
    intro m
    induction m with
    | zero => intro r; rfl
    | succ m ih => intro r; rw [List.replicate_succ, List.foldl_cons]; exact ih _
  have h1 : lkP (List.replicate n sZ) va asid = (bZ, 0) := h n _
  unfold lkF
  rw [h1]
  rfl
theorem one_look {b : Blo} {va asid : Int} (h : ovF b va asid = true) (n : Nat) : lkF (⟨true, b⟩ :: List.replicate n sZ) va asid = (b, 1) := by
  have h0 : ∀ (m : Nat) (r : Blo × Nat), (List.replicate m sZ).foldl (lkS va asid) r = r := by
    intro m
    induction m with
    | zero => intro r; rfl
    | succ m ih => intro r; rw [List.replicate_succ, List.foldl_cons]; exact ih _
  have h1 : lkP (⟨true, b⟩ :: List.replicate n sZ) va asid = (b, 1) := by
    unfold lkP
    rw [List.foldl_cons, h0]
    simp [lkS, h]
  unfold lkF
  rw [h1]
  rfl
theorem zeros_put {b : Blo} (hb : bR b = true) (n : Nat) (pick : Int) : (puF (List.replicate (n + 1) sZ) b pick).2 = ⟨true, b⟩ :: List.replicate n sZ := by
  have h1 : ixF (List.replicate (n + 1) sZ) ⟨true, b⟩ = none := by
    unfold ixF
    rw [List.findIdx?_eq_none_iff]
    intro x hx
    rw [(List.mem_replicate.1 hx).2]
    rfl
  have h2 : ixF (List.replicate (n + 1) sZ) sZ = some 0 := by
    unfold ixF
    rw [List.replicate_succ, List.findIdx?_cons]
    rfl
  unfold puF
  rw [if_pos hb, h1, h2]
  simp [List.replicate_succ]
theorem zeros_fil {b : Blo} {va asid : Int} (hb : ovF b va asid = true) (n : Nat) (pick : Int) : filF (List.replicate (n + 1) sZ) b va asid pick = ⟨true, b⟩ :: List.replicate n sZ := by
  unfold filF
  rw [if_pos (by rw [zeros_look])]
  exact zeros_put (by unfold ovF at hb; simp at hb; exact hb.1) n pick
end Go.Proofs.YtbbnodhpafiplaaDoor
namespace Go.Proofs.YtbbnodhpafiplaaDoor
open Go.RowKit
set_option linter.unusedVariables false
set_option linter.unusedSimpArgs false
/-- A row of blocks. -/
def encB (b : Blo) : List Value := [.int .i64 b.asid, .int .i64 b.t.size, .int .u32 b.t.va, .int .u64 b.t.pa, .int .i64 b.t.dom, .int .i64 b.t.ap, .int .u32 b.t.bits, .bool b.t.ng, .bool b.t.xn]
def rowB (K : List Blo) : List Value := K.flatMap encB
theorem rowB_cons (x : Blo) (l : List Blo) : rowB (x :: l) = encB x ++ rowB l := rfl
theorem rowB_app (l m : List Blo) : rowB (l ++ m) = rowB l ++ rowB m := by simp [rowB]
theorem rowB_len (l : List Blo) : (rowB l).length = l.length * 9 := by
  induction l with
  | nil => rfl
  | cons x l ih => rw [rowB_cons, List.length_append, ih, List.length_cons]; show 9 + _ = _; omega
theorem rowB_at {l : List Blo} {i : Nat} {x : Blo} (h : l[i]? = some x) (j : Nat) (hj : j < 9) : (rowB l)[i * 9 + j]? = (encB x)[j]? := by
  induction l generalizing i with
  | nil => simp at h
  | cons y l ih =>
    have hy : (encB y).length = 9 := rfl
    cases i with
    | zero =>
      simp at h; subst h
      rw [rowB_cons, List.getElem?_append_left (by omega), Nat.zero_mul, Nat.zero_add]
    | succ i =>
      simp at h
      rw [rowB_cons, List.getElem?_append_right (by omega), hy, show (i + 1) * 9 + j - 9 = i * 9 + j by omega]
      exact ih h
/-- A slice of blocks that can be read. -/
def RB (w : World) (a : Option Addr) (K : List Blo) : Prop := K = [] ∨ ∃ g, a = some ⟨g, 0, none⟩ ∧ ∀ i u, (rowB K)[i]? = some u → w.cell? ⟨g, i, none⟩ = some u
theorem RB.below {w w' : World} {a : Option Addr} {K : List Blo} (h : RB w a K) (hb : Below w.heap.size w w') : RB w' a K := by
  rcases h with h | ⟨g, h1, h2⟩
  · exact .inl h
  · exact .inr ⟨g, h1, fun i u hu => (hb.cell (cell_lt (h2 i u hu))).trans (h2 i u hu)⟩
theorem RB.at {w : World} {a : Option Addr} {K : List Blo} (h : RB w a K) {k : Nat} {x : Blo} (hx : K[k]? = some x) :
    ∃ g, a = some ⟨g, 0, none⟩ ∧ g < w.heap.size ∧ w.cell? ⟨g, k * 9, none⟩ = some (.int .i64 x.asid) ∧ w.cell? ⟨g, k * 9 + 1, none⟩ = some (.int .i64 x.t.size) ∧ w.cell? ⟨g, k * 9 + 2, none⟩ = some (.int .u32 x.t.va) ∧ w.cell? ⟨g, k * 9 + 3, none⟩ = some (.int .u64 x.t.pa) ∧ w.cell? ⟨g, k * 9 + 4, none⟩ = some (.int .i64 x.t.dom) ∧ w.cell? ⟨g, k * 9 + 5, none⟩ = some (.int .i64 x.t.ap) ∧ w.cell? ⟨g, k * 9 + 6, none⟩ = some (.int .u32 x.t.bits) ∧ w.cell? ⟨g, k * 9 + 7, none⟩ = some (.bool x.t.ng) ∧ w.cell? ⟨g, k * 9 + 8, none⟩ = some (.bool x.t.xn) := by
  rcases h with h | ⟨g, h1, h2⟩
  · subst h; simp at hx
  · have e : ∀ j v, (encB x)[j]? = some v → w.cell? ⟨g, k * 9 + j, none⟩ = some v := fun j v hv => by
      refine h2 _ _ ?_
      have hj : j < 9 := (List.getElem?_eq_some_iff.1 hv).1
      rw [rowB_at hx j hj]
      exact hv
    exact ⟨g, h1, cell_lt (e 0 _ rfl), e 0 _ rfl, e 1 _ rfl, e 2 _ rfl, e 3 _ rfl, e 4 _ rfl, e 5 _ rfl, e 6 _ rfl, e 7 _ rfl, e 8 _ rfl⟩
/-- A list of blocks of one's own. -/
abbrev Ob (w : World) (lo : Nat) (v : Value) (K : List Blo) : Prop := w.ownsRow lo 38 9 v K.length (rowB K)
theorem Ob.rb {w : World} {lo : Nat} {v : Value} {K : List Blo} (h : Ob w lo v K) : ∃ a cap, v = .slice a K.length cap ∧ RB w a K := by
  have h0 := h
  rcases h.2 with ⟨rfl, hn⟩ | ⟨g, cap, cur, rfl, _⟩
  · exact ⟨none, 0, by rw [hn], .inl (List.eq_nil_of_length_eq_zero hn)⟩
  · refine ⟨_, cap, rfl, .inr ⟨g, rfl, fun i u hu => ?_⟩⟩
    have := h0.cells (g := g) rfl i u hu
    rw [Addr.add_lit, Nat.zero_add] at this
    exact this
theorem Ob.nil (w : World) (lo : Nat) : Ob w lo (.slice none 0 0) [] := World.ownsRow_nil w lo _ _
theorem Ob.block {w : World} {lo : Nat} {v : Value} {K : List Blo} (h : Ob w lo v K) {x : Nat} (hx : v.ownBlock = some x) : lo ≤ x ∧ x < w.heap.size ∧ ∃ c, Bl w x 38 c := by
  rcases h.2 with ⟨rfl, hn⟩ | ⟨g, cap, cur, rfl, h1, h2, _⟩
  · cases hx
  · have hx : g = x := by injection hx
    subst hx
    have hB : Bl w g 38 cur.toList := by show w.heap[g]? = _; rw [h2]
    exact ⟨h1, hB.lt, _, hB⟩
theorem Ob.turn {w w' : World} {lo : Nat} {v : Value} {K : List Blo} {S : Nat → Prop} (h : Ob w lo v K) (hT : Turn S w w') (hn : ∀ x, v.ownBlock = some x → ¬ S x) : Ob w' lo v K := by
  refine ⟨h.1, ?_⟩
  rcases h.2 with h1 | ⟨g, cap, cur, rfl, h1, h2, h3⟩
  · exact .inl h1
  · exact .inr ⟨g, cap, cur, rfl, h1, (hT.block g (Array.getElem?_eq_some_iff.1 h2).1 (hn g rfl)).trans h2, h3⟩
theorem Ob.below {w w' : World} {lo : Nat} {v : Value} {K : List Blo} (h : Ob w lo v K) (hb : Below w.heap.size w w') : Ob w' lo v K := h.turn (S := fun _ => False) (Turn.below hb) (fun _ _ h => h)
theorem turn_grown {w w' : World} {row : Option Nat} (h : w.grownBy w' row) : Turn (fun x => row = some x) w w' := ⟨h.os, h.tape, h.output, h.size, fun i hi hn => h.block i hi (fun e => hn e.symm)⟩
theorem infoB : (Tryd.prog.info? 38).map (fun i => (i.zero, i.size, i.bytes)) = some (some (.agg #[.int .i64 0, .int .i64 0, .int .u32 0, .int .u64 0, .int .i64 0, .int .i64 0, .int .u32 0, .bool false, .bool false]), 9, 56) := by kernel_rfl
/-- append of one block. -/
theorem appB (wr : World) (lo : Nat) (v : Value) (K : List Blo) (b : Blo) (h : Ob wr lo v K) (hlo : lo ≤ wr.heap.size) (hk : (K.length + 1) * 56 ≤ 140737488355328) :
    ∃ v' w', (Builtin.append_ #[24, 24] 24 #[v, .slice (some ⟨wr.heap.size, 0, none⟩) 1 1]).run Tryd.prog (wr.alloc (.cells ([.int .i64 b.asid, .int .i64 b.t.size, .int .u32 b.t.va, .int .u64 b.t.pa, .int .i64 b.t.dom, .int .i64 b.t.ap, .int .u32 b.t.bits, .bool b.t.ng, .bool b.t.xn]).toArray 38)) = .ok v' w' ∧ Ob w' lo v' (K ++ [b]) ∧ Turn (fun x => v.ownBlock = some x) wr w' := by
  obtain ⟨i, hi, hz, h1, h2⟩ := info_parts infoB
  have hB := Bl.new wr 38 ([.int .i64 b.asid, .int .i64 b.t.size, .int .u32 b.t.va, .int .u64 b.t.pa, .int .i64 b.t.dom, .int .i64 b.t.ap, .int .u32 b.t.bits, .bool b.t.ng, .bool b.t.xn])
  obtain ⟨v', w', r1, r2, r3, _⟩ := run_append_own (P := Tryd.prog) (wr.alloc (.cells ([.int .i64 b.asid, .int .i64 b.t.size, .int .u32 b.t.va, .int .u64 b.t.pa, .int .i64 b.t.dom, .int .i64 b.t.ap, .int .u32 b.t.bits, .bool b.t.ng, .bool b.t.xn]).toArray 38)) lo 24 24 38 i _ 9 56 Tryd.underlying24 hi hz h1 h2 rfl (by omega) v K.length (rowB K) (h.below (below_new _ _)) ⟨wr.heap.size, 0, none⟩ 1 1 ([.int .i64 b.asid, .int .i64 b.t.size, .int .u32 b.t.va, .int .u64 b.t.pa, .int .i64 b.t.dom, .int .i64 b.t.ap, .int .u32 b.t.bits, .bool b.t.ng, .bool b.t.xn]) rfl
    (fun j u hj => by rw [Addr.add_lit, Nat.zero_add]; exact (hB.cell j).trans hj) (fun u hu => by simp at hu; rcases hu with rfl | rfl | rfl | rfl | rfl | rfl | rfl | rfl | rfl <;> rfl) (by unfold maxLen; omega) hk (by simp; omega)
  refine ⟨v', w', r1, ?_, ((Turn.refl _ wr).alloc _).then (turn_grown r3)⟩
  show w'.ownsRow lo _ 9 v' (K ++ [b]).length (rowB (K ++ [b]))
  rw [rowB_app, List.length_append]
  exact r2
/-- among. -/
structure AMX (W wr : World) (B : Nat) (a : Option Addr) (K : List Blo) (b : Blo) : Prop where
  bel : Below W.heap.size W wr
  row : RB wr a K
  box : Bl wr B 38 ([.int .i64 b.asid, .int .i64 b.t.size, .int .u32 b.t.va, .int .u64 b.t.pa, .int .i64 b.t.dom, .int .i64 b.t.ap, .int .u32 b.t.bits, .bool b.t.ng, .bool b.t.xn])
theorem AMX.drewN {W wr : World} {B : Nat} {a : Option Addr} {K : List Blo} {b : Blo} (x : AMX W wr B a K b) (q : Nat) : AMX W (wr.drewN q) B a K b := ⟨below_drewN x.bel q, x.row.below (below_drewN (Below.refl _ _) q), x.box.drewN q⟩
theorem any_take {K : List Blo} {k : Nat} {x b : Blo} (hx : K[k]? = some x) : (K.take (k + 1)).any (fun y => y.same b) = ((K.take k).any (fun y => y.same b) || x.same b) := by
  rw [List.take_add_one, hx]
  simp
theorem any_here {K : List Blo} {k : Nat} {x b : Blo} (hx : K[k]? = some x) (h : x.same b = true) : K.any (fun y => y.same b) = true := List.any_eq_true.2 ⟨x, List.mem_of_getElem? hx, h⟩
set_option maxRecDepth 100000 in
set_option maxHeartbeats 4000000 in
theorem among_any (W : World) (a : Option Addr) (cap : Nat) (K : List Blo) (b : Blo) (h : RB W a K) (hl : K.length ≤ 4611686018427387904) :
    Calls Tryd.prog 13 #[.slice a K.length cap, .agg #[.int .i64 b.asid, .int .i64 b.t.size, .int .u32 b.t.va, .int .u64 b.t.pa, .int .i64 b.t.dom, .int .i64 b.t.ap, .int .u32 b.t.bits, .bool b.t.ng, .bool b.t.xn]] W fun e w' => e = .returned (.bool (K.any (fun y => y.same b))) ∧ Below W.heap.size W w' := by
  have HX0 : Hid (AMX W (W.alloc (.cells ([.int .i64 b.asid, .int .i64 b.t.size, .int .u32 b.t.va, .int .u64 b.t.pa, .int .i64 b.t.dom, .int .i64 b.t.ap, .int .u32 b.t.bits, .bool b.t.ng, .bool b.t.xn]).toArray 38)) W.heap.size a K b) := hidW ⟨below_new _ _, h.below (below_new _ _), Bl.new _ _ _⟩
  have HE := hidW (fun s : Blo => eqB s b)
  clear h
  generalize hn : K.length = n at *
  have HN : Hid (K.length = n) := hn
  clear hn
  go_enter Tryd.func13, Tryd.ntmps13
  go_wp2
  generalize World.alloc _ _ = w0 at *
  generalize hB : W.heap.size = B at HX0 ⊢
  clear hB
  go_loopw [5] (fun i wr => ∃ k : Nat, k ≤ n ∧ i = .int .i64 k ∧ Hid ((K.take k).any (fun y => y.same b) = false) ∧ AMX W wr B a K b) (fun i _ => n - (intOf i).toNat)
  case atStart => exact ⟨0, by omega, rfl, hidW rfl, HX0.out⟩
  case round =>
    clear HX0
    obtain ⟨k, hk, rfl, HF, hX⟩ := hrel
    have HX := hidW hX
    clear hX
    by_cases hlt : k < n
    · obtain ⟨s, hs⟩ : ∃ s, K[k]? = some s := ⟨_, List.getElem?_eq_getElem (by rw [HN.out]; exact hlt)⟩
      obtain ⟨g, rfl, hg, e0, e1, e2, e3, e4, e5, e6, e7, e8⟩ := HX.out.row.at hs
      have c0 := HX.out.box.cell
      have he := HE.out s
      have HD := fun q => hidW (HX.out.drewN q)
      have HS := hidW hs
      clear HX hs
      cases hm : s.same b
      · rw [hm] at he
        have HF2 : Hid ((K.take (k + 1)).any (fun y => y.same b) = false) := hidW (by rw [any_take HS.out, HF.out, hm]; rfl)
        clear HF HS hm
        go_wp2
        go_quiet (fail)
        go_wp2
        go_roundw
        case rel => exact ⟨k + 1, by omega, by go_num, HF2, (HD _).out⟩
        case measure => simp [intOf]; omega
      · rw [hm] at he
        have HT := hidW (any_here HS.out hm)
        clear HF HS hm
        go_wp2
        go_quiet (fail)
        go_wp2
        go_ret
        exact ⟨by rw [HT.out]; rfl, (HD _).out.bel⟩
    · obtain rfl : k = n := by omega
      have HF2 : Hid (K.any (fun y => y.same b) = false) := hidW (by have := HF.out; rw [← HN.out, List.take_length] at this; exact this)
      clear HF
      go_wp2
      go_ret
      exact ⟨by rw [HF2.out]; rfl, HX.out.bel⟩
end Go.Proofs.YtbbnodhpafiplaaDoor
namespace Go.Proofs.YtbbnodhpafiplaaDoor
open Go.RowKit
set_option linter.unusedVariables false
set_option linter.unusedSimpArgs false
structure WOX (W wr : World) (B : Nat) (a : Option Addr) (K F : List Blo) (v : Value) (d : Dro) : Prop where
  bel : Below W.heap.size W wr
  row : RB W a K
  bd : Bl wr B 42 ([.int .i64 d.kind, .int .u32 d.va, .int .i64 d.asid])
  own : Ob wr W.heap.size v F
section
variable {W wr w' : World} {B : Nat} {a : Option Addr} {K F G : List Blo} {v v' : Value} {d : Dro}
theorem WOX.step (h : WOX W wr B a K F v d) (hb : Below wr.heap.size wr w') : WOX W w' B a K F v d := ⟨Below.step h.bel hb, h.row, h.bd.below hb, h.own.below hb⟩
theorem WOX.drew (h : WOX W wr B a K F v d) : WOX W wr.drew B a K F v d := h.step (below_drew (Below.refl _ _))
theorem WOX.app (h : WOX W wr B a K F v d) (ho : Ob w' W.heap.size v' G) (hT : Turn (fun x => v.ownBlock = some x) wr w') : WOX W w' B a K G v' d :=
  ⟨((Turn.below (S := fun x => v.ownBlock = some x) h.bel).then hT).to (fun x hx => (h.own.block hx).1) (Nat.le_refl _), h.row, h.bd.turn hT (fun hx => by obtain ⟨_, _, c, hc⟩ := h.own.block hx; exact h.bd.ne hc (by decide) rfl), ho⟩
theorem WOX.held (h : WOX W wr B a K F v d) {k g : Nat} {x : Blo} (hx : K[k]? = some x) (hg : a = some ⟨g, 0, none⟩) : (wr.cell? ⟨B, 0, none⟩ = some (.int .i64 d.kind) ∧ wr.cell? ⟨B, 1, none⟩ = some (.int .u32 d.va) ∧ wr.cell? ⟨B, 2, none⟩ = some (.int .i64 d.asid)) ∧ wr.cell? ⟨g, k * 9, none⟩ = some (.int .i64 x.asid) ∧ wr.cell? ⟨g, k * 9 + 1, none⟩ = some (.int .i64 x.t.size) ∧ wr.cell? ⟨g, k * 9 + 2, none⟩ = some (.int .u32 x.t.va) ∧ wr.cell? ⟨g, k * 9 + 3, none⟩ = some (.int .u64 x.t.pa) ∧ wr.cell? ⟨g, k * 9 + 4, none⟩ = some (.int .i64 x.t.dom) ∧ wr.cell? ⟨g, k * 9 + 5, none⟩ = some (.int .i64 x.t.ap) ∧ wr.cell? ⟨g, k * 9 + 6, none⟩ = some (.int .u32 x.t.bits) ∧ wr.cell? ⟨g, k * 9 + 7, none⟩ = some (.bool x.t.ng) ∧ wr.cell? ⟨g, k * 9 + 8, none⟩ = some (.bool x.t.xn) := by
  obtain ⟨g', h1, h2, h3⟩ := (h.row.below h.bel).at hx
  rw [hg] at h1
  injection h1 with h1
  injection h1 with h1 _ _
  subst h1
  exact ⟨⟨h.bd.cell 0, h.bd.cell 1, h.bd.cell 2⟩, h3⟩
end
theorem filter_take (p : Blo → Bool) {K : List Blo} {k : Nat} {x : Blo} (hx : K[k]? = some x) : (K.take (k + 1)).filter p = (K.take k).filter p ++ (if p x = true then [x] else []) := by
  rw [List.take_add_one, hx, List.filter_append]
  cases h : p x <;> simp [h]
set_option maxRecDepth 100000 in
set_option maxHeartbeats 8000000 in
theorem without_any (W : World) (a : Option Addr) (cap : Nat) (K : List Blo) (d : Dro) (h : RB W a K) (ht : TR W) (hk : ∀ b ∈ K, BOk b) (hd : 0 ≤ d.va ∧ d.va < 4294967296) (hl : K.length * 56 ≤ 140737488355328) :
    Calls Tryd.prog 18 #[.slice a K.length cap, .agg #[.int .i64 d.kind, .int .u32 d.va, .int .i64 d.asid]] W fun e w' => ∃ v', e = .returned v' ∧ Ob w' W.heap.size v' (K.filter fun b => !tkF d b) ∧ Below W.heap.size W w' := by
  have HX0 : Hid (WOX W (W.alloc (.cells ([.int .i64 d.kind, .int .u32 d.va, .int .i64 d.asid]).toArray 42)) W.heap.size a K [] (.slice none 0 0) d) := hidW ⟨below_new _ _, h, Bl.new _ _ _, Ob.nil _ _⟩
  have HT : Hid (∀ w b, b ∈ K → Below W.heap.size W w → Calls Tryd.prog 38 #[.agg #[.int .i64 d.kind, .int .u32 d.va, .int .i64 d.asid], .agg #[.int .i64 b.asid, .int .i64 b.t.size, .int .u32 b.t.va, .int .u64 b.t.pa, .int .i64 b.t.dom, .int .i64 b.t.ap, .int .u32 b.t.bits, .bool b.t.ng, .bool b.t.xn]] w fun e w' => e = .returned (.bool (tkF d b)) ∧ Below w.heap.size w w') := hidW (fun w b hb hw => takes_any d b w (ht.below hw) (hk b hb) hd)
  clear h ht hk
  generalize hn : K.length = n at *
  have HN : Hid (K.length = n) := hn
  clear hn
  go_enter Tryd.func18, Tryd.ntmps18
  go_wp2
  generalize World.alloc _ _ = w0 at *
  generalize hB : W.heap.size = B at HX0 ⊢
  clear hB
  go_loopw [5, 6] (fun v i wr => ∃ k : Nat, k ≤ n ∧ i = .int .i64 k ∧ WOX W wr B a K ((K.take k).filter fun b => !tkF d b) v d) (fun _ i _ => n - (intOf i).toNat)
  case atStart => exact ⟨0, by omega, rfl, HX0.out⟩
  case round =>
    clear HX0
    obtain ⟨k, hk, rfl, hX⟩ := hrel
    rename_i v _
    have HX := hidW hX
    clear hX
    by_cases hlt : k < n
    · obtain ⟨s, hs⟩ : ∃ s, K[k]? = some s := ⟨_, List.getElem?_eq_getElem (by rw [HN.out]; exact hlt)⟩
      obtain ⟨g, rfl, hg, _⟩ := HX.out.row.at hs
      have HK : Hid (∀ w F v, WOX W w B (some ⟨g, 0, none⟩) K F v d → ((w.cell? ⟨B, 0, none⟩ = some (.int .i64 d.kind) ∧ w.cell? ⟨B, 1, none⟩ = some (.int .u32 d.va) ∧ w.cell? ⟨B, 2, none⟩ = some (.int .i64 d.asid)) ∧ w.cell? ⟨g, k * 9, none⟩ = some (.int .i64 s.asid) ∧ w.cell? ⟨g, k * 9 + 1, none⟩ = some (.int .i64 s.t.size) ∧ w.cell? ⟨g, k * 9 + 2, none⟩ = some (.int .u32 s.t.va) ∧ w.cell? ⟨g, k * 9 + 3, none⟩ = some (.int .u64 s.t.pa) ∧ w.cell? ⟨g, k * 9 + 4, none⟩ = some (.int .i64 s.t.dom) ∧ w.cell? ⟨g, k * 9 + 5, none⟩ = some (.int .i64 s.t.ap) ∧ w.cell? ⟨g, k * 9 + 6, none⟩ = some (.int .u32 s.t.bits) ∧ w.cell? ⟨g, k * 9 + 7, none⟩ = some (.bool s.t.ng) ∧ w.cell? ⟨g, k * 9 + 8, none⟩ = some (.bool s.t.xn))) := hidW (fun w F v hw => hw.held hs rfl)
      have HTk := hidW (fun w hw => HT.out w s (List.mem_of_getElem? hs) hw)
      have HFl : Hid (((K.take k).filter fun b => !tkF d b).length ≤ k) := hidW (by have := List.length_filter_le (fun b => !tkF d b) (K.take k); rw [List.length_take] at this; omega)
      have HFt := hidW (filter_take (fun b => !tkF d b) hs)
      clear hs
      generalize ((K.take k).filter fun b => !tkF d b) = F at *
      cases hm : tkF d s
      · rw [hm] at HTk
        have HF2 : Hid (((K.take (k + 1)).filter fun b => !tkF d b) = F ++ [s]) := hidW (by rw [HFt.out, hm]; rfl)
        clear HFt hm
        go_wp2
        replace HX := hidW HX.out.drew
        refine wp_region_held_drew (S := fun w' => (w'.cell? ⟨B, 0, none⟩ = some (.int .i64 d.kind) ∧ w'.cell? ⟨B, 1, none⟩ = some (.int .u32 d.va) ∧ w'.cell? ⟨B, 2, none⟩ = some (.int .i64 d.asid)) ∧ w'.cell? ⟨g, k * 9, none⟩ = some (.int .i64 s.asid) ∧ w'.cell? ⟨g, k * 9 + 1, none⟩ = some (.int .i64 s.t.size) ∧ w'.cell? ⟨g, k * 9 + 2, none⟩ = some (.int .u32 s.t.va) ∧ w'.cell? ⟨g, k * 9 + 3, none⟩ = some (.int .u64 s.t.pa) ∧ w'.cell? ⟨g, k * 9 + 4, none⟩ = some (.int .i64 s.t.dom) ∧ w'.cell? ⟨g, k * 9 + 5, none⟩ = some (.int .i64 s.t.ap) ∧ w'.cell? ⟨g, k * 9 + 6, none⟩ = some (.int .u32 s.t.bits) ∧ w'.cell? ⟨g, k * 9 + 7, none⟩ = some (.bool s.t.ng) ∧ w'.cell? ⟨g, k * 9 + 8, none⟩ = some (.bool s.t.xn)) (by kernel_rfl) (HK.out _ _ _ HX.out) (fun hHeld => ?_)
        refine wpAnyH_take (i := 0) (oi := { dst := some 13, op := Op.load 42 (Operand.tmp 3), type := 42, pos := _, after := #[], guard := none }) (v := ?_) rfl (by kernel_rfl) (by kernel_rfl) (by kernel_rfl) (fun _ _ _ h => h) (Or.inl ⟨by rfl, ?_⟩) (by assumption) ?_
        rotate_left
        · (intro w hSw; (try dsimp only at hSw); go_simp; try with_reducible rfl)
        simp only [Act.put, List.setIfInBounds_toArray, List.set_cons_zero, List.set_cons_succ]
        refine wpAnyH_take (i := 1) (oi := { dst := some 14, op := Op.move (Operand.tmp 0), type := 24, pos := _, after := #[], guard := none }) (v := ?_) rfl (by kernel_rfl) (by kernel_rfl) (by kernel_rfl) (fun _ _ _ h => h) (Or.inl ⟨by rfl, ?_⟩) (by assumption) ?_
        rotate_left
        · (intro w hSw; (try dsimp only at hSw); go_simp; try with_reducible rfl)
        simp only [Act.put, List.setIfInBounds_toArray, List.set_cons_zero, List.set_cons_succ]
        refine wpAnyH_take (i := 2) (oi := { dst := some 15, op := Op.move (Operand.tmp 6), type := 3, pos := _, after := #[], guard := none }) (v := ?_) rfl (by kernel_rfl) (by kernel_rfl) (by kernel_rfl) (fun _ _ _ h => h) (Or.inl ⟨by rfl, ?_⟩) (by assumption) ?_
        rotate_left
        · (intro w hSw; (try dsimp only at hSw); go_simp; try with_reducible rfl)
        simp only [Act.put, List.setIfInBounds_toArray, List.set_cons_zero, List.set_cons_succ]
        refine wpAnyH_take (i := 3) (oi := { dst := some 16, op := Op.indexAddr 24 (Operand.tmp 14) (Operand.tmp 15), type := 0, pos := _, after := #[{ on := 1, ground := Ground.data }, { on := 2, ground := Ground.data }], guard := none }) (v := ?_) rfl (by kernel_rfl) (by kernel_rfl) (by kernel_rfl) (fun _ _ _ h => h) (Or.inl ⟨by rfl, ?_⟩) (by assumption) ?_
        rotate_left
        · (intro w hSw; (try dsimp only at hSw); go_simp; try with_reducible rfl)
        simp only [Act.put, List.setIfInBounds_toArray, List.set_cons_zero, List.set_cons_succ]
        refine wpAnyH_take (i := 4) (oi := { dst := some 17, op := Op.load 38 (Operand.tmp 16), type := 38, pos := _, after := #[{ on := 3, ground := Ground.data }], guard := none }) (v := ?_) rfl (by kernel_rfl) (by kernel_rfl) (by kernel_rfl) (fun _ _ _ h => h) (Or.inl ⟨by rfl, ?_⟩) (by assumption) ?_
        rotate_left
        · (intro w hSw; (try dsimp only at hSw); go_simp; try with_reducible rfl)
        simp only [Act.put, List.setIfInBounds_toArray, List.set_cons_zero, List.set_cons_succ]
        refine wpAnyH_ready (rs := [5]) (by kernel_rfl) (by simp) ?_
        refine AllReadyH.cons (o := { dst := some 18, op := Op.call { callee := Callee.value (Operand.func 38), args := #[Operand.tmp 13, Operand.tmp 17], argTypes := #[42, 38] }, type := 4, pos := _, after := #[{ on := 0, ground := Ground.data }, { on := 4, ground := Ground.data }], guard := none }) rfl (fun K hK => ?_) AllReadyH.nil
        go_simp
        (go_at_call 38; refine (HTk.out _ HX.out.bel).mono ?_; rintro e w3 ⟨rfl, hb⟩; replace HX := hidW (HX.out.step hb); clear hb; go_wp2_with fail)
        refine hK.out _ _ ?_ (fun hHeld => ?_)
        · ((try dsimp only); with_reducible exact HK.out _ _ _ HX.out)
        clear hK K
        try simp only [Act.put, List.setIfInBounds_toArray, List.set_cons_zero, List.set_cons_succ]
        refine wpAnyH_take (i := 6) (oi := { dst := some 19, op := Op.unOp UnOp.not 4 (Operand.tmp 18), type := 4, pos := _, after := #[{ on := 5, ground := Ground.data }], guard := none }) (v := ?_) rfl (by kernel_rfl) (by kernel_rfl) (by kernel_rfl) (fun _ _ _ h => h) (Or.inl ⟨by rfl, ?_⟩) (by assumption) ?_
        rotate_left
        · (intro w hSw; (try dsimp only at hSw); go_simp; try with_reducible rfl)
        simp only [Act.put, List.setIfInBounds_toArray, List.set_cons_zero, List.set_cons_succ]
        refine wpAnyH_done (by kernel_rfl) ?_ _
        clear hHeld
        obtain ⟨⟨_, _, _⟩, e0, e1, e2, e3, e4, e5, e6, e7, e8⟩ := HK.out _ _ _ HX.out
        obtain ⟨v', w4, hr, ho, hT⟩ := appB _ _ _ F s HX.out.own HX.out.bel.size (by have := HFl.out; omega)
        replace HX := hidW (HX.out.app ho hT)
        have HR := hidW hr
        clear ho hT hr
        go_wp2_with (first | (at_builtin; refine wpList_append_eq rfl (.tmp 20) (.tmp 25) 24 rfl _ _ rfl rfl HR.out ?_; clear HR))
        go_roundw
        case rel => exact ⟨k + 1, by omega, by go_num, by rw [HF2.out]; exact HX.out⟩
        case measure => simp [intOf]; omega
      · rw [hm] at HTk
        have HF2 : Hid (((K.take (k + 1)).filter fun b => !tkF d b) = F) := hidW (by rw [HFt.out, hm]; simp)
        clear HFt hm
        go_wp2
        replace HX := hidW HX.out.drew
        refine wp_region_held_drew (S := fun w' => (w'.cell? ⟨B, 0, none⟩ = some (.int .i64 d.kind) ∧ w'.cell? ⟨B, 1, none⟩ = some (.int .u32 d.va) ∧ w'.cell? ⟨B, 2, none⟩ = some (.int .i64 d.asid)) ∧ w'.cell? ⟨g, k * 9, none⟩ = some (.int .i64 s.asid) ∧ w'.cell? ⟨g, k * 9 + 1, none⟩ = some (.int .i64 s.t.size) ∧ w'.cell? ⟨g, k * 9 + 2, none⟩ = some (.int .u32 s.t.va) ∧ w'.cell? ⟨g, k * 9 + 3, none⟩ = some (.int .u64 s.t.pa) ∧ w'.cell? ⟨g, k * 9 + 4, none⟩ = some (.int .i64 s.t.dom) ∧ w'.cell? ⟨g, k * 9 + 5, none⟩ = some (.int .i64 s.t.ap) ∧ w'.cell? ⟨g, k * 9 + 6, none⟩ = some (.int .u32 s.t.bits) ∧ w'.cell? ⟨g, k * 9 + 7, none⟩ = some (.bool s.t.ng) ∧ w'.cell? ⟨g, k * 9 + 8, none⟩ = some (.bool s.t.xn)) (by kernel_rfl) (HK.out _ _ _ HX.out) (fun hHeld => ?_)
        refine wpAnyH_take (i := 0) (oi := { dst := some 13, op := Op.load 42 (Operand.tmp 3), type := 42, pos := _, after := #[], guard := none }) (v := ?_) rfl (by kernel_rfl) (by kernel_rfl) (by kernel_rfl) (fun _ _ _ h => h) (Or.inl ⟨by rfl, ?_⟩) (by assumption) ?_
        rotate_left
        · (intro w hSw; (try dsimp only at hSw); go_simp; try with_reducible rfl)
        simp only [Act.put, List.setIfInBounds_toArray, List.set_cons_zero, List.set_cons_succ]
        refine wpAnyH_take (i := 1) (oi := { dst := some 14, op := Op.move (Operand.tmp 0), type := 24, pos := _, after := #[], guard := none }) (v := ?_) rfl (by kernel_rfl) (by kernel_rfl) (by kernel_rfl) (fun _ _ _ h => h) (Or.inl ⟨by rfl, ?_⟩) (by assumption) ?_
        rotate_left
        · (intro w hSw; (try dsimp only at hSw); go_simp; try with_reducible rfl)
        simp only [Act.put, List.setIfInBounds_toArray, List.set_cons_zero, List.set_cons_succ]
        refine wpAnyH_take (i := 2) (oi := { dst := some 15, op := Op.move (Operand.tmp 6), type := 3, pos := _, after := #[], guard := none }) (v := ?_) rfl (by kernel_rfl) (by kernel_rfl) (by kernel_rfl) (fun _ _ _ h => h) (Or.inl ⟨by rfl, ?_⟩) (by assumption) ?_
        rotate_left
        · (intro w hSw; (try dsimp only at hSw); go_simp; try with_reducible rfl)
        simp only [Act.put, List.setIfInBounds_toArray, List.set_cons_zero, List.set_cons_succ]
        refine wpAnyH_take (i := 3) (oi := { dst := some 16, op := Op.indexAddr 24 (Operand.tmp 14) (Operand.tmp 15), type := 0, pos := _, after := #[{ on := 1, ground := Ground.data }, { on := 2, ground := Ground.data }], guard := none }) (v := ?_) rfl (by kernel_rfl) (by kernel_rfl) (by kernel_rfl) (fun _ _ _ h => h) (Or.inl ⟨by rfl, ?_⟩) (by assumption) ?_
        rotate_left
        · (intro w hSw; (try dsimp only at hSw); go_simp; try with_reducible rfl)
        simp only [Act.put, List.setIfInBounds_toArray, List.set_cons_zero, List.set_cons_succ]
        refine wpAnyH_take (i := 4) (oi := { dst := some 17, op := Op.load 38 (Operand.tmp 16), type := 38, pos := _, after := #[{ on := 3, ground := Ground.data }], guard := none }) (v := ?_) rfl (by kernel_rfl) (by kernel_rfl) (by kernel_rfl) (fun _ _ _ h => h) (Or.inl ⟨by rfl, ?_⟩) (by assumption) ?_
        rotate_left
        · (intro w hSw; (try dsimp only at hSw); go_simp; try with_reducible rfl)
        simp only [Act.put, List.setIfInBounds_toArray, List.set_cons_zero, List.set_cons_succ]
        refine wpAnyH_ready (rs := [5]) (by kernel_rfl) (by simp) ?_
        refine AllReadyH.cons (o := { dst := some 18, op := Op.call { callee := Callee.value (Operand.func 38), args := #[Operand.tmp 13, Operand.tmp 17], argTypes := #[42, 38] }, type := 4, pos := _, after := #[{ on := 0, ground := Ground.data }, { on := 4, ground := Ground.data }], guard := none }) rfl (fun K hK => ?_) AllReadyH.nil
        go_simp
        (go_at_call 38; refine (HTk.out _ HX.out.bel).mono ?_; rintro e w3 ⟨rfl, hb⟩; replace HX := hidW (HX.out.step hb); clear hb; go_wp2_with fail)
        refine hK.out _ _ ?_ (fun hHeld => ?_)
        · ((try dsimp only); with_reducible exact HK.out _ _ _ HX.out)
        clear hK K
        try simp only [Act.put, List.setIfInBounds_toArray, List.set_cons_zero, List.set_cons_succ]
        refine wpAnyH_take (i := 6) (oi := { dst := some 19, op := Op.unOp UnOp.not 4 (Operand.tmp 18), type := 4, pos := _, after := #[{ on := 5, ground := Ground.data }], guard := none }) (v := ?_) rfl (by kernel_rfl) (by kernel_rfl) (by kernel_rfl) (fun _ _ _ h => h) (Or.inl ⟨by rfl, ?_⟩) (by assumption) ?_
        rotate_left
        · (intro w hSw; (try dsimp only at hSw); go_simp; try with_reducible rfl)
        simp only [Act.put, List.setIfInBounds_toArray, List.set_cons_zero, List.set_cons_succ]
        refine wpAnyH_done (by kernel_rfl) ?_ _
        clear hHeld
        go_wp2
        go_roundw
        case rel => exact ⟨k + 1, by omega, by go_num, by rw [HF2.out]; exact HX.out⟩
        case measure => simp [intOf]; omega
    · obtain rfl : k = n := by omega
      have HF2 : Hid (((K.take k).filter fun b => !tkF d b) = K.filter fun b => !tkF d b) := hidW (by rw [← HN.out, List.take_length])
      rw [HF2.out] at HX
      go_wp2
      go_ret
      exact ⟨_, rfl, HX.out.own, HX.out.bel⟩
end Go.Proofs.YtbbnodhpafiplaaDoor
namespace Go.Proofs.YtbbnodhpafiplaaDoor
open Go.RowKit
set_option linter.unusedVariables false
set_option linter.unusedSimpArgs false
/-- Pieces of a code. -/
def sq2 : Code → Code
  | .seq _ y => y
  | c => c
def sq1 : Code → Code
  | .seq x _ => x
  | c => c
def blkC : Code → Code
  | .block _ c => c
  | c => c
def lpC : Code → Code
  | .loop c => c
  | c => c
def cnA : Code → Code
  | .cond _ a _ => a
  | c => c
def cnB : Code → Code
  | .cond _ _ b => b
  | c => c
/-- The bodies of the inner loops. -/
def inJ (f : Func) : Code := lpC (blkC (sq2 (sq2 (blkC (sq1 (sq2 (lpC (blkC (sq2 (sq2 (sq2 (blkC (sq1 (sq2 (lpC (blkC (sq2 (sq1 (sq2 (sq2 (sq2 (sq2 (sq2 (sq2 (sq2 (sq2 (sq2 (f.body.getD .skip))))))))))))))))))))))))))))
def inW (f : Func) : Code := lpC (blkC (sq2 (sq2 (sq2 (blkC (sq1 (sq2 (lpC (blkC (sq2 (sq1 (sq2 (sq2 (sq2 (sq2 (sq2 (sq2 (sq2 (sq2 (sq2 (f.body.getD .skip)))))))))))))))))))))
def inL (f : Func) : Code := lpC (blkC (sq2 (sq1 (sq2 (sq2 (sq2 (sq2 (sq2 (sq2 (sq2 (sq2 (sq2 (f.body.getD .skip)))))))))))))
theorem setCells_bl {t : TypeId} {b : Nat} : ∀ (cs : List Value) (o : Nat) (w : World) (l : List Value), Bl w b t l → l.length = o + cs.length → Bl (w.setCells b o cs) b t (l.take o ++ cs)
  | [], o, w, l, h, hl => by
    rw [List.take_of_length_le (by simp at hl; omega), List.append_nil]
    exact h
  | c :: cs, o, w, l, h, hl => by
    have h1 := setCells_bl cs (o + 1) _ _ (h.set o c) (by simp at hl ⊢; omega)
    rw [World.setCells]
    have h2 : (l.set o c).take (o + 1) = l.take o ++ [c] := by
      rw [List.take_add_one, List.take_set_of_le (Nat.le_refl _), List.getElem?_set_self (by simp at hl; omega)]
      rfl
    rw [h2, List.append_assoc] at h1
    exact h1
theorem setCells_turn (b : Nat) : ∀ (cs : List Value) (o : Nat) (w : World), Turn (· = b) w (w.setCells b o cs)
  | [], _, w => Turn.refl _ w
  | c :: cs, o, w => by
    rw [World.setCells]
    exact ((Turn.refl (· = b) w).setCell (p := ⟨b, o, none⟩) (.inl rfl) c).then (setCells_turn b cs (o + 1) _)
/-- A box of many cells. -/
theorem box_big (w : World) (t : TypeId) (zs cs : List Value) (hl : zs.length = cs.length) : Bl ((w.alloc (.cells zs.toArray t)).setCells w.heap.size 0 cs) w.heap.size t cs ∧ Below w.heap.size w ((w.alloc (.cells zs.toArray t)).setCells w.heap.size 0 cs) := by
  have h := setCells_bl cs 0 _ _ (Bl.new w t zs) (by omega)
  rw [List.take_zero, List.nil_append] at h
  exact ⟨h, ((Turn.below (S := (· = w.heap.size)) (below_new w _)).then (setCells_turn _ cs 0 _)).to (fun x hx => by rw [hx]; exact Nat.le_refl _) (Nat.le_refl _)⟩
theorem there_new (w : World) (t : TypeId) (zs : List Value) (n : Nat) (hn : n = zs.length) : (w.alloc (.cells zs.toArray t)).there w.heap.size 0 n := fun j hj => by
  have h := Bl.new w t zs
  rw [Nat.zero_add]
  refine ⟨?_, h.frozen j⟩
  rw [h.cell, List.getElem?_eq_getElem (by omega)]
  rfl
theorem ol_one (o : Opr) : ([.int .i64 o.kind, .int .i64 o.asid, .int .i64 o.pick, .int .i64 o.which, .int .u32 o.va, .bool o.fetch, .bool o.mfirst, .int .i64 o.b.asid, .int .i64 o.b.t.size, .int .u32 o.b.t.va, .int .u64 o.b.t.pa, .int .i64 o.b.t.dom, .int .i64 o.b.t.ap, .int .u32 o.b.t.bits, .bool o.b.t.ng, .bool o.b.t.xn, .int .i64 o.d.kind, .int .u32 o.d.va, .int .i64 o.d.asid] : List Value).toArray.all (·.oneCell') = true := all_oneCell_toArray (fun v hv => by simp at hv; rcases hv with rfl | rfl | rfl | rfl | rfl | rfl | rfl | rfl | rfl | rfl | rfl | rfl | rfl | rfl | rfl | rfl | rfl | rfl | rfl <;> rfl)
/-- Three TLBs and what is kept, all one's own. -/
structure OX (W wr : World) (A : Ad) (X : Hi) (K : List Blo) (v : Value) : Prop where
  bel : Below W.heap.size W wr
  ph : PH 73 95 [] wr A X
  na : ∀ x, A.S x → W.heap.size ≤ x
  own : Ob wr W.heap.size v K
  kok : ∀ b ∈ K, BOk b
section
variable {W wr w' : World} {A : Ad} {X Y : Hi} {K : List Blo} {v v' : Value}
theorem OX.step (h : OX W wr A X K v) (hb : Below wr.heap.size wr w') : OX W w' A X K v := ⟨Below.step h.bel hb, h.ph.below hb, h.na, h.own.below hb, h.kok⟩
theorem OX.turn (h : OX W wr A X K v) (hp : PH 73 95 [] w' A Y) (hT : Turn A.S wr w') : OX W w' A Y K v :=
  ⟨((Turn.below (S := A.S) h.bel).then hT).to (fun x hx => h.na x hx) (Nat.le_refl _), hp, h.na, h.own.turn hT (fun x hx hs => by obtain ⟨_, _, c, hc⟩ := h.own.block hx; obtain ⟨c2, hc2⟩ := h.ph.row _ hs; exact hc.ne hc2 (by decide) rfl), h.kok⟩
theorem OX.app (h : OX W wr A X K v) {b : Blo} (ho : Ob w' W.heap.size v' (K ++ [b])) (hT : Turn (fun x => v.ownBlock = some x) wr w') (hb : BOk b) : OX W w' A X (K ++ [b]) v' := by
  have f : ∀ {p : Nat} {t : TypeId} {c : List Value}, Bl wr p t c → t ≠ 38 → ¬ v.ownBlock = some p := fun hq ht hs => by
    obtain ⟨_, _, c, hc⟩ := h.own.block hs
    exact hq.ne hc ht rfl
  refine ⟨((Turn.below (S := fun x => v.ownBlock = some x) h.bel).then hT).to (fun x hx => (h.own.block hx).1) (Nat.le_refl _), ?_, h.na, ho, fun x hx => ?_⟩
  · exact ⟨h.ph.box.turn hT (f h.ph.box (by decide)), h.ph.ti.turn hT (f h.ph.ti.box (by decide)) (f h.ph.ti.row (by decide)), h.ph.td.turn hT (f h.ph.td.box (by decide)) (f h.ph.td.row (by decide)), h.ph.tm.turn hT (f h.ph.tm.box (by decide)) (f h.ph.tm.row (by decide)), h.ph.n1, h.ph.n2, h.ph.n3, h.ph.ne⟩
  · rcases List.mem_append.1 hx with h1 | h1
    · exact h.kok x h1
    · rw [List.mem_singleton.1 h1]; exact hb
theorem OX.cut (h : OX W wr A X K v) (p : Blo → Bool) (ho : Ob w' wr.heap.size v' (K.filter p)) (hb : Below wr.heap.size wr w') : OX W w' A X (K.filter p) v' := by
  refine ⟨Below.step h.bel hb, h.ph.below hb, h.na, ⟨ho.1, ?_⟩, fun x hx => h.kok x (List.mem_filter.1 hx).1⟩
  rcases ho.2 with h1 | ⟨g, cap, cur, h1, h2, h3⟩
  · exact .inl h1
  · exact .inr ⟨g, cap, cur, h1, Nat.le_trans h.bel.size h2, h3⟩
end
end Go.Proofs.YtbbnodhpafiplaaDoor
namespace Go.Proofs.YtbbnodhpafiplaaDoor
open Go.RowKit
set_option linter.unusedVariables false
set_option linter.unusedSimpArgs false
theorem fB_ov1 : ovF fB 8188 3 = true := by kernel_rfl
theorem fB_ov2 : ovF fB 4096 3 = true := by kernel_rfl
theorem fB_r : bR fB = true := by kernel_rfl
/-- A first block must be kept, and found. -/
theorem only_first (i d m : Int) (h : Okn i ∧ Okn d ∧ Okn m) : ∃ X1 X2, keF (zH i d m) fB 8188 3 true 0 = (0, X1) ∧ fiF X1 4096 3 false 0 false = ((fB, 1), X2) ∧ Inv X2 [fB] := by
  obtain ⟨⟨h1, _⟩, ⟨h2, _⟩, ⟨h3, _⟩⟩ := h
  obtain ⟨a, ha⟩ : ∃ a, i.toNat = a + 1 := ⟨i.toNat - 1, by omega⟩
  obtain ⟨b, hb⟩ : ∃ b, d.toNat = b + 1 := ⟨d.toNat - 1, by omega⟩
  obtain ⟨c, hc⟩ : ∃ c, m.toNat = c + 1 := ⟨m.toNat - 1, by omega⟩
  refine ⟨⟨⟨true, fB⟩ :: List.replicate a sZ, List.replicate (b + 1) sZ, ⟨true, fB⟩ :: List.replicate c sZ⟩, ⟨⟨true, fB⟩ :: List.replicate a sZ, ⟨true, fB⟩ :: List.replicate b sZ, ⟨true, fB⟩ :: List.replicate c sZ⟩, ?_, ?_, ?_⟩
  · unfold keF zH
    rw [if_pos fB_ov1, ha, hb, hc]
    simp only [Hi.sm, Hi.setS, if_true, zeros_fil fB_ov1]
  · unfold fiF fiC
    simp only [Hi.sm, Hi.setS, Bool.false_eq_true, if_false, zeros_look, one_look fB_ov2, decide_true, if_true, and_self]
    rw [zeros_put fB_r]
    rfl
  · rintro s (hs | hs | hs) hf
    all_goals
      rcases List.mem_cons.1 hs with h1 | h1
      · rw [h1]; exact .head _
      · rw [(List.mem_replicate.1 h1).2] at hf; cases hf
theorem ob_first {w : World} {lo : Nat} (h : lo ≤ w.heap.size) : Ob (w.alloc (.cells ([.int .i64 fB.asid, .int .i64 fB.t.size, .int .u32 fB.t.va, .int .u64 fB.t.pa, .int .i64 fB.t.dom, .int .i64 fB.t.ap, .int .u32 fB.t.bits, .bool fB.t.ng, .bool fB.t.xn]).toArray 38)) lo (.slice (some ⟨w.heap.size, 0, none⟩) 1 1) [fB] := by
  have hB : (w.alloc (.cells (encB fB).toArray 38)).heap[w.heap.size]? = some (.cells (encB fB).toArray 38 (0, 0)) := Bl.new w 38 (encB fB)
  exact ⟨rfl, .inr ⟨w.heap.size, 1, (encB fB).toArray, rfl, h, hB, Nat.le_refl _, by unfold maxLen; omega, rfl, rfl⟩⟩
set_option maxRecDepth 1000000 in
set_option maxHeartbeats 64000000 in
theorem only_no (W : World) (i d m : Int) (sa : Option Addr) (len cap : Nat) (h : ¬ (Okn i ∧ Okn d ∧ Okn m)) :
    Calls Tryd.prog 4 #[.int .i64 i, .int .i64 d, .int .i64 m, .slice sa len cap] W fun e w' => e = .returned (.bool true) ∧ Below W.heap.size W w' := by
  have HB := hidW (hnew_no i d m W h)
  have HH := hidW h
  clear h
  by_cases c0 : 1 ≤ i
  · have q0 : decide (1 ≤ i) = true := decide_eq_true c0
    by_cases c1 : i ≤ 64
    · have q1 : decide (i ≤ 64) = true := decide_eq_true c1
      by_cases c2 : 1 ≤ d
      · have q2 : decide (1 ≤ d) = true := decide_eq_true c2
        by_cases c3 : d ≤ 64
        · have q3 : decide (d ≤ 64) = true := decide_eq_true c3
          by_cases c4 : 1 ≤ m
          · have q4 : decide (1 ≤ m) = true := decide_eq_true c4
            by_cases c5 : m ≤ 64
            · have q5 : decide (m ≤ 64) = true := decide_eq_true c5
              exact absurd ⟨⟨c0, c1⟩, ⟨c2, c3⟩, c4, c5⟩ HH.out
            · have q5 : decide (m ≤ 64) = false := decide_eq_false c5
              go_enter Tryd.func4, Tryd.ntmps4
              go_wp2_with (fail)
              go_at_call 8
              refine HB.out.mono ?_
              rintro e w1 ⟨rfl, hb⟩
              have HX := hidW hb
              clear hb HB HH
              go_wp2
              go_ret
              exact ⟨rfl, HX.out⟩
          · have q4 : decide (1 ≤ m) = false := decide_eq_false c4
            go_enter Tryd.func4, Tryd.ntmps4
            go_wp2_with (fail)
            go_at_call 8
            refine HB.out.mono ?_
            rintro e w1 ⟨rfl, hb⟩
            have HX := hidW hb
            clear hb HB HH
            go_wp2
            go_ret
            exact ⟨rfl, HX.out⟩
        · have q3 : decide (d ≤ 64) = false := decide_eq_false c3
          go_enter Tryd.func4, Tryd.ntmps4
          go_wp2_with (fail)
          go_at_call 8
          refine HB.out.mono ?_
          rintro e w1 ⟨rfl, hb⟩
          have HX := hidW hb
          clear hb HB HH
          go_wp2
          go_ret
          exact ⟨rfl, HX.out⟩
      · have q2 : decide (1 ≤ d) = false := decide_eq_false c2
        go_enter Tryd.func4, Tryd.ntmps4
        go_wp2_with (fail)
        go_at_call 8
        refine HB.out.mono ?_
        rintro e w1 ⟨rfl, hb⟩
        have HX := hidW hb
        clear hb HB HH
        go_wp2
        go_ret
        exact ⟨rfl, HX.out⟩
    · have q1 : decide (i ≤ 64) = false := decide_eq_false c1
      go_enter Tryd.func4, Tryd.ntmps4
      go_wp2_with (fail)
      go_at_call 8
      refine HB.out.mono ?_
      rintro e w1 ⟨rfl, hb⟩
      have HX := hidW hb
      clear hb HB HH
      go_wp2
      go_ret
      exact ⟨rfl, HX.out⟩
  · have q0 : decide (1 ≤ i) = false := decide_eq_false c0
    go_enter Tryd.func4, Tryd.ntmps4
    go_wp2_with (fail)
    go_at_call 8
    refine HB.out.mono ?_
    rintro e w1 ⟨rfl, hb⟩
    have HX := hidW hb
    clear hb HB HH
    go_wp2
    go_ret
    exact ⟨rfl, HX.out⟩
end Go.Proofs.YtbbnodhpafiplaaDoor
