import Derived.Test.YtaahbklganhfkaaOwnA
namespace Go.Proofs.Ytaahbklganhfkaa
open Go.RowKit
set_option linter.unusedVariables false

/-- A list that is being grown: still in the block of the list it began as, or in a block that is nobody's. -/
def More (W : World) (lo hi top : Nat) (v0 xv : Value) (l : List ByteArray) (j : Nat) (e0 : ByteArray) : Prop :=
  (∃ a n c, v0 = .slice a n c ∧ xv = .slice a (n + j) c ∧ Part W lo hi xv (l ++ List.replicate j e0)) ∨ Owns top W xv (l ++ List.replicate j e0)

theorem rep_snoc (l : List ByteArray) (j : Nat) (e0 : ByteArray) : (l ++ List.replicate j e0) ++ [e0] = l ++ List.replicate (j + 1) e0 := by
  rw [List.append_assoc, List.replicate_succ']

theorem grown_below {B : Nat} {w W w' : World} {row : Option Nat} (h : Below B w W) (hg : W.grownBy w' row) (hB : B ≤ W.heap.size) (hrow : ∀ k, row = some k → B ≤ k) : Below B w w' :=
  h.grown hg hB hrow

section
variable {w W : World} {H : Nat → Nat} {GA : Nat} {v : Nat → Value} {m : Nat → ByteArray} {l : Nat → List ByteArray}

theorem wpList_more {k j : Nat} {xv : Value} {e0 : ByteArray} (hst : St w W H GA v m l) (hk : k < 3) (hm : More W (H k) (H (k + 1)) (GA + 2) (v k) xv (l k) j e0) (hlen : (l k).length ≤ 3000000) (hj : j ≤ 64)
    {ops : Array Oper} {rest : List Oper} {o : Oper} {a : Act} {Q : Exit → Act → World → Prop} (hg : o.guard = none) (s x : Operand) (hop : o.op = Op.call { callee := Callee.builtin Builtin.append, args := #[s, x], argTypes := #[29, 29] })
    (hs : a.eval s = xv) (ad : Addr) (hx : a.eval x = .slice (some ad) 1 1) (hc : ∀ j u, [Value.string e0][j]? = some u → W.cell? (ad.add j) = some u)
    (hK : ∀ v' w', St w w' H GA v m l → More w' (H k) (H (k + 1)) (GA + 2) (v k) v' (l k) (j + 1) e0 → wpList Try.prog ops Q rest (a.put o.dst v') w') : wpList Try.prog ops Q (o :: rest) a W := by
  obtain ⟨i0, hi, hz0, hz1, hz2⟩ := info_parts info9
  have h1c : ∀ u ∈ [Value.string e0], u.oneCell' = true := by
    intro y hy
    simp at hy
    subst hy
    rfl
  have hlow := hst.low' hk
  have hsz := hst.size
  have hmono := hst.mono (show k ≤ k + 1 by omega) (by omega)
  have hL : (l k ++ List.replicate j e0).length = (l k).length + j := by simp
  rcases hm with ⟨a0, n, c, hv0, rfl, hp⟩ | hown
  · have hn : (l k ++ List.replicate j e0).length = n + j := hp.len
    have hown : W.ownsRow (H k) 9 1 (.slice a0 (n + j) c) (n + j) ((l k ++ List.replicate j e0).map Value.string) := by
      have := hp.own
      unfold Owns at this
      rw [hn] at this
      exact this
    by_cases hroom : n + j + 1 ≤ c
    · obtain ⟨g, rfl⟩ : ∃ g, a0 = some ⟨g, 0, none⟩ := by
        rcases hown.2 with ⟨e, _⟩ | ⟨g, cap, cur, e, _⟩
        · simp only [Value.slice.injEq] at e
          omega
        · cases e
          exact ⟨g, rfl⟩
      have hgt : g < H (k + 1) := hp.top g rfl
      have hgl : H k ≤ g := (World.ownsRow.lt hown g rfl).1
      refine wpList_append_fits W hg s x 29 hop (H k) 9 i0 1 Try.underlying29 hi hz1 g (n + j) c _ hs hown ad 1 1 [.string e0] hx rfl hc h1c hroom ?_
      intro w' ho hgr
      have ho' : w'.ownsRow (H k) 9 1 (.slice (some ⟨g, 0, none⟩) (n + (j + 1)) c) (n + (j + 1)) ((l k ++ List.replicate (j + 1) e0).map Value.string) := by
        rw [← rep_snoc, List.map_append]
        exact ho
      refine hK _ _ ?_ (.inl ⟨_, n, c, hv0, rfl, ?_, fun g' e => by cases e; exact hgt⟩)
      · have hcut : Part w' (H k) (H (k + 1)) (v k) (l k) := by
          rw [hv0]
          exact Part.cut (by omega) hgt ho' (by simp)
        refine (hst.upd hk (grown_below hst.bel hgr (by omega) (fun q e => by cases e; omega)) (by have := hgr.size; omega) (fun q h1 h2 => hgr.block q (by omega) (fun e => ?_)) hcut).congr (fun i _ => ?_)
        · cases e
          exact h2 ⟨hgl, hgt⟩
        · show (if i = k then l k else l i) = l i
          split
          · subst i
            rfl
          · rfl
      · unfold Owns
        have : (l k ++ List.replicate (j + 1) e0).length = n + (j + 1) := by
          simp at hn ⊢
          omega
        rw [this]
        exact ho'
    · refine wpList_append_grows W hg s x 29 hop 9 i0 (.string ⟨#[]⟩) 1 16 Try.underlying29 hi hz0 hz1 hz2 rfl (by decide) a0 (n + j) c ((l k ++ List.replicate j e0).map Value.string) hs ?_ ?_ ?_ ad 1 1 [.string e0] hx rfl hc h1c (by omega) (by unfold maxLen; omega) (by omega) ?_
      · intro e
        subst e
        rcases hown.2 with ⟨e, _⟩ | ⟨g, cap, cur, e, _⟩
        · simp only [Value.slice.injEq] at e
          exact ⟨by omega, by omega⟩
        · cases e
      · simpa using hn
      · intro b e i u hu
        subst e
        obtain ⟨g, rfl⟩ : ∃ g, b = ⟨g, 0, none⟩ := by
          rcases hown.2 with ⟨e, _⟩ | ⟨g, cap, cur, e, _⟩
          · cases e
          · cases e
            exact ⟨g, rfl⟩
        have hadd : (⟨g, 0, none⟩ : Addr).add i = ⟨g, i, none⟩ := by
          unfold Addr.add
          split <;> simp_all
        rw [hadd]
        have hil : i < ((l k ++ List.replicate j e0).map Value.string).length := (List.getElem?_eq_some_iff.1 hu).1
        rw [World.ownsRow.cellAt hown i (by simp at hil hn ⊢; omega)]
        exact hu
      · intro v' w' ho hgr
        refine hK _ _ (hst.keep (grown_below hst.bel hgr (by omega) (fun q e => by cases e)) (by have := hgr.size; omega) (fun q hq => hgr.block q (by omega) (fun e => by cases e))) (.inr ?_)
        refine owns_mono ?_ hsz
        unfold Owns
        rw [← rep_snoc, List.map_append, List.length_append, hn]
        exact ho
  · refine wpList_append_own _ hg s x 29 hop (GA + 2) 9 i0 (.string ⟨#[]⟩) 1 16 Try.underlying29 hi hz0 hz1 hz2 rfl (by decide) _ _ _ hs hown ad 1 1 [.string e0] hx rfl hc h1c (by unfold maxLen; omega) (by omega) hsz ?_
    intro v' w' ho hgr _
    have hrow : ∀ q, xv.ownBlock = some q → GA + 2 ≤ q := fun q hq => (World.ownsRow.lt hown q hq).1
    refine hK _ _ (hst.keep (grown_below hst.bel hgr (by omega) (fun q e => by have := hrow q e; omega)) (by have := hgr.size; omega) (fun q hq => hgr.block q (by omega) (fun e => by have := hrow q e.symm; omega))) (.inr ?_)
    unfold Owns
    rw [← rep_snoc, List.map_append, List.length_append]
    exact ho
end
end Go.Proofs.Ytaahbklganhfkaa
