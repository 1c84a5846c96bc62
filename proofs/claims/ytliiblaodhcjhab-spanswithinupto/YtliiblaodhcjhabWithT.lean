import Derived.Test.YtliiblaodhcjhabWithS
namespace Go.Proofs.Ytliiblaodhcjhab
open Go.RowKit Go.Shelf
set_option linter.unusedVariables false

theorem keepsFrom_below {B : Nat} {Y Y' : World} (hb : Below Y.heap.size Y Y') : KeepsFrom B Y Y' :=
  ⟨hb.size, fun k o _ h _ => by rw [hb.block k (Array.getElem?_eq_some_iff.1 h).1]; exact h⟩

theorem keepsFrom_turn {B lo p : Nat} {Y Y' : World} {v : Value} {M : List (Sp Int)} (hm : MapAt Y lo p v M) (t : Turn Y Y' p v) : KeepsFrom B Y Y' := by
  refine ⟨t.size, fun k o _ h hc => ?_⟩
  rw [t.block k (Array.getElem?_eq_some_iff.1 h).1 (fun e => by subst e; rw [hm.box] at h; cases h; cases hc) (fun e => by obtain ⟨cur, hcur⟩ := own_type hm.own e.symm; rw [hcur] at h; cases h; cases hc)]
  exact h

theorem box_turn {lo p b : Nat} {Y Y' : World} {v u : Value} {ty : TypeId} {M : List (Sp Int)} (hb : Boxed Y b ty u) (hm : MapAt Y lo p v M) (t : Turn Y Y' p v) (hne : b ≠ p) (hty : ty ≠ 45) : Boxed Y' b ty u := by
  show Y'.heap[b]? = _
  rw [t.block b hb.lt hne (fun e => by obtain ⟨cur, hcur⟩ := own_type hm.own e.symm; exact block_ne hb hcur hty rfl)]
  exact hb

theorem row_turn' {lo lo' p n size : Nat} {Y Y' : World} {v u : Value} {ty : TypeId} {xs : List Value} {M : List (Sp Int)} (hr : Y.ownsRow lo' ty size u n xs) (hm : MapAt Y lo p v M) (t : Turn Y Y' p v) (h1 : ty ≠ 76) (h2 : ty ≠ 45) : Y'.ownsRow lo' ty size u n xs := by
  refine row_turn hr t ?_ ?_
  · intro g hg
    obtain ⟨cur, hc⟩ := own_type hr hg
    exact block_ne hc hm.box h1
  · intro g hg e
    obtain ⟨cur, hc⟩ := own_type hr hg
    obtain ⟨cur2, hc2⟩ := own_type hm.own e.symm
    exact block_ne hc hc2 h2 rfl

theorem Stw.below {W w8 w10 : World} {Bm Bw lw : Nat} {wa : Option Addr} {wc gl : Nat} {G L pre : List (Sp Int)} {Y Y' : World} (h : Stw W w8 w10 Bm Bw lw wa wc gl G L pre Y) (hb : Below Y.heap.size Y Y') : Stw W w8 w10 Bm Bw lw wa wc gl G L pre Y' := by
  obtain ⟨v, hm⟩ := h.at'
  exact ⟨h.cnt.kept (below_grown hb) (by simp), h.want.kept (below_grown hb) (by simp), h.map.kept (below_grown hb) (by simp), h.res.kept (below_grown hb) (by simp), row_keep h.list hb, ⟨v, hm.keep hb⟩, h.part, below_go h.bel hb, fun b c e h1 h2 h3 h4 => by
    have h5 := h.clo b c e h1 h2 h3 h4
    rw [hb.block b (Array.getElem?_eq_some_iff.1 h5).1]
    exact h5⟩

theorem row_other' {W : World} {lo n size b : Nat} {e ty : TypeId} {v u z : Value} {xs : List Value} (h : W.ownsRow lo e size v n xs) (hb : Boxed W b ty u) (hne : ty ≠ e) : (W.setCell ⟨b, 0, none⟩ z).ownsRow lo e size v n xs := by
  rcases row_of_own h with ⟨rfl, h1, h2⟩ | ⟨g, cap, cur, rfl, a, r, c, d, e1, f⟩
  · rw [h1, h2]; exact World.ownsRow_nil _ _ _ _
  · refine own_of_row (g := g) (cur := cur) ?_ a c d e1 f
    show (W.setCell ⟨b, 0, none⟩ z).heap[g]? = _
    rw [heap_setCell_other W ⟨b, 0, none⟩ g z (fun e => by subst e; exact block_ne hb r hne rfl)]
    exact r

theorem map_set {W : World} {lo p b : Nat} {v u z : Value} {ty : TypeId} {L : List (Sp Int)} (h : MapAt W lo p v L) (hb : Boxed W b ty u) (hne : b ≠ p) (hty : ty ≠ 45) : MapAt (W.setCell ⟨b, 0, none⟩ z) lo p v L :=
  ⟨by rw [heap_setCell_other W ⟨b, 0, none⟩ p z (fun e => hne e.symm)]; exact h.box, row_other' h.own hb hty, h.low, h.good⟩

/-- A round that found what it should: the map is cleared, and one more is counted. -/
theorem Stw.next {W w8 w10 : World} {Bm Bw lw : Nat} {wa : Option Addr} {wc gl : Nat} {G L pre : List (Sp Int)} {x : Sp Int} {Y wL wC : World} {vm v' : Value} {M : List (Sp Int)} (h : Stw W w8 w10 Bm Bw lw wa wc gl G L pre Y) (hb : Below Y.heap.size Y wL) (hm : MapAt wL (W.heap.size + 1) (W.heap.size + 1) vm M) (hm' : MapAt wC (W.heap.size + 1) (W.heap.size + 1) v' []) (ho : ∀ g, v'.ownBlock = some g → vm.ownBlock = some g ∨ wL.heap.size ≤ g) (t : Turn wL wC (W.heap.size + 1) vm) (hp : (pre ++ [x]) <+: G)
    (n1 : W.heap.size + 1 < w8.heap.size) (n2 : Bw ≠ W.heap.size + 1) (n3 : Bm ≠ W.heap.size + 1) (n4 : Bw < w8.heap.size) (n5 : Bm < w8.heap.size) :
    KeepsFrom w10.heap.size Y (wC.setCell ⟨w8.heap.size + 1 + 1 + 1, 0, none⟩ (.int .i64 ((pre.length : Int) + 1))) ∧ KpS (w8.heap.size + 1 + 1 + 1) (W.heap.size + 1) Y (wC.setCell ⟨w8.heap.size + 1 + 1 + 1, 0, none⟩ (.int .i64 ((pre.length : Int) + 1))) ∧ Stw W w8 w10 Bm Bw lw wa wc gl G L (pre ++ [x]) (wC.setCell ⟨w8.heap.size + 1 + 1 + 1, 0, none⟩ (.int .i64 ((pre.length : Int) + 1))) := by
  have hL := h.below hb
  have b1 := box_turn hL.cnt hm t (by omega) (by decide)
  have b2 := box_turn hL.want hm t n2 (by decide)
  have b3 := box_turn hL.map hm t n3 (by decide)
  have b4 := box_turn hL.res hm t (by omega) (by decide)
  have r1 := row_turn' hL.list hm t (by decide) (by decide)
  refine ⟨((keepsFrom_below hb).trans (keepsFrom_turn hm t)).trans ((KeepsOthers.setCell _ _ _).from _), ((KpS.of_below (by have := hm.lt; have := h.bel.size; exact Nat.lt_of_lt_of_le (by have := h.map.lt; omega : W.heap.size + 1 < w8.heap.size) (by have := h.cnt.lt; omega)) hb).trans (kps_turn t hm.cell hm'.cell ho)).trans (kps_set _ (by omega)), ?_⟩
  refine ⟨?_, b2.other (by omega) _, b3.other (by omega) _, b4.other (by omega) _, ?_, ?_, hp, ?_, fun b c e h1 h2 h3 h4 => ?_⟩
  · have e : (.int .i64 ((pre.length : Int) + 1) : Value) = .int .i64 ((pre ++ [x]).length : Int) := by simp
    rw [e]
    exact b1.set _
  · exact row_other' r1 b1 (by decide)
  · rw [if_neg (by simp)]
    exact ⟨v', map_set hm' b1 (by omega) (by decide)⟩
  · exact (turn_below hL.bel hm (Nat.le_succ _) t).setCell (by show W.heap.size ≤ w8.heap.size + 1 + 1 + 1; omega) _
  · have h5 := hL.clo b c e h1 h2 h3 h4
    rw [heap_setCell_other wC _ b _ (show b ≠ w8.heap.size + 1 + 1 + 1 by omega), t.block b (Array.getElem?_eq_some_iff.1 h5).1 (by omega) (fun e' => by obtain ⟨cur, hcur⟩ := own_type hm.own e'.symm; exact block_ne h5 hcur h2 rfl)]
    exact h5
end Go.Proofs.Ytliiblaodhcjhab
