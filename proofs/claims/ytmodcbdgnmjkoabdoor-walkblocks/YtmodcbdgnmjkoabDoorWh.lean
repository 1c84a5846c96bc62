import Derived.Test.YtmodcbdgnmjkoabDoorWg
import Derived.Test.YtmodcbdgnmjkoabDoorMX
namespace Go.Proofs.YtmodcbdgnmjkoabDoor
open Go.RowKit
open Mm (Turn gr PM valV errV Byts RowAt)
set_option linter.unusedVariables false
set_option linter.unusedSimpArgs false
def encU (l : List Int) : List Value := l.map (Value.int .u64)
theorem infoU : (Tryd.prog.info? 23).map (fun i => (i.zero, i.size, i.bytes)) = some (some (.int .u64 0), 1, 8) := by kernel_rfl
/-- append of one address to a list of one's own. -/
theorem appU (wr : World) (lo : Nat) (v : Value) (l : List Int) (b : Int) (h : wr.ownsRow lo 23 1 v l.length (encU l)) (hlo : lo ≤ wr.heap.size) (hk : l.length ≤ 268435456) :
    ∃ v' w', (∀ ty, (Builtin.append_ #[91, 91] ty #[v, .slice (some ⟨wr.heap.size, 0, none⟩) 1 1]).run Tryd.prog (wr.alloc (.cells #[.int .u64 b] 23)) = .ok v' w') ∧ w'.ownsRow lo 23 1 v' (l.length + 1) (encU (l ++ [b])) ∧ Turn (fun x => v.ownBlock = some x) wr w' ∧ (∀ g, v'.ownBlock = some g → v.ownBlock = some g ∨ wr.heap.size ≤ g) := by
  obtain ⟨i0, hi, hz0, hz1, hz2⟩ := info_parts infoU
  have hB := Mm.row_new wr [.int .u64 b] 23
  have ho := Mm.own_turn h (((Turn.refl (fun _ => False) wr).alloc (.cells #[.int .u64 b] 23))) (fun _ _ h => h)
  obtain ⟨v', w', hr, ho', hg, hb⟩ := Mm.append_any (P := Tryd.prog) (wr.alloc (.cells #[.int .u64 b] 23)) 91 23 i0 _ Tryd.underlying91 hi hz0 (by rw [hz1]; rfl) lo l.length 1 v (.slice (some ⟨wr.heap.size, 0, none⟩) 1 1) (encU l) [.int .u64 b] (by rw [hz1]; exact ho)
    (by rw [hz1]; exact Src.ofSlice _ Tryd.underlying91 ⟨wr.heap.size, 0, none⟩ 1 1 _ rfl (fun j u hj => by rw [Addr.add_lit, Nat.zero_add]; exact (hB.cell j).trans hj) (fun u hu => by simp at hu; subst hu; rfl)) (by simp; omega) (by unfold maxLen; omega) (by rw [hz2]; omega)
  rw [hz1] at ho'
  refine ⟨v', w', hr, by simpa [encU] using ho', ((Turn.refl _ wr).alloc _).trans (S' := fun x => v.ownBlock = some x) (Turn.grown hg (fun x hx => .inl hx)) (fun x hx => .inl hx), fun g hg => ?_⟩
  rcases hb g hg with h1 | h1
  · exact .inl h1
  · simp at h1; exact .inr (by omega)
theorem Bl.put' {w : World} {b : Nat} {t : TypeId} {l : List Value} (h : Bl w b t l) (i : Nat) (v : Value) : Bl (w.setCell ⟨b, i, none⟩ v) b t (l.set i v) := by
  unfold Bl at h ⊢
  simp only [World.setCell, Array.getElem?_modify, h, if_true]
  simp
end Go.Proofs.YtmodcbdgnmjkoabDoor
