import Derived.Maps.RangeWalk
import Derived.Maps.OwnOps
import Derived.DeepKeys4
import Derived.Test.YtfdjfhhjfgdbaaaGreatDoorVb
namespace Go.Proofs.YtfdjfhhjfgdbaaaGreatDoor
open Go.RowKit
open Go.Maps (Keyed)
set_option linter.unusedVariables false
set_option linter.unusedSimpArgs false
theorem lawI : Keyed Tryz.prog 3 := Maps.int_keyed Tryz.underlying3
theorem wf64 {n : Int} (h1 : -9223372036854775808 ≤ n) (h2 : n ≤ 9223372036854775807) : (Lit.int .i64 n).wf = true := by
  simp only [Lit.wf, Bool.and_eq_true, decide_eq_true_eq]
  exact ⟨h1, h2⟩
theorem keyI {a : Int} (h1 : -9223372036854775808 ≤ a) (h2 : a ≤ 9223372036854775807) : keyOf Tryz.prog 3 (.int .i64 a) = some (.int .i64 a) := Maps.keyOf_int_mk Tryz.underlying3 (wf64 h1 h2)
/-- An empty map. -/
def EM (w : World) (g : Nat) : Prop := w.heap[g]? = some (.map #[] 0)
theorem EM.new (w : World) : EM (w.alloc (.map #[] 0)) w.heap.size := (MapKept.heap_alloc w _).1
theorem EM.lt {w : World} {g : Nat} (h : EM w g) : g < w.heap.size := by
  rcases Nat.lt_or_ge g w.heap.size with hh | hh
  · exact hh
  · rw [EM, Array.getElem?_eq_none (by omega)] at h; cases h
theorem EM.turn {S : Nat → Prop} {w w' : World} {g : Nat} (h : EM w g) (hT : Turn S w w') (hn : ¬ S g) : EM w' g := (hT.block g h.lt hn).trans h
theorem EM.below {w w' : World} {g : Nat} (h : EM w g) (hb : Below w.heap.size w w') : EM w' g := h.turn (S := fun _ => False) (Turn.below hb) (fun h => h)
def rH (v : Value) : Option (DataW Value × List MemPlace) := some (.held v, [])
theorem held_inj {a b : Value} (h : (DataW.held a : DataW Value) = .held b) : a = b := by injection h
theorem EM.owns {w : World} {g : Nat} (h : EM w g) (kt : TypeId) : w.ownsMap Tryz.prog kt rH g 0 (.map []) := by
  obtain ⟨es, cl, hb, h2⟩ := World.ownsMap_made w Tryz.prog kt rH
  have e := Option.some.inj (hb.symm.trans (EM.new w))
  injection e with e1 e2
  subst e1 e2
  exact ⟨_, _, h, h2⟩
theorem EM.look {w : World} {g : Nat} {T vt : TypeId} {z : Value} (h : EM w g) (hu : Tryz.prog.underlying T = some (.map 3 vt)) (hz : (zeroValue vt).run Tryz.prog w = .ok z w) {a : Int} (h1 : -9223372036854775808 ≤ a) (h2 : a ≤ 9223372036854775807) :
    (Instr.lookup T (.map (some g)) (.int .i64 a) true).run Tryz.prog w = .ok (.tuple #[z, .bool false]) w := by
  obtain ⟨v, ps, hr, hv⟩ := (h.owns 3).look_ok lawI hu hz (show rH z = some (.held z, []) from rfl) (keyI h1 h2)
  rw [hr]
  simp only [rH, Option.some.injEq, Prod.mk.injEq] at hv
  have hh : Maps.has (.map [] : DataW Value) (.int .i64 a) = false := by simp [Maps.has]
  rw [Maps.atKey_of_not_has hh] at hv
  rw [hh, held_inj hv.1]
end Go.Proofs.YtfdjfhhjfgdbaaaGreatDoor
