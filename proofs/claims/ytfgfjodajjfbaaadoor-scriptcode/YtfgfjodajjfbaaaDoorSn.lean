import Derived.Test.YtfgfjodajjfbaaaDoorSa
import Derived.Test.YtfgfjodajjfbaaaDoorFiA
namespace Go.Proofs.YtfgfjodajjfbaaaDoor
open Go.RowKit
set_option linter.unusedVariables false
def zA : Array Value := (zC 0).cells.toArray
set_option maxRecDepth 100000 in
theorem zero_cmd (w : World) : (zeroValue 39).run Tryd.prog w = .ok (.agg zA) w := by kernel_rfl
def errV (r : Res) : Value := if r.e = 0 then .nilIface else .iface 51 (.agg #[.int .i64 r.e, .int .i64 r.at_])
theorem cmd_info : (Tryd.prog.info? 39).map (·.size) = some 32 := by kernel_rfl
theorem cells_len (c : Cmd) : c.cells.length = 32 := rfl
theorem cells_one (c : Cmd) : ∀ v ∈ c.cells, v.oneCell' = true := by
  intro v hv
  simp only [Cmd.cells, List.mem_cons, List.not_mem_nil, or_false] at hv
  rcases hv with rfl | rfl | rfl | rfl | rfl | rfl | rfl | rfl | rfl | rfl | rfl | rfl | rfl | rfl | rfl | rfl | rfl | rfl | rfl | rfl | rfl | rfl | rfl | rfl | rfl | rfl | rfl | rfl | rfl | rfl | rfl | rfl
  all_goals rfl
theorem cells_all (c : Cmd) : c.cells.toArray.all (·.oneCell') = true := all_oneCell_toArray (cells_one c)
theorem Bl.there {w : World} {b : Nat} {T : TypeId} {l : List Value} (h : Bl w b T l) (n : Nat) (hn : n = l.length) : w.there b 0 n := by
  subst hn
  intro j hj
  rw [Nat.zero_add]
  exact ⟨by rw [h.cell j, List.getElem?_eq_getElem hj]; rfl, h.frozen j⟩
theorem setCells_bl {T : TypeId} {b : Nat} : ∀ (new : List Value) (o : Nat) (w : World) (l : List Value), Bl w b T l → o + new.length ≤ l.length → Bl (w.setCells b o new) b T (l.take o ++ new ++ l.drop (o + new.length))
  | [], o, w, l, h, hl => by
    rw [World.setCells]
    simpa using h
  | v :: vs, o, w, l, h, hl => by
    rw [World.setCells]
    simp only [List.length_cons] at hl
    have := setCells_bl vs (o + 1) (w.setCell ⟨b, o, none⟩ v) (l.set o v) (h.set o v) (by simp; omega)
    have e : (l.set o v).take (o + 1) ++ vs ++ (l.set o v).drop (o + 1 + vs.length) = l.take o ++ v :: vs ++ l.drop (o + (v :: vs).length) := by
      rw [List.drop_set_of_lt (by omega), List.take_set, List.take_succ_eq_append_getElem (by omega)]
      rw [List.set_append_right _ _ (by simp; omega)]
      have : o - (List.take o l).length = 0 := by simp; omega
      rw [this]
      simp
      congr 1
      omega
    rw [e] at this
    exact this
theorem set_all {w : World} {b : Nat} {T : TypeId} {l new : List Value} (h : Bl w b T l) (hl : new.length = l.length) : Bl (w.setCells b 0 new) b T new := by
  have := setCells_bl new 0 w l h (by omega)
  simpa [hl] using this
theorem set_turn {b : Nat} : ∀ (new : List Value) (o : Nat) (w0 w : World), TA b w0 w → TA b w0 (w.setCells b o new)
  | [], o, w0, w, h => by rw [World.setCells]; exact h
  | v :: vs, o, w0, w, h => by rw [World.setCells]; exact set_turn vs (o + 1) w0 _ (h.set o v)
theorem load_cmd {w : World} {b : Nat} {c : Cmd} (h : Bl w b 39 c.cells) : (loadVar 39 ⟨b, 0, none⟩).run Tryd.prog w = .ok c.val w :=
  run_loadVar_mid w b 0 39 c.cells _ h.range Tryd.underlying39 rfl cmd_info
end Go.Proofs.YtfgfjodajjfbaaaDoor
