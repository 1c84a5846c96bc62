import Derived.Test.YtfgfjodajjfbaaaDoorEe
import Derived.Test.YtfgfjodajjfbaaaDoorSo
namespace Go.Proofs.YtfgfjodajjfbaaaDoor
open Go.RowKit
set_option linter.unusedVariables false
def flyW : ByteArray := ⟨#[102, 108, 121]⟩
theorem fly_fields : fieldsB (ahead flyW) = [flyW] := by decide +kernel
theorem fly_kind : kindN flyW = 0 := by decide +kernel
/-- The error of errors' table. -/
def ET (w : World) : Prop := w.cell? ⟨1, 0, none⟩ = some (.iface 94 (.agg #[.pointer (some ⟨9, 26, none⟩)]))
theorem ET.below {w w' : World} (h : ET w) (hb : Below w.heap.size w w') : ET w' := cell_keep h hb
set_option maxRecDepth 100000 in
set_option maxHeartbeats 4000000 in
/-- atlaslaw15.ScriptCode. -/
theorem law_code (s : ByteArray) (w : World) (hn : NM w) (he : ET w) : Calls Tryd.prog 3 #[.string s] w fun e w' => e = .returned (.bool true) ∧ Below w.heap.size w w' := by
  have HN : Hid (NM w) := hn
  have HE : Hid (ET w) := he
  have HP : Hid (∀ W, NM W → Calls Tryd.prog 9 #[.string flyW] W fun e w' => e = .returned (.tuple #[.agg zA, .iface 51 (.agg #[.int .i64 151, .int .i64 0])]) ∧ Below W.heap.size W w') := fun W h => parse_verb flyW flyW [] W h (by decide) fly_fields fly_kind
  have hz := zero_cmd
  have HZ : Hid _ := zf
  clear hn he
  generalize zA = z at *
  unfold flyW at HP
  go_enter Tryd.func3, Tryd.ntmps3
  go_wp2_with fail
  refine (code_nil _).mono ?_
  rintro e w1 ⟨rfl, rfl⟩
  go_wp2_with fail
  refine (new_any s _).mono ?_
  rintro e w2 ⟨rfl, b2⟩
  go_wp2_with fail
  refine (code_es _ _ (ET.below HE.out b2)).mono ?_
  rintro e w3 ⟨rfl, b3⟩
  have HB3 : Hid (Below w1.heap.size w1 w3) := Below.step b2 b3
  clear b2 b3
  go_wp2_with fail
  refine (HP.out _ (NM.below HN.out HB3.out)).mono ?_
  rintro e w4 ⟨rfl, b4⟩
  have HB4 : Hid (Below w1.heap.size w1 w4) := Below.step HB3.out b4
  clear b4
  go_wp2_with (first | (guard_target =~ wpList _ _ _ (Oper.mk none _ _ _ _ _ :: _) _ _; refine wpList_store_mid rfl _ _ _ rfl w4.heap.size 0 z rfl rfl (HZ.out.there _ _ (HZ.out.box w4)) HZ.out.info HZ.out.all ?_; have HB5 : Hid (Below w1.heap.size w1 ((w4.alloc (.cells z 39)).setCells w4.heap.size 0 z.toList)) := Below.step HB4.out (below_set (below_new _ _) 0 _); generalize (w4.alloc (.cells z 39)).setCells w4.heap.size 0 z.toList = w5 at HB5 ⊢) | (go_at_call 7; refine (code_any 151 0 _ (ET.below HE.out HB5.out)).mono ?_; rintro e w6 ⟨rfl, b6⟩))
  go_ret
  exact ⟨rfl, Below.step HB5.out b6⟩
end Go.Proofs.YtfgfjodajjfbaaaDoor
