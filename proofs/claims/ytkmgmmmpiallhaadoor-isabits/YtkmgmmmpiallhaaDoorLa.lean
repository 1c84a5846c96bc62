import Derived.Test.YtkmgmmmpiallhaaDoorGu
import Derived.Test.YtkmgmmmpiallhaaDoorQk
namespace Go.Proofs.YtkmgmmmpiallhaaDoor
open Go.RowKit
set_option linter.unusedVariables false
set_option linter.unusedSimpArgs false
/-- The state with a box for an instruction. -/
structure QX (W : World) (q : Nat) (L : List Value) (w : World) : Prop where
  bel : Below W.heap.size W w
  box : Bl w q 28 L
  tp : TP w
theorem QX.step {W w w' : World} {q : Nat} {L : List Value} (h : QX W q L w) (hb : Below w.heap.size w w') : QX W q L w' := ⟨Below.step h.bel hb, h.box.below hb, h.tp.below hb⟩
/-- The state alone. -/
structure TX (W w : World) : Prop where
  bel : Below W.heap.size W w
  tp : TP w
theorem TX.first {W : World} (h : TP W) : TX W W := ⟨Below.refl _ _, h⟩
theorem TX.step {W w w' : World} (h : TX W w) (hb : Below w.heap.size w w') : TX W w' := ⟨Below.step h.bel hb, h.tp.below hb⟩
theorem QX.old {W w : World} {q : Nat} {L : List Value} (h : QX W q L w) : TX W w := ⟨h.bel, h.tp⟩
/-- A new box, filled. -/
theorem TX.fill {W w : World} (h : TX W w) (L : List Value) (hl : L.length = 20) : QX W w.heap.size L ((w.alloc (.cells (insL insZ).toArray 28)).setCells w.heap.size 0 L) := by
  have hb := fill_below w 28 (insL insZ) L
  exact ⟨Below.step h.bel hb, fill_box w 28 (insL insZ) L (by rw [hl]; rfl), h.tp.below hb⟩
theorem ins_there (w : World) (L : List Value) (hl : L.length = 20) : (w.alloc (.cells (insL insZ).toArray 28)).there w.heap.size 0 L.toArray.size := new_there w 28 (insL insZ) L.toArray.size (by rw [List.size_toArray, hl]; rfl)
def aliveI : Ins := ⟨14, 14, false, 1, 0, 0, 0, 0, 0, 1, 0, 0, false, false, false, 0, 0, 0, 0, 0⟩
theorem alive_dec : decP 3818913793 = some aliveI := by kernel_rfl
theorem alive_enc : encP aliveI = some 3818913793 := by kernel_rfl
theorem alive_no : decP 4087349249 = none := by kernel_rfl
theorem ok_of {i : Ins} (h : i = aliveI) : IOk i := by
  subst h
  constructor <;> decide
set_option maxRecDepth 100000 in
set_option maxHeartbeats 400000 in
theorem alive_any (w : World) (ht : TP w) : Calls Tryd.prog 9 #[] w fun e w' => e = .returned (.bool true) ∧ Below w.heap.size w w' := by
  have HD : Hid (∀ w', TP w' → Calls Tryd.prog 10 #[.int .u32 3818913793] w' fun e w'' => e = .returned (.tuple #[.agg (insL aliveI).toArray, .bool true]) ∧ Below w'.heap.size w' w'') := fun w' h => by
    have := gdec_any 3818913793 w' h (by decide)
    rw [alive_dec] at this
    exact this
  have HN : Hid (∀ w', TP w' → Calls Tryd.prog 10 #[.int .u32 4087349249] w' fun e w'' => e = .returned (.tuple #[.agg (insL insZ).toArray, .bool false]) ∧ Below w'.heap.size w' w'') := fun w' h => by
    have := gdec_any 4087349249 w' h (by decide)
    rw [alive_no] at this
    exact this
  have HE : Hid (∀ w', TP w' → Calls Tryd.prog 11 #[.agg (insL aliveI).toArray] w' fun e w'' => e = .returned (.tuple #[.int .u32 3818913793, .int .i64 0]) ∧ Below w'.heap.size w' w'') := fun w' h => by
    have := genc_any aliveI w' h (ok_of rfl)
    rw [alive_enc] at this
    exact this
  have HO : Hid ((insL aliveI).toArray.all (·.oneCell') = true) := ins_all aliveI
  have HOZ : Hid ((insL insZ).toArray.all (·.oneCell') = true) := ins_all insZ
  have HS : Hid ((Tryd.prog.info? 28).map (·.size) = some (insL aliveI).toArray.size) := ins_size
  have HL : Hid ((insL aliveI).length = 20) := rfl
  have HC : Hid ((insL aliveI)[0]? = some (.int .i64 14) ∧ (insL aliveI)[1]? = some (.int .i64 14) ∧ (insL aliveI)[9]? = some (.int .u32 1)) := ⟨rfl, rfl, rfl⟩
  have HX := hidW (TX.first ht)
  clear ht
  change Hid (∀ w', TP w' → Calls Tryd.prog 11 #[.agg #[.int .i64 14, .int .i64 14, .bool false, .int .i64 1, .int .i64 0, .int .i64 0, .int .i64 0, .int .i64 0, .int .i64 0, .int .u32 1, .int .i64 0, .int .i64 0, .bool false, .bool false, .bool false, .int .u16 0, .int .i64 0, .int .i64 0, .int .i64 0, .int .i64 0]] w' fun e w'' => e = .returned (.tuple #[.int .u32 3818913793, .int .i64 0]) ∧ Below w'.heap.size w' w'') at HE
  generalize insL aliveI = IL at *
  go_enter Tryd.func9, Tryd.ntmps9
  go_wp2_with (first | (go_at_call 10; refine (HD.out _ HX.out.tp).mono ?_; rintro e w1 ⟨rfl, hb⟩; have HX := hidW (HX.out.step hb); clear hb HD) | (guard_target =~ wpList _ _ _ (Oper.mk none (Op.store 28 (Operand.tmp 1) _) _ _ _ _ :: _) _ _; have HT := ins_there w1 IL HL.out; refine wpList_store_mid rfl _ _ _ rfl w1.heap.size 0 IL.toArray rfl rfl HT HS.out HO.out ?_; clear HT; generalize hW : World.setCells _ _ _ _ = w2; have HQ := hidW (show QX w w1.heap.size IL w2 from hW ▸ HX.out.fill IL HL.out); clear hW HX) | (go_at_call 11; refine (HE.out _ HQ.out.tp).mono ?_; rintro e w3 ⟨rfl, hb⟩; have HQ := hidW (HQ.out.step hb); clear hb HE) | (go_at_call 10; refine (HN.out _ HQ.out.tp).mono ?_; rintro e w4 ⟨rfl, hb⟩; have HQ := hidW (HQ.out.step hb); clear hb HN) | (guard_target =~ wpList _ _ _ (Oper.mk none (Op.store 28 (Operand.tmp 5) _) _ _ _ _ :: _) _ _; have HT := ins_there w4 (insL insZ) rfl; refine wpList_store_mid rfl _ _ _ rfl w4.heap.size 0 (insL insZ).toArray rfl rfl HT ins_size HOZ.out ?_; clear HT; generalize hW : World.setCells _ _ _ _ = w5; have HQ := hidW (show QX w w1.heap.size IL w5 from hW ▸ HQ.out.step (fill_below w4 28 (insL insZ) (insL insZ))); clear hW; have c0 := HQ.out.box.cell 0; have c1 := HQ.out.box.cell 1; have c9 := HQ.out.box.cell 9; rw [HC.out.1] at c0; rw [HC.out.2.1] at c1; rw [HC.out.2.2] at c9))
  exact bodyPost_ret (v := .bool true) (by simp [results, Tryd.results9, go_sem, Act.put]) rfl ⟨rfl, HQ.out.bel⟩
end Go.Proofs.YtkmgmmmpiallhaaDoor
