import Derived.Test.YtfdjfhhjfgdbaaaGreatDoorMo
import Derived.Deep.CutRange
import Derived.Deep.RegionHeld3
namespace Go.Proofs.YtfdjfhhjfgdbaaaGreatDoor
open Go.RowKit
set_option linter.unusedVariables false
set_option linter.unusedSimpArgs false
attribute [local go_sem] Oper.semAt_some
/-- What was told lies in a box of its own. -/
structure Got1 (wr wx : World) (s : Nat) (T : TypeId) (l : List Value) : Prop where
  bel : Below wr.heap.size wr wx
  B : Bl wx s T l
  hs : wr.heap.size ≤ s
theorem gb1 {wr w1 : World} (h : Below wr.heap.size wr w1) (T : TypeId) (l : List Value) : Got1 wr (w1.alloc (.cells l.toArray T)) w1.heap.size T l := ⟨Below.step h (below_new _ _), Bl.new _ _ _, h.size⟩
theorem blZ {w1 : World} {g : Nat} (h : Bl w1 g 63 [.bool false, .bool false, .bool false, .int .i64 0, .bool false, .bool false, .int .u64 0, .int .u64 0, .int .u32 0, .int .u32 0, .int .u32 0, .int .i64 0]) : Bl ((((((((((((w1.setCell ⟨g, 0, none⟩ (.bool false)).setCell ⟨g, 1, none⟩ (.bool false)).setCell ⟨g, 2, none⟩ (.bool false)).setCell ⟨g, 3, none⟩ (.int .i64 0)).setCell ⟨g, 4, none⟩ (.bool false)).setCell ⟨g, 5, none⟩ (.bool false)).setCell ⟨g, 6, none⟩ (.int .u64 0)).setCell ⟨g, 7, none⟩ (.int .u64 0)).setCell ⟨g, 8, none⟩ (.int .u32 0)).setCell ⟨g, 9, none⟩ (.int .u32 0)).setCell ⟨g, 10, none⟩ (.int .u32 0)).setCell ⟨g, 11, none⟩ (.int .i64 0)) g 63 [.bool false, .bool false, .bool false, .int .i64 0, .bool false, .bool false, .int .u64 0, .int .u64 0, .int .u32 0, .int .u32 0, .int .u32 0, .int .i64 0] := by
  have := (((((((((((h.set 0 (.bool false)).set 1 (.bool false)).set 2 (.bool false)).set 3 (.int .i64 0)).set 4 (.bool false)).set 5 (.bool false)).set 6 (.int .u64 0)).set 7 (.int .u64 0)).set 8 (.int .u32 0)).set 9 (.int .u32 0)).set 10 (.int .u32 0)).set 11 (.int .i64 0)
  exact this
theorem gbZ {wr w1 : World} (h : Below wr.heap.size wr w1) (g : Nat) (hg : wr.heap.size ≤ g) (hB : Bl w1 g 63 [.bool false, .bool false, .bool false, .int .i64 0, .bool false, .bool false, .int .u64 0, .int .u64 0, .int .u32 0, .int .u32 0, .int .u32 0, .int .i64 0]) : Got1 wr ((((((((((((w1.setCell ⟨g, 0, none⟩ (.bool false)).setCell ⟨g, 1, none⟩ (.bool false)).setCell ⟨g, 2, none⟩ (.bool false)).setCell ⟨g, 3, none⟩ (.int .i64 0)).setCell ⟨g, 4, none⟩ (.bool false)).setCell ⟨g, 5, none⟩ (.bool false)).setCell ⟨g, 6, none⟩ (.int .u64 0)).setCell ⟨g, 7, none⟩ (.int .u64 0)).setCell ⟨g, 8, none⟩ (.int .u32 0)).setCell ⟨g, 9, none⟩ (.int .u32 0)).setCell ⟨g, 10, none⟩ (.int .u32 0)).setCell ⟨g, 11, none⟩ (.int .i64 0)) g 63 [.bool false, .bool false, .bool false, .int .i64 0, .bool false, .bool false, .int .u64 0, .int .u64 0, .int .u32 0, .int .u32 0, .int .u32 0, .int .i64 0] :=
  ⟨Below.setCell (Below.setCell (Below.setCell (Below.setCell (Below.setCell (Below.setCell (Below.setCell (Below.setCell (Below.setCell (Below.setCell (Below.setCell (Below.setCell h hg _) hg _) hg _) hg _) hg _) hg _) hg _) hg _) hg _) hg _) hg _) hg _, blZ hB, hg⟩
theorem wp_of {C : Code} {P : Program} {Q : Exit → Act → World → Prop} {a : Act} {w : World} {Rel : World → Prop} (h : Rel w) (k : ∀ ww, Rel ww → C.wp P Q a ww) : C.wp P Q a w := k w h
theorem eqC0 (w : World) : (Op.equalIn 10000 63 (.agg #[.bool false, .bool false, .bool false, .int .i64 0, .bool false, .bool false, .int .u64 0, .int .u64 0, .int .u32 0, .int .u32 0, .int .u32 0, .int .i64 0]) (.agg #[.bool false, .bool false, .bool false, .int .i64 0, .bool false, .bool false, .int .u64 0, .int .u64 0, .int .u32 0, .int .u32 0, .int .u32 0, .int .i64 0])).run Tryz.prog w = .ok true w := by kernel_rfl
set_option maxRecDepth 100000 in
set_option maxHeartbeats 16000000 in
theorem looks_9 (W : World) (P : Pl) (n : Int) (X : Hi) (h : MS W P n X) (a : Int) (h1 : -9223372036854775808 ≤ a) (h2 : a ≤ 9223372036854775807) :
    Calls Tryz.prog 5 #[.pointer (some ⟨P.m, 0, none⟩), .pointer (some ⟨P.r, 0, none⟩), .agg #[.int .i64 9, .int .i64 a, .int .i64 0, .int .i64 0, .int .i64 0, .int .u32 0, .int .i64 0, .int .u32 0, .bool false, .int .u64 0, .int .u32 0, .int .i64 0, .int .i64 0, .int .i64 0, .int .i64 0, .bool false, .slice none 0 0]] W fun e w' => e = .returned (.bool true) ∧ Below W.heap.size W w' := by
  have hb0 := below_new W (.cells #[.int .i64 9, .int .i64 a, .int .i64 0, .int .i64 0, .int .i64 0, .int .u32 0, .int .i64 0, .int .u32 0, .bool false, .int .u64 0, .int .u32 0, .int .i64 0, .int .i64 0, .int .i64 0, .int .i64 0, .bool false, .slice none 0 0] 37)
  have hx : Bl (W.alloc (.cells #[.int .i64 9, .int .i64 a, .int .i64 0, .int .i64 0, .int .i64 0, .int .u32 0, .int .i64 0, .int .u32 0, .bool false, .int .u64 0, .int .u32 0, .int .i64 0, .int .i64 0, .int .i64 0, .int .i64 0, .bool false, .slice none 0 0] 37)) W.heap.size 37 [.int .i64 9, .int .i64 a, .int .i64 0, .int .i64 0, .int .i64 0, .int .u32 0, .int .i64 0, .int .u32 0, .bool false, .int .u64 0, .int .u32 0, .int .i64 0, .int .i64 0, .int .i64 0, .int .i64 0, .bool false, .slice none 0 0] := Bl.new _ _ _
  have HM : Hid (∀ ww, Below (W.alloc (.cells #[.int .i64 9, .int .i64 a, .int .i64 0, .int .i64 0, .int .i64 0, .int .u32 0, .int .i64 0, .int .u32 0, .bool false, .int .u64 0, .int .u32 0, .int .i64 0, .int .i64 0, .int .i64 0, .int .i64 0, .bool false, .slice none 0 0] 37)).heap.size (W.alloc (.cells #[.int .i64 9, .int .i64 a, .int .i64 0, .int .i64 0, .int .i64 0, .int .u32 0, .int .i64 0, .int .u32 0, .bool false, .int .u64 0, .int .u32 0, .int .i64 0, .int .i64 0, .int .i64 0, .int .i64 0, .bool false, .slice none 0 0] 37)) ww → MS ww P n X) := fun ww hb => (h.below hb0).below hb
  have HC : Hid (∀ ww, Below (W.alloc (.cells #[.int .i64 9, .int .i64 a, .int .i64 0, .int .i64 0, .int .i64 0, .int .u32 0, .int .i64 0, .int .u32 0, .bool false, .int .u64 0, .int .u32 0, .int .i64 0, .int .i64 0, .int .i64 0, .int .i64 0, .bool false, .slice none 0 0] 37)).heap.size (W.alloc (.cells #[.int .i64 9, .int .i64 a, .int .i64 0, .int .i64 0, .int .i64 0, .int .u32 0, .int .i64 0, .int .u32 0, .bool false, .int .u64 0, .int .u32 0, .int .i64 0, .int .i64 0, .int .i64 0, .int .i64 0, .bool false, .slice none 0 0] 37)) ww → ww.cell? ⟨W.heap.size, 1, none⟩ = some (.int .i64 a) ∧ ww.cell? ⟨W.heap.size, 5, none⟩ = some (.int .u32 0) ∧ ww.cell? ⟨P.r, 3, none⟩ = some (.pointer (some ⟨P.rk, 0, none⟩)) ∧ ww.cell? ⟨P.r, 0, none⟩ = some (.pointer (some ⟨P.rr, 0, none⟩))) := fun ww hb => ⟨(hx.below hb).cell 1, (hx.below hb).cell 5, (HM.out ww hb).r3, (HM.out ww hb).r0⟩
  have hk0 : (W.alloc (.cells #[.int .i64 9, .int .i64 a, .int .i64 0, .int .i64 0, .int .i64 0, .int .u32 0, .int .i64 0, .int .u32 0, .bool false, .int .u64 0, .int .u32 0, .int .i64 0, .int .i64 0, .int .i64 0, .int .i64 0, .bool false, .slice none 0 0] 37)).cell? ⟨W.heap.size, 0, none⟩ = some (.int .i64 9) := hx.cell 0
  have hk1 : (W.alloc (.cells #[.int .i64 9, .int .i64 a, .int .i64 0, .int .i64 0, .int .i64 0, .int .u32 0, .int .i64 0, .int .u32 0, .bool false, .int .u64 0, .int .u32 0, .int .i64 0, .int .i64 0, .int .i64 0, .int .i64 0, .bool false, .slice none 0 0] 37)).cell? ⟨W.heap.size, 1, none⟩ = some (.int .i64 a) := hx.cell 1
  have HB0 := hidW hb0
  clear hx hb0 h
  go_enter Tryz.func5, Tryz.ntmps5
  go_wp2_with fail
  generalize W.alloc (.cells #[.int .i64 9, .int .i64 a, .int .i64 0, .int .i64 0, .int .i64 0, .int .u32 0, .int .i64 0, .int .u32 0, .bool false, .int .u64 0, .int .u32 0, .int .i64 0, .int .i64 0, .int .i64 0, .int .i64 0, .bool false, .slice none 0 0] 37) = w0 at *
  go_at_call 19
  refine (gjudge_any (HM.out _ (Below.refl _ _)) a h1 h2).mono ?_
  rintro e w1 ⟨rfl, g1⟩
  have HG1 := hidW g1
  clear g1 hk0 hk1
  go_wp2_with fail
  refine wp_of (Rel := fun ww => Got1 w1 ww w1.heap.size 63 [.bool false, .bool false, .bool false, .int .i64 0, .bool false, .bool false, .int .u64 0, .int .u64 0, .int .u32 0, .int .u32 0, .int .u32 0, .int .i64 0]) (gb1 (Below.refl _ w1) 63 [.bool false, .bool false, .bool false, .int .i64 0, .bool false, .bool false, .int .u64 0, .int .u64 0, .int .u32 0, .int .u32 0, .int .u32 0, .int .i64 0]) (fun w2 hg => ?_)
  have HX2 := hidW hg.B
  have HBz := hidW (Below.step HG1.out hg.bel)
  clear hg HG1
  have HY : Hid (∀ ww, Below w2.heap.size w2 ww → Calls Tryz.prog 20 #[.pointer (some ⟨P.rk, 0, none⟩), .int .i64 a] ww fun e w' => e = .returned (.tuple #[.agg #[.bool false, .bool false, .bool false, .int .i64 0, .bool false, .bool false, .int .u64 0, .int .u64 0, .int .u32 0, .int .u32 0, .int .u32 0, .int .i64 0], .bool false]) ∧ Below ww.heap.size ww w') := fun ww hb => yjudge_any ww P.rk (HM.out _ (Below.step HBz.out hb)).rtk a
  have hS2 : ∀ ww, Below w2.heap.size w2 ww → ww.cell? ⟨W.heap.size, 1, none⟩ = some (.int .i64 a) ∧ ww.cell? ⟨W.heap.size, 5, none⟩ = some (.int .u32 0) ∧ ww.cell? ⟨P.r, 3, none⟩ = some (.pointer (some ⟨P.rk, 0, none⟩)) ∧ ww.cell? ⟨P.r, 0, none⟩ = some (.pointer (some ⟨P.rr, 0, none⟩)) := fun ww hb => HC.out ww (Below.step HBz.out hb)
  have HB1 := hidW (Below.refl w2.heap.size w2)
  have hs1 := HB1.out.size
  go_cut [15, 16] from 118 to 127 (fun s1 s2 wx => ∃ b1, s1 = .pointer (some ⟨b1, 0, none⟩) ∧ s2 = .bool false ∧ Hid (Got1 w2 wx b1 63 [.bool false, .bool false, .bool false, .int .i64 0, .bool false, .bool false, .int .u64 0, .int .u64 0, .int .u32 0, .int .u32 0, .int .u32 0, .int .i64 0]))
  case first =>
    go_region_held3 (fun w' => w'.cell? ⟨W.heap.size, 1, none⟩ = some (.int .i64 a) ∧ w'.cell? ⟨W.heap.size, 5, none⟩ = some (.int .u32 0) ∧ w'.cell? ⟨P.r, 3, none⟩ = some (.pointer (some ⟨P.rk, 0, none⟩)) ∧ w'.cell? ⟨P.r, 0, none⟩ = some (.pointer (some ⟨P.rr, 0, none⟩))) (exact hS2 _ (by ((repeat (first | (with_reducible refine Below.setCell ?_ (by first | exact Nat.le_refl _ | (dsimp only; omega)) _) | (with_reducible refine Below.alloc ?_ (by first | omega | (simp; omega) | simp) _) | (with_reducible refine below_drew ?_))); (first | (with_reducible exact HB1.out) | (with_reducible exact Below.refl _ _))))) (first | (go_at_call 20; refine (HY.out _ (by ((repeat (first | (with_reducible refine Below.setCell ?_ (by first | exact Nat.le_refl _ | (dsimp only; omega)) _) | (with_reducible refine Below.alloc ?_ (by first | omega | (simp; omega) | simp) _) | (with_reducible refine below_drew ?_))); (first | (with_reducible exact HB1.out) | (with_reducible exact Below.refl _ _))))).mono ?_; rintro e w9 ⟨rfl, hb⟩; (try (have hA : Bl w9 (w2.heap.size) 63 [.bool false, .bool false, .bool false, .int .i64 0, .bool false, .bool false, .int .u64 0, .int .u64 0, .int .u32 0, .int .u32 0, .int .u32 0, .int .i64 0] := (by first | (with_reducible exact Bl.below ((Bl.new w2 63 [.bool false, .bool false, .bool false, .int .i64 0, .bool false, .bool false, .int .u64 0, .int .u64 0, .int .u32 0, .int .u32 0, .int .u32 0, .int .i64 0]).drew) hb) | (with_reducible exact Bl.below (Bl.new w2 63 [.bool false, .bool false, .bool false, .int .i64 0, .bool false, .bool false, .int .u64 0, .int .u64 0, .int .u32 0, .int .u32 0, .int .u32 0, .int .i64 0]) hb)); have cA := hA.cell; have gA := hA.frozen; have lA := hA.lt)); have HB2 : Hid (Below w2.heap.size w2 w9) := Below.step (by ((repeat (first | (with_reducible refine Below.setCell ?_ (by first | exact Nat.le_refl _ | (dsimp only; omega)) _) | (with_reducible refine Below.alloc ?_ (by first | omega | (simp; omega) | simp) _) | (with_reducible refine below_drew ?_))); (first | (with_reducible exact HB1.out) | (with_reducible exact Below.refl _ _)))) hb; have HB1 := HB2; have hs1 := HB1.out.size; clear hb))
    all_goals
      go_wp2_with fail
      go_meet
      first
        | (with_reducible exact ⟨_, rfl, rfl, hidW (gb1 HB1.out _ _)⟩)
        | (with_reducible exact ⟨_, rfl, rfl, hidW (gbZ HB1.out _ (Nat.le_refl _) hA)⟩)
  case rest =>
    obtain ⟨b1, rfl, rfl, HGt⟩ := hcut
    have HBc := hidW (Below.step HBz.out HGt.out.bel)
    have HX3 := hidW (HX2.out.below HGt.out.bel)
    have HX4 := hidW HGt.out.B
    clear hS2 HY HGt HB1 hs1 HX2
    go_wp2_with fail
    have HBx := hidW (below_drew HBc.out)
    have HJ := hidW (HC.out _ HBx.out)
    have HD := hidW (below_drew (Below.refl wc.heap.size wc))
    refine wp_region_held_drew (S := fun ww => ww.cell? ⟨W.heap.size, 1, none⟩ = some (.int .i64 a) ∧ ww.cell? ⟨W.heap.size, 5, none⟩ = some (.int .u32 0) ∧ ww.cell? ⟨P.r, 3, none⟩ = some (.pointer (some ⟨P.rk, 0, none⟩)) ∧ ww.cell? ⟨P.r, 0, none⟩ = some (.pointer (some ⟨P.rr, 0, none⟩))) (by kernel_rfl) ?_ (fun hHeld => ?_)
    · exact HJ.out
    refine wpAnyH_take (i := 0) (oi := { dst := some 128, op := Op.move (Operand.tmp 1), type := 25, pos := _, after := #[], guard := none }) (v := ?_) rfl (by kernel_rfl) (by kernel_rfl) (by kernel_rfl) (fun _ _ _ h => h) (Or.inl ⟨by rfl, ?_⟩) (by assumption) ?_
    rotate_left
    · (intro w hSw; (try dsimp only at hSw); go_simp; try with_reducible rfl)
    simp only [Act.put, List.setIfInBounds_toArray, List.set_cons_zero, List.set_cons_succ]
    refine wpAnyH_take (i := 1) (oi := { dst := some 129, op := Op.nilCheck (Operand.tmp 128), type := 0, pos := _, after := #[{ on := 0, ground := Ground.data }], guard := none }) (v := ?_) rfl (by kernel_rfl) (by kernel_rfl) (by kernel_rfl) (fun _ _ _ h => h) (Or.inl ⟨by rfl, ?_⟩) (by assumption) ?_
    rotate_left
    · (intro w hSw; (try dsimp only at hSw); go_simp; try with_reducible rfl)
    simp only [Act.put, List.setIfInBounds_toArray, List.set_cons_zero, List.set_cons_succ]
    refine wpAnyH_take (i := 2) (oi := { dst := some 130, op := Op.fieldAddr 54 (Operand.tmp 129) 3, type := 0, pos := _, after := #[{ on := 1, ground := Ground.data }], guard := none }) (v := ?_) rfl (by kernel_rfl) (by kernel_rfl) (by kernel_rfl) (fun _ _ _ h => h) (Or.inl ⟨by rfl, ?_⟩) (by assumption) ?_
    rotate_left
    · (intro w hSw; (try dsimp only at hSw); go_simp; try with_reducible rfl)
    simp only [Act.put, List.setIfInBounds_toArray, List.set_cons_zero, List.set_cons_succ]
    refine wpAnyH_take (i := 3) (oi := { dst := some 131, op := Op.load 49 (Operand.tmp 130), type := 49, pos := _, after := #[{ on := 2, ground := Ground.data }], guard := none }) (v := ?_) rfl (by kernel_rfl) (by kernel_rfl) (by kernel_rfl) (fun _ _ _ h => h) (Or.inl ⟨by rfl, ?_⟩) (by assumption) ?_
    rotate_left
    · (intro w hSw; (try dsimp only at hSw); go_simp; try with_reducible rfl)
    simp only [Act.put, List.setIfInBounds_toArray, List.set_cons_zero, List.set_cons_succ]
    refine wpAnyH_take (i := 4) (oi := { dst := some 132, op := Op.move (Operand.tmp 1), type := 25, pos := _, after := #[], guard := none }) (v := ?_) rfl (by kernel_rfl) (by kernel_rfl) (by kernel_rfl) (fun _ _ _ h => h) (Or.inl ⟨by rfl, ?_⟩) (by assumption) ?_
    rotate_left
    · (intro w hSw; (try dsimp only at hSw); go_simp; try with_reducible rfl)
    simp only [Act.put, List.setIfInBounds_toArray, List.set_cons_zero, List.set_cons_succ]
    refine wpAnyH_take (i := 5) (oi := { dst := some 133, op := Op.nilCheck (Operand.tmp 132), type := 0, pos := _, after := #[{ on := 4, ground := Ground.data }], guard := none }) (v := ?_) rfl (by kernel_rfl) (by kernel_rfl) (by kernel_rfl) (fun _ _ _ h => h) (Or.inl ⟨by rfl, ?_⟩) (by assumption) ?_
    rotate_left
    · (intro w hSw; (try dsimp only at hSw); go_simp; try with_reducible rfl)
    simp only [Act.put, List.setIfInBounds_toArray, List.set_cons_zero, List.set_cons_succ]
    refine wpAnyH_take (i := 6) (oi := { dst := some 134, op := Op.fieldAddr 54 (Operand.tmp 133) 0, type := 0, pos := _, after := #[{ on := 5, ground := Ground.data }], guard := none }) (v := ?_) rfl (by kernel_rfl) (by kernel_rfl) (by kernel_rfl) (fun _ _ _ h => h) (Or.inl ⟨by rfl, ?_⟩) (by assumption) ?_
    rotate_left
    · (intro w hSw; (try dsimp only at hSw); go_simp; try with_reducible rfl)
    simp only [Act.put, List.setIfInBounds_toArray, List.set_cons_zero, List.set_cons_succ]
    refine wpAnyH_take (i := 7) (oi := { dst := some 135, op := Op.load 46 (Operand.tmp 134), type := 46, pos := _, after := #[{ on := 6, ground := Ground.data }], guard := none }) (v := ?_) rfl (by kernel_rfl) (by kernel_rfl) (by kernel_rfl) (fun _ _ _ h => h) (Or.inl ⟨by rfl, ?_⟩) (by assumption) ?_
    rotate_left
    · (intro w hSw; (try dsimp only at hSw); go_simp; try with_reducible rfl)
    simp only [Act.put, List.setIfInBounds_toArray, List.set_cons_zero, List.set_cons_succ]
    refine wpAnyH_take (i := 8) (oi := { dst := some 136, op := Op.fieldAddr 37 (Operand.tmp 5) 1, type := 0, pos := _, after := #[], guard := none }) (v := ?_) rfl (by kernel_rfl) (by kernel_rfl) (by kernel_rfl) (fun _ _ _ h => h) (Or.inl ⟨by rfl, ?_⟩) (by assumption) ?_
    rotate_left
    · (intro w hSw; (try dsimp only at hSw); go_simp; try with_reducible rfl)
    simp only [Act.put, List.setIfInBounds_toArray, List.set_cons_zero, List.set_cons_succ]
    refine wpAnyH_take (i := 9) (oi := { dst := some 137, op := Op.load 3 (Operand.tmp 136), type := 3, pos := _, after := #[{ on := 8, ground := Ground.data }], guard := none }) (v := ?_) rfl (by kernel_rfl) (by kernel_rfl) (by kernel_rfl) (fun _ _ _ h => h) (Or.inl ⟨by rfl, ?_⟩) (by assumption) ?_
    rotate_left
    · (intro w hSw; (try dsimp only at hSw); go_simp; try with_reducible rfl)
    simp only [Act.put, List.setIfInBounds_toArray, List.set_cons_zero, List.set_cons_succ]
    refine wpAnyH_take (i := 10) (oi := { dst := some 138, op := Op.fieldAddr 37 (Operand.tmp 5) 4, type := 0, pos := _, after := #[], guard := none }) (v := ?_) rfl (by kernel_rfl) (by kernel_rfl) (by kernel_rfl) (fun _ _ _ h => h) (Or.inl ⟨by rfl, ?_⟩) (by assumption) ?_
    rotate_left
    · (intro w hSw; (try dsimp only at hSw); go_simp; try with_reducible rfl)
    simp only [Act.put, List.setIfInBounds_toArray, List.set_cons_zero, List.set_cons_succ]
    refine wpAnyH_take (i := 11) (oi := { dst := some 139, op := Op.fieldAddr 31 (Operand.tmp 138) 1, type := 0, pos := _, after := #[{ on := 10, ground := Ground.data }], guard := none }) (v := ?_) rfl (by kernel_rfl) (by kernel_rfl) (by kernel_rfl) (fun _ _ _ h => h) (Or.inl ⟨by rfl, ?_⟩) (by assumption) ?_
    rotate_left
    · (intro w hSw; (try dsimp only at hSw); go_simp; try with_reducible rfl)
    simp only [Act.put, List.setIfInBounds_toArray, List.set_cons_zero, List.set_cons_succ]
    refine wpAnyH_take (i := 12) (oi := { dst := some 140, op := Op.load 29 (Operand.tmp 139), type := 29, pos := _, after := #[{ on := 11, ground := Ground.data }], guard := none }) (v := ?_) rfl (by kernel_rfl) (by kernel_rfl) (by kernel_rfl) (fun _ _ _ h => h) (Or.inl ⟨by rfl, ?_⟩) (by assumption) ?_
    rotate_left
    · (intro w hSw; (try dsimp only at hSw); go_simp; try with_reducible rfl)
    simp only [Act.put, List.setIfInBounds_toArray, List.set_cons_zero, List.set_cons_succ]
    refine wpAnyH_ready (rs := [13]) (by kernel_rfl) (by simp) ?_
    refine AllReadyH.cons (o := { dst := some 141, op := Op.call { callee := Callee.value (Operand.func 21), args := #[Operand.tmp 131, Operand.tmp 135, Operand.tmp 137, Operand.tmp 140], argTypes := #[49, 46, 3, 29] }, type := 4, pos := _, after := #[{ on := 3, ground := Ground.data }, { on := 7, ground := Ground.data }, { on := 9, ground := Ground.data }, { on := 12, ground := Ground.data }], guard := none }) rfl (fun K hK => ?_) AllReadyH.nil
    go_simp
    (go_at_call 21; refine (ystale_any _ P.rk (HM.out _ HBx.out).rtk _ a 0).mono ?_; rintro e w3 ⟨rfl, g3⟩; replace HBx := hidW (Below.step HBx.out g3); replace HD := hidW (Below.step HD.out g3); have HJ := hidW (HC.out _ HBx.out); clear g3)
    refine hK.out _ _ ?_ (fun hHeld => ?_)
    · ((try dsimp only); with_reducible exact HJ.out)
    clear hK K
    try simp only [Act.put, List.setIfInBounds_toArray, List.set_cons_zero, List.set_cons_succ]
    refine wpAnyH_take (i := 14) (oi := { dst := some 17, op := Op.assign (Operand.tmp 141), type := 4, pos := _, after := #[{ on := 13, ground := Ground.data }, { on := 13, ground := Ground.chain }, { on := 0, ground := Ground.phase }, { on := 1, ground := Ground.phase }, { on := 2, ground := Ground.phase }, { on := 3, ground := Ground.phase }, { on := 4, ground := Ground.phase }, { on := 5, ground := Ground.phase }, { on := 6, ground := Ground.phase }, { on := 7, ground := Ground.phase }, { on := 8, ground := Ground.phase }, { on := 9, ground := Ground.phase }, { on := 10, ground := Ground.phase }, { on := 11, ground := Ground.phase }, { on := 12, ground := Ground.phase }, { on := 13, ground := Ground.phase }], guard := none }) (v := ?_) rfl (by kernel_rfl) (by kernel_rfl) (by kernel_rfl) (fun _ _ _ h => h) (Or.inl ⟨by rfl, ?_⟩) (by assumption) ?_
    rotate_left
    · (intro w hSw; (try dsimp only at hSw); go_simp; try with_reducible rfl)
    simp only [Act.put, List.setIfInBounds_toArray, List.set_cons_zero, List.set_cons_succ]
    refine wpAnyH_done (by kernel_rfl) ?_ _
    clear hHeld
    have hX3 := HX3.out.below HD.out
    have hX4 := HX4.out.below HD.out
    have c3 := hX3.cell
    have c4 := hX4.cell
    have l3 := hX3.lt
    have l4 := hX4.lt
    have q0 := eqC0
    obtain ⟨j1, j2, j3, j4⟩ := HJ.out
    have HS := hidW (gstale_any (HM.out _ HBx.out) a h1 h2)
    clear hX3 hX4 HJ
    go_wp2_with (go_at_call 22; refine HS.out.mono ?_; rintro e w4 ⟨rfl, g4⟩; have HBy := hidW (Below.step HBx.out g4); clear g4)
    go_ret
    exact ⟨rfl, Below.step HB0.out HBy.out⟩
end Go.Proofs.YtfdjfhhjfgdbaaaGreatDoor
