import Derived.Test.YtnjlajjjcmhfgaaGreatDoorQA23
namespace Go.Proofs.YtnjlajjjcmhfgaaGreatDoor
open Go.RowKit
open Mm (Turn)
set_option linter.unusedVariables false
set_option linter.unusedSimpArgs false
theorem evict_plain {L : List Slo} {i : Nat} {s : Slo} (h : L[i]? = some s) : evF L i = (s.full, L.set i sZ) := by
  have hi := (List.getElem?_eq_some_iff.1 h).1
  unfold evF
  rw [if_pos (by omega), Int.toNat_natCast]
  simp [List.getD, h]
set_option maxRecDepth 100000 in
set_option maxHeartbeats 4000000 in
theorem evict_any (W : World) (p g : Nat) (L : List Slo) (i : Int) (hP : PT 133 W p g L) :
    Calls Tryz.prog 28 #[.pointer (some ⟨p, 0, none⟩), .int .i64 i] W fun e w' => e = .returned (.bool (evF L i).1) ∧ PT 133 w' p g (evF L i).2 ∧ Turn (· = g) W w' := by
  have c0 := hP.cell
  have HP := hidW hP
  have hn := hP.hi
  clear hP
  generalize hl : L.length = n at *
  have HN : Hid (L.length = n) := hl
  clear hl
  by_cases h0 : i < 0
  · have he : evF L i = (false, L) := by unfold evF; rw [if_neg (by omega)]
    rw [he]
    have q : decide (i < 0) = true := decide_eq_true h0
    go_enter Tryz.func28, Tryz.ntmps28
    go_wp2
    go_ret
    exact ⟨rfl, HP.out, Turn.refl _ _⟩
  · have q : decide (i < 0) = false := decide_eq_false h0
    by_cases h1 : (n : Int) ≤ i
    · have he : evF L i = (false, L) := by unfold evF; rw [if_neg (by rw [HN.out]; omega)]
      rw [he]
      go_enter Tryz.func28, Tryz.ntmps28
      go_wp2
      go_ret
      exact ⟨rfl, HP.out, Turn.refl _ _⟩
    · obtain ⟨k, rfl⟩ := Int.eq_ofNat_of_zero_le (show 0 ≤ i by omega)
      have hk : k < n := by omega
      obtain ⟨s, hs, hok, e0, e1, e2, e3, e4, e5, e6, e7, e8, e9⟩ := HP.out.at (k := k) (by rw [HN.out]; exact hk)
      rw [evict_plain hs]
      have HF := hidW (HP.out.putZ k (by rw [HN.out]; exact hk))
      have HT := hidW (turn_putZ (S := (· = g)) rfl k HP.out.row.lt)
      have f0 := HP.out.row.frozen
      have l0 := HP.out.row.lt
      clear HP hs hok q h0
      go_enter Tryz.func28, Tryz.ntmps28
      go_wp2
      go_ret
      exact ⟨rfl, HF.out, HT.out⟩
/-- Put: the block's box, all else as it was. -/
structure UX (W wr : World) (p g : Nat) (L : List Slo) (b : Blo) : Prop where
  bel : Below W.heap.size W wr
  pt : PT 133 wr p g L
  box : Bl wr W.heap.size 45 ([.int .i64 b.asid, .int .i64 b.t.size, .int .u32 b.t.va, .int .u64 b.t.pa, .int .i64 b.t.dom, .int .i64 b.t.ap, .int .u32 b.t.bits, .bool b.t.ng, .bool b.t.xn])
theorem UX.step {W wr w' : World} {p g : Nat} {L : List Slo} {b : Blo} (h : UX W wr p g L b) (hb : Below wr.heap.size wr w') : UX W w' p g L b := ⟨Below.step h.bel hb, h.pt.below hb, h.box.below hb⟩
theorem UX.start {W : World} {p g : Nat} {L : List Slo} (b : Blo) (h : PT 133 W p g L) : UX W (W.alloc (.cells ([.int .i64 b.asid, .int .i64 b.t.size, .int .u32 b.t.va, .int .u64 b.t.pa, .int .i64 b.t.dom, .int .i64 b.t.ap, .int .u32 b.t.bits, .bool b.t.ng, .bool b.t.xn]).toArray 45)) p g L b := ⟨below_new _ _, h.below (below_new _ _), Bl.new _ _ _⟩
set_option maxRecDepth 100000 in
set_option maxHeartbeats 4000000 in
theorem put_no (W : World) (p g : Nat) (L : List Slo) (b : Blo) (pick : Int) (hP : PT 133 W p g L) (ht : TR W) (hb : BOk b) (hr : bR b = false) :
    Calls Tryz.prog 29 #[.pointer (some ⟨p, 0, none⟩), .agg #[.int .i64 b.asid, .int .i64 b.t.size, .int .u32 b.t.va, .int .u64 b.t.pa, .int .i64 b.t.dom, .int .i64 b.t.ap, .int .u32 b.t.bits, .bool b.t.ng, .bool b.t.xn], .int .i64 pick] W fun e w' => e = .returned (.tuple #[.int .i64 ((puF L b pick).1.1 : Nat), .int .i64 (puF L b pick).1.2]) ∧ PT 133 w' p g (puF L b pick).2 ∧ Turn (· = g) W w' := by
  have he : puF L b pick = ((0, 101), L) := by simp [puF, hr]
  rw [he]
  have HX := hidW (UX.start b hP)
  have HR : Hid (∀ w, Below W.heap.size W w → Calls Tryz.prog 44 #[.agg #[.int .i64 b.asid, .int .i64 b.t.size, .int .u32 b.t.va, .int .u64 b.t.pa, .int .i64 b.t.dom, .int .i64 b.t.ap, .int .u32 b.t.bits, .bool b.t.ng, .bool b.t.xn]] w fun e w' => e = .returned (.bool (bR b)) ∧ Below w.heap.size w w') := fun w h => tright_any b w (ht.below h) hb
  rw [hr] at HR
  clear hP ht hb hr he
  go_enter Tryz.func29, Tryz.ntmps29
  go_wp2_with (fail)
  go_at_call 44
  refine (HR.out _ HX.out.bel).mono ?_
  rintro e w1 ⟨rfl, hb⟩
  have HX1 := hidW (HX.out.step hb)
  clear hb HX HR
  go_wp2
  go_ret2
  exact ⟨rfl, HX1.out.pt, Turn.below HX1.out.bel⟩
set_option maxRecDepth 100000 in
set_option maxHeartbeats 4000000 in
theorem put_yes (W : World) (p g : Nat) (L : List Slo) (b : Blo) (pick : Int) (hP : PT 133 W p g L) (ht : TR W) (hb : BOk b) (hr : bR b = true) :
    Calls Tryz.prog 29 #[.pointer (some ⟨p, 0, none⟩), .agg #[.int .i64 b.asid, .int .i64 b.t.size, .int .u32 b.t.va, .int .u64 b.t.pa, .int .i64 b.t.dom, .int .i64 b.t.ap, .int .u32 b.t.bits, .bool b.t.ng, .bool b.t.xn], .int .i64 pick] W fun e w' => e = .returned (.tuple #[.int .i64 ((puF L b pick).1.1 : Nat), .int .i64 (puF L b pick).1.2]) ∧ PT 133 w' p g (puF L b pick).2 ∧ Turn (· = g) W w' := by
  have HX := hidW (UX.start b hP)
  have HR : Hid (∀ w, Below W.heap.size W w → Calls Tryz.prog 44 #[.agg #[.int .i64 b.asid, .int .i64 b.t.size, .int .u32 b.t.va, .int .u64 b.t.pa, .int .i64 b.t.dom, .int .i64 b.t.ap, .int .u32 b.t.bits, .bool b.t.ng, .bool b.t.xn]] w fun e w' => e = .returned (.bool (bR b)) ∧ Below w.heap.size w w') := fun w h => tright_any b w (ht.below h) hb
  have HI : Hid (∀ v w, PT 133 w p g L → Calls Tryz.prog 57 #[.slice (some ⟨g, 0, none⟩) L.length L.length, .agg #[.bool v.full, .int .i64 v.b.asid, .int .i64 v.b.t.size, .int .u32 v.b.t.va, .int .u64 v.b.t.pa, .int .i64 v.b.t.dom, .int .i64 v.b.t.ap, .int .u32 v.b.t.bits, .bool v.b.t.ng, .bool v.b.t.xn]] w fun e w' => e = .returned (.int .i64 (ixI L v)) ∧ Below w.heap.size w w') := fun v w h => index_any w g L v h.row h.hi
  rw [hr] at HR
  have HB : Hid (SOk ⟨true, b⟩) := ⟨hb, fun _ => hr, fun h => by cases h⟩
  have HG : Hid (puF L b pick = (match ixF L ⟨true, b⟩ with
    | some i => ((i, 0), L)
    | none =>
      match ixF L sZ with
      | some i => ((i, 0), L.set i ⟨true, b⟩)
      | none => (((pick % (L.length : Int)).toNat, 0), L.set (pick % (L.length : Int)).toNat ⟨true, b⟩))) := by simp only [puF, hr, if_true]; exact hidW rfl
  clear ht hb hr
  have h1 := hP.lo
  have h2 := hP.hi
  clear hP
  go_enter Tryz.func29, Tryz.ntmps29
  go_wp2_with (fail)
  go_at_call 44
  refine (HR.out _ HX.out.bel).mono ?_
  rintro e w1 ⟨rfl, hb⟩
  have HX1 := hidW (HX.out.step hb)
  clear hb HX HR
  have c0 := HX1.out.box.cell
  have HX2 := hidW (HX1.out.step (below_new _ (.cells (.bool true :: [.int .i64 b.asid, .int .i64 b.t.size, .int .u32 b.t.va, .int .u64 b.t.pa, .int .i64 b.t.dom, .int .i64 b.t.ap, .int .u32 b.t.bits, .bool b.t.ng, .bool b.t.xn]).toArray 135)))
  have HS2 : Hid (Bl (w1.alloc (.cells (.bool true :: [.int .i64 b.asid, .int .i64 b.t.size, .int .u32 b.t.va, .int .u64 b.t.pa, .int .i64 b.t.dom, .int .i64 b.t.ap, .int .u32 b.t.bits, .bool b.t.ng, .bool b.t.xn]).toArray 135)) w1.heap.size 135 (.bool true :: [.int .i64 b.asid, .int .i64 b.t.size, .int .u32 b.t.va, .int .u64 b.t.pa, .int .i64 b.t.dom, .int .i64 b.t.ap, .int .u32 b.t.bits, .bool b.t.ng, .bool b.t.xn])) := Bl.new _ _ _
  have hC : W.heap.size ≤ w1.heap.size := HX1.out.bel.size
  have hCp : p < w1.heap.size := HX1.out.pt.box.lt
  have hCg : g < w1.heap.size := HX1.out.pt.row.lt
  clear HX1
  go_wp2
  generalize World.alloc _ _ = w2 at *
  generalize w1.heap.size = C at *
  clear c0
  go_region_held3 (fun w' => w'.cell? ⟨p, 0, none⟩ = some (.slice (some ⟨g, 0, none⟩) L.length L.length) ∧ w'.cell? ⟨C, 0, none⟩ = some (.bool true) ∧ w'.cell? ⟨C, 1, none⟩ = some (.int .i64 b.asid) ∧ w'.cell? ⟨C, 2, none⟩ = some (.int .i64 b.t.size) ∧ w'.cell? ⟨C, 3, none⟩ = some (.int .u32 b.t.va) ∧ w'.cell? ⟨C, 4, none⟩ = some (.int .u64 b.t.pa) ∧ w'.cell? ⟨C, 5, none⟩ = some (.int .i64 b.t.dom) ∧ w'.cell? ⟨C, 6, none⟩ = some (.int .i64 b.t.ap) ∧ w'.cell? ⟨C, 7, none⟩ = some (.int .u32 b.t.bits) ∧ w'.cell? ⟨C, 8, none⟩ = some (.bool b.t.ng) ∧ w'.cell? ⟨C, 9, none⟩ = some (.bool b.t.xn))
    (first
      | exact ⟨HX2.out.pt.cell, HS2.out.cell 0, HS2.out.cell 1, HS2.out.cell 2, HS2.out.cell 3, HS2.out.cell 4, HS2.out.cell 5, HS2.out.cell 6, HS2.out.cell 7, HS2.out.cell 8, HS2.out.cell 9⟩
      | exact ⟨HX3.out.pt.cell, HS3.out.cell 0, HS3.out.cell 1, HS3.out.cell 2, HS3.out.cell 3, HS3.out.cell 4, HS3.out.cell 5, HS3.out.cell 6, HS3.out.cell 7, HS3.out.cell 8, HS3.out.cell 9⟩)
    (first
      | (go_at_call 57; refine (HI.out ⟨true, b⟩ _ HX2.out.pt.drew).mono ?_; rintro e w3 ⟨rfl, hb⟩; have HX3 := hidW (HX2.out.step (Below.step (below_drew (Below.refl _ _)) hb)); have HS3 := hidW (HS2.out.drew.below hb); clear hb HX2 HS2))
  cases hi : ixF L ⟨true, b⟩ with
  | some i =>
    have e1 : ixI L ⟨true, b⟩ = (i : Int) := by simp [ixI, hi]
    have HG2 : Hid (puF L b pick = ((i, 0), L)) := by rw [hi] at HG; exact HG.out
    clear HG HI
    rw [e1]
    go_wp2
    go_ret2
    exact ⟨by rw [HG2.out]; rfl, by rw [HG2.out]; exact HX3.out.pt, Turn.below HX3.out.bel⟩
  | none =>
    have e1 : ixI L ⟨true, b⟩ = -1 := by simp [ixI, hi]
    have HG1 : Hid (puF L b pick = (match ixF L sZ with
      | some i => ((i, 0), L.set i ⟨true, b⟩)
      | none => (((pick % (L.length : Int)).toNat, 0), L.set (pick % (L.length : Int)).toNat ⟨true, b⟩))) := by rw [hi] at HG; exact HG.out
    clear HG
    rw [e1]
    clear e1 hi
    have c0 := HX3.out.pt.cell
    go_wp2_with (fail)
    go_at_call 57
    refine (HI.out sZ _ HX3.out.pt).mono ?_
    rintro e w4 ⟨rfl, hb⟩
    have HX4 := hidW (HX3.out.step hb)
    have HS4 := hidW (HS3.out.below hb)
    clear hb HX3 HS3 HI c0
    have c0 := HX4.out.pt.cell
    cases hj : ixF L sZ with
    | some k =>
      have e2 : ixI L sZ = (k : Int) := by simp [ixI, hj]
      have hk := ixF_lt hj
      have HG2 : Hid (puF L b pick = ((k, 0), L.set k ⟨true, b⟩)) := by rw [hj] at HG1; exact HG1.out
      have HF := hidW (HX4.out.pt.putT k b hk HB.out).drew
      have HT := hidW (turn_putT (w := w4) (S := (· = g)) rfl k b HX4.out.pt.row.lt).drew
      have HE := hidW (HS4.out.turn HT.out (fun h => by have h : C = g := h; omega))
      have f0 := HX4.out.pt.row.frozen
      have l0 := HX4.out.pt.row.lt
      have K1 : Hid (w4.drew.cell? ⟨p, 0, none⟩ = some (.slice (some ⟨g, 0, none⟩) L.length L.length) ∧ w4.drew.cell? ⟨C, 0, none⟩ = some (.bool true) ∧ w4.drew.cell? ⟨C, 1, none⟩ = some (.int .i64 b.asid) ∧ w4.drew.cell? ⟨C, 2, none⟩ = some (.int .i64 b.t.size) ∧ w4.drew.cell? ⟨C, 3, none⟩ = some (.int .u32 b.t.va) ∧ w4.drew.cell? ⟨C, 4, none⟩ = some (.int .u64 b.t.pa) ∧ w4.drew.cell? ⟨C, 5, none⟩ = some (.int .i64 b.t.dom) ∧ w4.drew.cell? ⟨C, 6, none⟩ = some (.int .i64 b.t.ap) ∧ w4.drew.cell? ⟨C, 7, none⟩ = some (.int .u32 b.t.bits) ∧ w4.drew.cell? ⟨C, 8, none⟩ = some (.bool b.t.ng) ∧ w4.drew.cell? ⟨C, 9, none⟩ = some (.bool b.t.xn)) := hidW ⟨HX4.out.pt.cell, HS4.out.cell 0, HS4.out.cell 1, HS4.out.cell 2, HS4.out.cell 3, HS4.out.cell 4, HS4.out.cell 5, HS4.out.cell 6, HS4.out.cell 7, HS4.out.cell 8, HS4.out.cell 9⟩
      have hFc := HF.out.cell
      rw [List.length_set] at hFc
      have K2 : Hid (∀ w', w' = ((((((((((w4.setCell ⟨g, k * 10, none⟩ (.bool true)).setCell ⟨g, k * 10 + 1, none⟩ (.int .i64 b.asid)).setCell ⟨g, k * 10 + 2, none⟩ (.int .i64 b.t.size)).setCell ⟨g, k * 10 + 3, none⟩ (.int .u32 b.t.va)).setCell ⟨g, k * 10 + 4, none⟩ (.int .u64 b.t.pa)).setCell ⟨g, k * 10 + 5, none⟩ (.int .i64 b.t.dom)).setCell ⟨g, k * 10 + 6, none⟩ (.int .i64 b.t.ap)).setCell ⟨g, k * 10 + 7, none⟩ (.int .u32 b.t.bits)).setCell ⟨g, k * 10 + 8, none⟩ (.bool b.t.ng)).setCell ⟨g, k * 10 + 9, none⟩ (.bool b.t.xn)).drew → (w'.cell? ⟨p, 0, none⟩ = some (.slice (some ⟨g, 0, none⟩) L.length L.length) ∧ w'.cell? ⟨C, 0, none⟩ = some (.bool true) ∧ w'.cell? ⟨C, 1, none⟩ = some (.int .i64 b.asid) ∧ w'.cell? ⟨C, 2, none⟩ = some (.int .i64 b.t.size) ∧ w'.cell? ⟨C, 3, none⟩ = some (.int .u32 b.t.va) ∧ w'.cell? ⟨C, 4, none⟩ = some (.int .u64 b.t.pa) ∧ w'.cell? ⟨C, 5, none⟩ = some (.int .i64 b.t.dom) ∧ w'.cell? ⟨C, 6, none⟩ = some (.int .i64 b.t.ap) ∧ w'.cell? ⟨C, 7, none⟩ = some (.int .u32 b.t.bits) ∧ w'.cell? ⟨C, 8, none⟩ = some (.bool b.t.ng) ∧ w'.cell? ⟨C, 9, none⟩ = some (.bool b.t.xn))) := hidW (fun w' h => by subst h; exact ⟨hFc, HE.out.cell 0, HE.out.cell 1, HE.out.cell 2, HE.out.cell 3, HE.out.cell 4, HE.out.cell 5, HE.out.cell 6, HE.out.cell 7, HE.out.cell 8, HE.out.cell 9⟩)
      clear hFc HE
      obtain ⟨y0, _, _, x0, x1, x2, x3, x4, x5, x6, x7, x8, x9⟩ := HX4.out.pt.at hk
      clear HG1 hj
      rw [e2]
      go_wp2
      refine wp_region_held_drew (S := fun w' => w'.cell? ⟨p, 0, none⟩ = some (.slice (some ⟨g, 0, none⟩) L.length L.length) ∧ w'.cell? ⟨C, 0, none⟩ = some (.bool true) ∧ w'.cell? ⟨C, 1, none⟩ = some (.int .i64 b.asid) ∧ w'.cell? ⟨C, 2, none⟩ = some (.int .i64 b.t.size) ∧ w'.cell? ⟨C, 3, none⟩ = some (.int .u32 b.t.va) ∧ w'.cell? ⟨C, 4, none⟩ = some (.int .u64 b.t.pa) ∧ w'.cell? ⟨C, 5, none⟩ = some (.int .i64 b.t.dom) ∧ w'.cell? ⟨C, 6, none⟩ = some (.int .i64 b.t.ap) ∧ w'.cell? ⟨C, 7, none⟩ = some (.int .u32 b.t.bits) ∧ w'.cell? ⟨C, 8, none⟩ = some (.bool b.t.ng) ∧ w'.cell? ⟨C, 9, none⟩ = some (.bool b.t.xn)) (by kernel_rfl) K1.out (fun hHeld => ?_)
      refine wpAnyH_take (i := 0) (oi := { dst := some 40, op := Op.move (Operand.tmp 0), type := 78, pos := _, after := #[], guard := none }) (v := ?_) rfl (by kernel_rfl) (by kernel_rfl) (by kernel_rfl) (fun _ _ _ h => h) (Or.inl ⟨by rfl, ?_⟩) (by assumption) ?_
      rotate_left
      · (intro w hSw; (try dsimp only at hSw); go_simp; try with_reducible rfl)
      simp only [Act.put, List.setIfInBounds_toArray, List.set_cons_zero, List.set_cons_succ]
      refine wpAnyH_take (i := 1) (oi := { dst := some 41, op := Op.nilCheck (Operand.tmp 40), type := 0, pos := _, after := #[{ on := 0, ground := Ground.data }], guard := none }) (v := ?_) rfl (by kernel_rfl) (by kernel_rfl) (by kernel_rfl) (fun _ _ _ h => h) (Or.inl ⟨by rfl, ?_⟩) (by assumption) ?_
      rotate_left
      · (intro w hSw; (try dsimp only at hSw); go_simp; try with_reducible rfl)
      simp only [Act.put, List.setIfInBounds_toArray, List.set_cons_zero, List.set_cons_succ]
      refine wpAnyH_take (i := 2) (oi := { dst := some 42, op := Op.fieldAddr 133 (Operand.tmp 41) 0, type := 0, pos := _, after := #[{ on := 1, ground := Ground.data }], guard := none }) (v := ?_) rfl (by kernel_rfl) (by kernel_rfl) (by kernel_rfl) (fun _ _ _ h => h) (Or.inl ⟨by rfl, ?_⟩) (by assumption) ?_
      rotate_left
      · (intro w hSw; (try dsimp only at hSw); go_simp; try with_reducible rfl)
      simp only [Act.put, List.setIfInBounds_toArray, List.set_cons_zero, List.set_cons_succ]
      refine wpAnyH_take (i := 3) (oi := { dst := some 43, op := Op.load 131 (Operand.tmp 42), type := 131, pos := _, after := #[{ on := 2, ground := Ground.data }], guard := none }) (v := ?_) rfl (by kernel_rfl) (by kernel_rfl) (by kernel_rfl) (fun _ _ _ h => h) (Or.inl ⟨by rfl, ?_⟩) (by assumption) ?_
      rotate_left
      · (intro w hSw; (try dsimp only at hSw); go_simp; try with_reducible rfl)
      simp only [Act.put, List.setIfInBounds_toArray, List.set_cons_zero, List.set_cons_succ]
      refine wpAnyH_take (i := 4) (oi := { dst := some 44, op := Op.move (Operand.tmp 10), type := 3, pos := _, after := #[], guard := none }) (v := ?_) rfl (by kernel_rfl) (by kernel_rfl) (by kernel_rfl) (fun _ _ _ h => h) (Or.inl ⟨by rfl, ?_⟩) (by assumption) ?_
      rotate_left
      · (intro w hSw; (try dsimp only at hSw); go_simp; try with_reducible rfl)
      simp only [Act.put, List.setIfInBounds_toArray, List.set_cons_zero, List.set_cons_succ]
      refine wpAnyH_take (i := 5) (oi := { dst := some 45, op := Op.load 135 (Operand.tmp 8), type := 135, pos := _, after := #[], guard := none }) (v := ?_) rfl (by kernel_rfl) (by kernel_rfl) (by kernel_rfl) (fun _ _ _ h => h) (Or.inl ⟨by rfl, ?_⟩) (by assumption) ?_
      rotate_left
      · (intro w hSw; (try dsimp only at hSw); go_simp; try with_reducible rfl)
      simp only [Act.put, List.setIfInBounds_toArray, List.set_cons_zero, List.set_cons_succ]
      refine wpAnyH_take (i := 6) (oi := { dst := some 46, op := Op.indexAddr 131 (Operand.tmp 43) (Operand.tmp 44), type := 0, pos := _, after := #[{ on := 3, ground := Ground.data }, { on := 4, ground := Ground.data }, { on := 0, ground := Ground.phase }, { on := 1, ground := Ground.phase }, { on := 2, ground := Ground.phase }, { on := 3, ground := Ground.phase }, { on := 4, ground := Ground.phase }, { on := 5, ground := Ground.phase }], guard := none }) (v := ?_) rfl (by kernel_rfl) (by kernel_rfl) (by kernel_rfl) (fun _ _ _ h => h) (Or.inl ⟨by rfl, ?_⟩) (by assumption) ?_
      rotate_left
      · (intro w hSw; (try dsimp only at hSw); go_simp; try with_reducible rfl)
      simp only [Act.put, List.setIfInBounds_toArray, List.set_cons_zero, List.set_cons_succ]
      refine wpAnyH_ready (rs := [7]) (by kernel_rfl) (by simp) ?_
      refine AllReadyH.cons (o := { dst := none, op := Op.store 135 (Operand.tmp 46) (Operand.tmp 45), type := 0, pos := _, after := #[{ on := 6, ground := Ground.data }, { on := 5, ground := Ground.data }, { on := 0, ground := Ground.phase }, { on := 1, ground := Ground.phase }, { on := 2, ground := Ground.phase }, { on := 3, ground := Ground.phase }, { on := 4, ground := Ground.phase }, { on := 5, ground := Ground.phase }], guard := none }) rfl (fun K hK => ?_) AllReadyH.nil
      go_simp
      skip
      refine hK.out _ _ ?_ (fun hHeld => ?_)
      · ((try dsimp only); with_reducible exact K2.out _ rfl)
      clear hK K
      try simp only [Act.put, List.setIfInBounds_toArray, List.set_cons_zero, List.set_cons_succ]
      refine wpAnyH_done (by kernel_rfl) ?_ _
      go_wp2
      go_ret2
      exact ⟨by rw [HG2.out]; rfl, by rw [HG2.out]; with_reducible exact HF.out, (Turn.below HX4.out.bel).trans HT.out (fun x hx => .inl hx)⟩
    | none =>
      have e2 : ixI L sZ = -1 := by simp [ixI, hj]
      have HG3 : Hid (puF L b pick = (((pick % (L.length : Int)).toNat, 0), L.set (pick % (L.length : Int)).toNat ⟨true, b⟩)) := by rw [hj] at HG1; exact HG1.out
      have hre := fun w => rest_any pick L.length w h1 h2
      have hk0 := Int.emod_nonneg pick (show (L.length : Int) ≠ 0 by omega)
      have hk1 := Int.emod_lt_of_pos pick (show (0 : Int) < L.length by omega)
      obtain ⟨k, hkk⟩ := Int.eq_ofNat_of_zero_le hk0
      rw [hkk] at hre hk1 HG3
      have hk : k < L.length := by omega
      have HG2 : Hid (puF L b pick = ((k, 0), L.set k ⟨true, b⟩)) := HG3.out
      clear HG1 HG3 hj hkk hk0
      have HF := hidW (HX4.out.pt.putT k b hk HB.out).drew
      have HT := hidW (turn_putT (w := w4) (S := (· = g)) rfl k b HX4.out.pt.row.lt).drew
      have HE := hidW (HS4.out.turn HT.out (fun h => by have h : C = g := h; omega))
      have f0 := HX4.out.pt.row.frozen
      have l0 := HX4.out.pt.row.lt
      have K1 : Hid (w4.drew.cell? ⟨p, 0, none⟩ = some (.slice (some ⟨g, 0, none⟩) L.length L.length) ∧ w4.drew.cell? ⟨C, 0, none⟩ = some (.bool true) ∧ w4.drew.cell? ⟨C, 1, none⟩ = some (.int .i64 b.asid) ∧ w4.drew.cell? ⟨C, 2, none⟩ = some (.int .i64 b.t.size) ∧ w4.drew.cell? ⟨C, 3, none⟩ = some (.int .u32 b.t.va) ∧ w4.drew.cell? ⟨C, 4, none⟩ = some (.int .u64 b.t.pa) ∧ w4.drew.cell? ⟨C, 5, none⟩ = some (.int .i64 b.t.dom) ∧ w4.drew.cell? ⟨C, 6, none⟩ = some (.int .i64 b.t.ap) ∧ w4.drew.cell? ⟨C, 7, none⟩ = some (.int .u32 b.t.bits) ∧ w4.drew.cell? ⟨C, 8, none⟩ = some (.bool b.t.ng) ∧ w4.drew.cell? ⟨C, 9, none⟩ = some (.bool b.t.xn)) := hidW ⟨HX4.out.pt.cell, HS4.out.cell 0, HS4.out.cell 1, HS4.out.cell 2, HS4.out.cell 3, HS4.out.cell 4, HS4.out.cell 5, HS4.out.cell 6, HS4.out.cell 7, HS4.out.cell 8, HS4.out.cell 9⟩
      have hFc := HF.out.cell
      rw [List.length_set] at hFc
      have K2 : Hid (∀ w', w' = ((((((((((w4.setCell ⟨g, k * 10, none⟩ (.bool true)).setCell ⟨g, k * 10 + 1, none⟩ (.int .i64 b.asid)).setCell ⟨g, k * 10 + 2, none⟩ (.int .i64 b.t.size)).setCell ⟨g, k * 10 + 3, none⟩ (.int .u32 b.t.va)).setCell ⟨g, k * 10 + 4, none⟩ (.int .u64 b.t.pa)).setCell ⟨g, k * 10 + 5, none⟩ (.int .i64 b.t.dom)).setCell ⟨g, k * 10 + 6, none⟩ (.int .i64 b.t.ap)).setCell ⟨g, k * 10 + 7, none⟩ (.int .u32 b.t.bits)).setCell ⟨g, k * 10 + 8, none⟩ (.bool b.t.ng)).setCell ⟨g, k * 10 + 9, none⟩ (.bool b.t.xn)).drew → (w'.cell? ⟨p, 0, none⟩ = some (.slice (some ⟨g, 0, none⟩) L.length L.length) ∧ w'.cell? ⟨C, 0, none⟩ = some (.bool true) ∧ w'.cell? ⟨C, 1, none⟩ = some (.int .i64 b.asid) ∧ w'.cell? ⟨C, 2, none⟩ = some (.int .i64 b.t.size) ∧ w'.cell? ⟨C, 3, none⟩ = some (.int .u32 b.t.va) ∧ w'.cell? ⟨C, 4, none⟩ = some (.int .u64 b.t.pa) ∧ w'.cell? ⟨C, 5, none⟩ = some (.int .i64 b.t.dom) ∧ w'.cell? ⟨C, 6, none⟩ = some (.int .i64 b.t.ap) ∧ w'.cell? ⟨C, 7, none⟩ = some (.int .u32 b.t.bits) ∧ w'.cell? ⟨C, 8, none⟩ = some (.bool b.t.ng) ∧ w'.cell? ⟨C, 9, none⟩ = some (.bool b.t.xn))) := hidW (fun w' h => by subst h; exact ⟨hFc, HE.out.cell 0, HE.out.cell 1, HE.out.cell 2, HE.out.cell 3, HE.out.cell 4, HE.out.cell 5, HE.out.cell 6, HE.out.cell 7, HE.out.cell 8, HE.out.cell 9⟩)
      clear hFc HE
      obtain ⟨y0, _, _, x0, x1, x2, x3, x4, x5, x6, x7, x8, x9⟩ := HX4.out.pt.at hk
      rw [e2]
      go_wp2_with (go_at_call 58; refine (hre _).mono ?_; rintro e w' ⟨rfl, rfl⟩)
      refine wp_region_held_drew (S := fun w' => w'.cell? ⟨p, 0, none⟩ = some (.slice (some ⟨g, 0, none⟩) L.length L.length) ∧ w'.cell? ⟨C, 0, none⟩ = some (.bool true) ∧ w'.cell? ⟨C, 1, none⟩ = some (.int .i64 b.asid) ∧ w'.cell? ⟨C, 2, none⟩ = some (.int .i64 b.t.size) ∧ w'.cell? ⟨C, 3, none⟩ = some (.int .u32 b.t.va) ∧ w'.cell? ⟨C, 4, none⟩ = some (.int .u64 b.t.pa) ∧ w'.cell? ⟨C, 5, none⟩ = some (.int .i64 b.t.dom) ∧ w'.cell? ⟨C, 6, none⟩ = some (.int .i64 b.t.ap) ∧ w'.cell? ⟨C, 7, none⟩ = some (.int .u32 b.t.bits) ∧ w'.cell? ⟨C, 8, none⟩ = some (.bool b.t.ng) ∧ w'.cell? ⟨C, 9, none⟩ = some (.bool b.t.xn)) (by kernel_rfl) K1.out (fun hHeld => ?_)
      refine wpAnyH_take (i := 0) (oi := { dst := some 40, op := Op.move (Operand.tmp 0), type := 78, pos := _, after := #[], guard := none }) (v := ?_) rfl (by kernel_rfl) (by kernel_rfl) (by kernel_rfl) (fun _ _ _ h => h) (Or.inl ⟨by rfl, ?_⟩) (by assumption) ?_
      rotate_left
      · (intro w hSw; (try dsimp only at hSw); go_simp; try with_reducible rfl)
      simp only [Act.put, List.setIfInBounds_toArray, List.set_cons_zero, List.set_cons_succ]
      refine wpAnyH_take (i := 1) (oi := { dst := some 41, op := Op.nilCheck (Operand.tmp 40), type := 0, pos := _, after := #[{ on := 0, ground := Ground.data }], guard := none }) (v := ?_) rfl (by kernel_rfl) (by kernel_rfl) (by kernel_rfl) (fun _ _ _ h => h) (Or.inl ⟨by rfl, ?_⟩) (by assumption) ?_
      rotate_left
      · (intro w hSw; (try dsimp only at hSw); go_simp; try with_reducible rfl)
      simp only [Act.put, List.setIfInBounds_toArray, List.set_cons_zero, List.set_cons_succ]
      refine wpAnyH_take (i := 2) (oi := { dst := some 42, op := Op.fieldAddr 133 (Operand.tmp 41) 0, type := 0, pos := _, after := #[{ on := 1, ground := Ground.data }], guard := none }) (v := ?_) rfl (by kernel_rfl) (by kernel_rfl) (by kernel_rfl) (fun _ _ _ h => h) (Or.inl ⟨by rfl, ?_⟩) (by assumption) ?_
      rotate_left
      · (intro w hSw; (try dsimp only at hSw); go_simp; try with_reducible rfl)
      simp only [Act.put, List.setIfInBounds_toArray, List.set_cons_zero, List.set_cons_succ]
      refine wpAnyH_take (i := 3) (oi := { dst := some 43, op := Op.load 131 (Operand.tmp 42), type := 131, pos := _, after := #[{ on := 2, ground := Ground.data }], guard := none }) (v := ?_) rfl (by kernel_rfl) (by kernel_rfl) (by kernel_rfl) (fun _ _ _ h => h) (Or.inl ⟨by rfl, ?_⟩) (by assumption) ?_
      rotate_left
      · (intro w hSw; (try dsimp only at hSw); go_simp; try with_reducible rfl)
      simp only [Act.put, List.setIfInBounds_toArray, List.set_cons_zero, List.set_cons_succ]
      refine wpAnyH_take (i := 4) (oi := { dst := some 44, op := Op.move (Operand.tmp 10), type := 3, pos := _, after := #[], guard := none }) (v := ?_) rfl (by kernel_rfl) (by kernel_rfl) (by kernel_rfl) (fun _ _ _ h => h) (Or.inl ⟨by rfl, ?_⟩) (by assumption) ?_
      rotate_left
      · (intro w hSw; (try dsimp only at hSw); go_simp; try with_reducible rfl)
      simp only [Act.put, List.setIfInBounds_toArray, List.set_cons_zero, List.set_cons_succ]
      refine wpAnyH_take (i := 5) (oi := { dst := some 45, op := Op.load 135 (Operand.tmp 8), type := 135, pos := _, after := #[], guard := none }) (v := ?_) rfl (by kernel_rfl) (by kernel_rfl) (by kernel_rfl) (fun _ _ _ h => h) (Or.inl ⟨by rfl, ?_⟩) (by assumption) ?_
      rotate_left
      · (intro w hSw; (try dsimp only at hSw); go_simp; try with_reducible rfl)
      simp only [Act.put, List.setIfInBounds_toArray, List.set_cons_zero, List.set_cons_succ]
      refine wpAnyH_take (i := 6) (oi := { dst := some 46, op := Op.indexAddr 131 (Operand.tmp 43) (Operand.tmp 44), type := 0, pos := _, after := #[{ on := 3, ground := Ground.data }, { on := 4, ground := Ground.data }, { on := 0, ground := Ground.phase }, { on := 1, ground := Ground.phase }, { on := 2, ground := Ground.phase }, { on := 3, ground := Ground.phase }, { on := 4, ground := Ground.phase }, { on := 5, ground := Ground.phase }], guard := none }) (v := ?_) rfl (by kernel_rfl) (by kernel_rfl) (by kernel_rfl) (fun _ _ _ h => h) (Or.inl ⟨by rfl, ?_⟩) (by assumption) ?_
      rotate_left
      · (intro w hSw; (try dsimp only at hSw); go_simp; try with_reducible rfl)
      simp only [Act.put, List.setIfInBounds_toArray, List.set_cons_zero, List.set_cons_succ]
      refine wpAnyH_ready (rs := [7]) (by kernel_rfl) (by simp) ?_
      refine AllReadyH.cons (o := { dst := none, op := Op.store 135 (Operand.tmp 46) (Operand.tmp 45), type := 0, pos := _, after := #[{ on := 6, ground := Ground.data }, { on := 5, ground := Ground.data }, { on := 0, ground := Ground.phase }, { on := 1, ground := Ground.phase }, { on := 2, ground := Ground.phase }, { on := 3, ground := Ground.phase }, { on := 4, ground := Ground.phase }, { on := 5, ground := Ground.phase }], guard := none }) rfl (fun K hK => ?_) AllReadyH.nil
      go_simp
      skip
      refine hK.out _ _ ?_ (fun hHeld => ?_)
      · ((try dsimp only); with_reducible exact K2.out _ rfl)
      clear hK K
      try simp only [Act.put, List.setIfInBounds_toArray, List.set_cons_zero, List.set_cons_succ]
      refine wpAnyH_done (by kernel_rfl) ?_ _
      go_wp2
      go_ret2
      exact ⟨by rw [HG2.out]; rfl, by rw [HG2.out]; with_reducible exact HF.out, (Turn.below HX4.out.bel).trans HT.out (fun x hx => .inl hx)⟩
theorem put_any (W : World) (p g : Nat) (L : List Slo) (b : Blo) (pick : Int) (hP : PT 133 W p g L) (ht : TR W) (hb : BOk b) :
    Calls Tryz.prog 29 #[.pointer (some ⟨p, 0, none⟩), .agg #[.int .i64 b.asid, .int .i64 b.t.size, .int .u32 b.t.va, .int .u64 b.t.pa, .int .i64 b.t.dom, .int .i64 b.t.ap, .int .u32 b.t.bits, .bool b.t.ng, .bool b.t.xn], .int .i64 pick] W fun e w' => e = .returned (.tuple #[.int .i64 ((puF L b pick).1.1 : Nat), .int .i64 (puF L b pick).1.2]) ∧ PT 133 w' p g (puF L b pick).2 ∧ Turn (· = g) W w' := by
  cases hr : bR b
  · exact put_no W p g L b pick hP ht hb hr
  · exact put_yes W p g L b pick hP ht hb hr
end Go.Proofs.YtnjlajjjcmhfgaaGreatDoor
