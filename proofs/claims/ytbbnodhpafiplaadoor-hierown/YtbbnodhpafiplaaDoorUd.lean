import Derived.Test.YtbbnodhpafiplaaDoorUc
namespace Go.Proofs.YtbbnodhpafiplaaDoor
open Go.RowKit
set_option linter.unusedVariables false
set_option linter.unusedSimpArgs false
/-- The lowest empty place from k on, or z. -/
def atF (L : List Slo) (k z : Nat) : Nat := match ixF (L.drop k) sZ with | some j => k + j | none => z
theorem atF_step {L : List Slo} {k : Nat} {s : Slo} (hs : L[k]? = some s) (z : Nat) : atF L k z = if s.same sZ = true then k else atF L (k + 1) z := by
  have hk := (List.getElem?_eq_some_iff.1 hs).1
  have he := (List.getElem?_eq_some_iff.1 hs).2
  unfold atF ixF
  rw [List.drop_eq_getElem_cons hk, he, List.findIdx?_cons]
  cases s.same sZ
  · cases (L.drop (k + 1)).findIdx? (fun x => x.same sZ) with
    | none => rfl
    | some j => simp; omega
  · rfl
theorem atF_end (L : List Slo) (z : Nat) : atF L L.length z = z := by simp [atF, ixF]
theorem atF_lt (L : List Slo) (k z : Nat) (hz : z < L.length) : atF L k z < L.length := by
  unfold atF
  cases h : ixF (L.drop k) sZ with
  | none => exact hz
  | some j =>
    have := ixF_lt h
    simp at this
    show k + j < L.length
    omega
theorem empty_iff {s : Slo} (h : SOk s) : s.same sZ = !s.full := by
  cases hf : s.full
  · rw [h.no hf]; rfl
  · simp [Slo.same, hf, sZ]
theorem full_same (s : Slo) (b : Blo) : s.same ⟨true, b⟩ = (s.full && s.b.same b) := by
  simp [Slo.same]
theorem puF_at {L : List Slo} {b : Blo} (pick : Int) (hr : bR b = true) (h : ixF L ⟨true, b⟩ = none) : puF L b pick = ((atF L 0 (pick % (L.length : Int)).toNat, 0), L.set (atF L 0 (pick % (L.length : Int)).toNat) ⟨true, b⟩) := by
  simp only [puF, hr, if_true, h, atF, List.drop_zero]
  cases ixF L sZ <;> simp
/-- Put: the block's box, all else as it was. -/
structure WX (W wr : World) (p g A : Nat) (L : List Slo) (b : Blo) : Prop where
  bel : Below W.heap.size W wr
  pt : PT 89 wr p g L
  box : Bl wr A 38 ([.int .i64 b.asid, .int .i64 b.t.size, .int .u32 b.t.va, .int .u64 b.t.pa, .int .i64 b.t.dom, .int .i64 b.t.ap, .int .u32 b.t.bits, .bool b.t.ng, .bool b.t.xn])
theorem WX.step {W wr w' : World} {p g A : Nat} {L : List Slo} {b : Blo} (h : WX W wr p g A L b) (hb : Below wr.heap.size wr w') : WX W w' p g A L b := ⟨Below.step h.bel hb, h.pt.below hb, h.box.below hb⟩
theorem WX.drewN {W wr : World} {p g A : Nat} {L : List Slo} {b : Blo} (h : WX W wr p g A L b) (q : Nat) : WX W (wr.drewN q) p g A L b := ⟨below_drewN h.bel q, h.pt.drewN q, h.box.drewN q⟩
theorem WX.start {W : World} {p g : Nat} {L : List Slo} (b : Blo) (h : PT 89 W p g L) : WX W (W.alloc (.cells ([.int .i64 b.asid, .int .i64 b.t.size, .int .u32 b.t.va, .int .u64 b.t.pa, .int .i64 b.t.dom, .int .i64 b.t.ap, .int .u32 b.t.bits, .bool b.t.ng, .bool b.t.xn]).toArray 38)) p g W.heap.size L b := ⟨below_new _ _, h.below (below_new _ _), Bl.new _ _ _⟩
set_option maxRecDepth 100000 in
set_option maxHeartbeats 4000000 in
theorem uput_no (W : World) (p g : Nat) (L : List Slo) (b : Blo) (pick : Int) (hP : PT 89 W p g L) (hb : BOk b) (hr : bR b = false) :
    Calls Tryd.prog 54 #[.pointer (some ⟨p, 0, none⟩), .agg #[.int .i64 b.asid, .int .i64 b.t.size, .int .u32 b.t.va, .int .u64 b.t.pa, .int .i64 b.t.dom, .int .i64 b.t.ap, .int .u32 b.t.bits, .bool b.t.ng, .bool b.t.xn], .int .i64 pick] W fun e w' => e = .returned (.tuple #[.int .i64 ((puF L b pick).1.1 : Nat), .int .i64 (puF L b pick).1.2]) ∧ PT 89 w' p g (puF L b pick).2 ∧ Turn (· = g) W w' := by
  have he : puF L b pick = ((0, 101), L) := by simp [puF, hr]
  rw [he]
  have HX := hidW (WX.start b hP)
  have HR : Hid (∀ w, Calls Tryd.prog 69 #[.agg #[.int .i64 b.asid, .int .i64 b.t.size, .int .u32 b.t.va, .int .u64 b.t.pa, .int .i64 b.t.dom, .int .i64 b.t.ap, .int .u32 b.t.bits, .bool b.t.ng, .bool b.t.xn]] w fun e w' => e = .returned (.bool (bR b)) ∧ Below w.heap.size w w') := fun w => uright_any b w hb
  rw [hr] at HR
  clear hP hb hr he
  go_enter Tryd.func54, Tryd.ntmps54
  go_wp2_with (fail)
  go_at_call 69
  refine (HR.out _).mono ?_
  rintro e w1 ⟨rfl, hb⟩
  have HX1 := hidW (HX.out.step hb)
  clear hb HX HR
  go_wp2
  go_ret2
  exact ⟨rfl, HX1.out.pt, Turn.below HX1.out.bel⟩
set_option maxRecDepth 100000 in
set_option maxHeartbeats 8000000 in
theorem uput_yes1 (W : World) (p g : Nat) (L : List Slo) (b : Blo) (pick : Int) (hP : PT 89 W p g L) (hb : BOk b) (hr : bR b = true) (ht : pick.tmod (L.length : Int) < 0) :
    Calls Tryd.prog 54 #[.pointer (some ⟨p, 0, none⟩), .agg #[.int .i64 b.asid, .int .i64 b.t.size, .int .u32 b.t.va, .int .u64 b.t.pa, .int .i64 b.t.dom, .int .i64 b.t.ap, .int .u32 b.t.bits, .bool b.t.ng, .bool b.t.xn], .int .i64 pick] W fun e w' => e = .returned (.tuple #[.int .i64 ((puF L b pick).1.1 : Nat), .int .i64 (puF L b pick).1.2]) ∧ PT 89 w' p g (puF L b pick).2 ∧ Turn (· = g) W w' := by
  have HX := hidW (WX.start b hP)
  have HR : Hid (∀ w, Calls Tryd.prog 69 #[.agg #[.int .i64 b.asid, .int .i64 b.t.size, .int .u32 b.t.va, .int .u64 b.t.pa, .int .i64 b.t.dom, .int .i64 b.t.ap, .int .u32 b.t.bits, .bool b.t.ng, .bool b.t.xn]] w fun e w' => e = .returned (.bool (bR b)) ∧ Below w.heap.size w w') := fun w => uright_any b w hb
  have HG1 : Hid (∀ i, ixF L ⟨true, b⟩ = some i → puF L b pick = ((i, 0), L)) := hidW (fun i h => by simp only [puF, hr, if_true, h])
  have HG2 : Hid (ixF L ⟨true, b⟩ = none → puF L b pick = ((atF L 0 (pick % (L.length : Int)).toNat, 0), L.set (atF L 0 (pick % (L.length : Int)).toNat) ⟨true, b⟩)) := hidW (fun h => puF_at pick hr h)
  have HB : Hid (SOk ⟨true, b⟩) := ⟨hb, fun _ => hr, fun h => by cases h⟩
  have HOk := hidW hP.ok
  rw [hr] at HR
  have h1 := hP.lo
  have h2 := hP.hi
  have HE := hidW (eqB · b)
  clear hP hb hr
  generalize hl : L.length = n at *
  have HN : Hid (L.length = n) := hl
  clear hl
  obtain ⟨a1, a2, a3⟩ := tmod_rest pick n h1
  have hw1 : IntKind.i64.wrap (pick.tmod n) = pick.tmod n := by rw [IntKind.wrap_i64]; omega
  have hn0 : ¬ (n : Int) = 0 := by omega
  have hw2 : IntKind.i64.wrap (pick.tmod n + n) = pick.tmod n + n := by rw [IntKind.wrap_i64]; omega
  rw [if_pos ht] at a3
  rw [← a3] at hw2
  have hq : pick.tmod n + (n : Int) = pick % n := a3.symm
  clear a3
  have hz0 := Int.emod_nonneg pick (show (n : Int) ≠ 0 by omega)
  have hz1 := Int.emod_lt_of_pos pick (show (0 : Int) < n by omega)
  generalize hzz : pick % (n : Int) = zz at *
  clear hzz
  obtain ⟨z, rfl⟩ := Int.eq_ofNat_of_zero_le hz0
  rw [Int.toNat_natCast] at HG2
  clear hz0
  go_enter Tryd.func54, Tryd.ntmps54
  go_wp2_with (fail)
  go_at_call 69
  refine (HR.out _).mono ?_
  rintro e w1 ⟨rfl, hb⟩
  replace HX := hidW (HX.out.step hb)
  clear hb HR
  generalize hA : W.heap.size = A at HX ⊢
  clear hA
  go_wp2
  go_loopw [8] (fun i wr => ∃ k : Nat, k ≤ n ∧ i = .int .i64 k ∧ ixF (L.take k) ⟨true, b⟩ = none ∧ WX W wr p g A L b) (fun i _ => n - (intOf i).toNat)
  case atStart => exact ⟨0, by omega, rfl, rfl, HX.out⟩
  case round =>
    clear HX
    obtain ⟨k, hk, rfl, hq, hX⟩ := hrel
    have HX := hidW hX
    have HQ := hidW hq
    have cp := HX.out.pt.cell
    rw [HN.out] at cp
    clear hX hq
    by_cases hlt : k < n
    · obtain ⟨s, hs, hok, e0, e1, e2, e3, e4, e5, e6, e7, e8, e9⟩ := HX.out.pt.at (k := k) (by rw [HN.out]; exact hlt)
      have c0 := HX.out.box.cell
      have HS := hidW hs
      have hfs := full_same s b
      have he := HE.out s.b
      have HD := fun q => hidW (HX.out.drewN q)
      clear HX hs hok HB hw1 a1 a2
      obtain ⟨fu, sb⟩ := s
      dsimp only at *
      cases fu
      · have HQ2 := hidW (ix_no HS.out HQ.out (by rw [hfs]; rfl))
        clear HQ HS hfs
        go_wp2
        go_quiet (fail)
        go_wp2
        go_roundw
        case rel => exact ⟨k + 1, by omega, by go_num, HQ2.out, (HD _).out⟩
        case measure => simp [intOf]; omega
      · cases hm : sb.same b
        · have HQ2 := hidW (ix_no HS.out HQ.out (by rw [hfs, hm]; rfl))
          rw [hm] at he
          clear HQ HS hfs hm
          go_wp2
          go_quiet (fail)
          go_wp2
          go_roundw
          case rel => exact ⟨k + 1, by omega, by go_num, HQ2.out, (HD _).out⟩
          case measure => simp [intOf]; omega
        · have HQ2 := hidW (HG1.out k (ix_yes HS.out HQ.out (by rw [hfs, hm]; rfl)))
          rw [hm] at he
          clear HQ HS hfs hm
          go_wp2
          go_quiet (fail)
          go_wp2
          go_ret2
          exact ⟨by rw [HQ2.out]; rfl, by rw [HQ2.out]; exact (HD _).out.pt, Turn.below (HD _).out.bel⟩
    · obtain rfl : k = n := by omega
      have HG : Hid _ := hidW (HG2.out (by have := HQ.out; rw [← HN.out, List.take_length] at this; exact this))
      have hwr : IntKind.i64.wrap ((k : Int) - 1) = (k : Int) - 1 := by rw [IntKind.wrap_i64]; omega
      have c0 := HX.out.box.cell
      clear HG1 HG2 HQ HE
      generalize wr = wz at *
      go_wp2
      clear hwr hw1 hw2 hq ht
      go_loopw [9, 10] (fun a i wr => ∃ j : Nat, j ≤ k ∧ i = .int .i64 ((j : Int) - 1) ∧ a = .int .i64 (atF L j z : Nat) ∧ wr = wz) (fun _ i _ => (intOf i + 1).toNat)
      case atStart => exact ⟨k, by omega, rfl, by rw [← HN.out, atF_end], rfl⟩
      case round =>
        obtain ⟨j, hj, rfl, rfl, hww⟩ := hrel
        subst hww
        by_cases hj0 : 1 ≤ j
        · obtain ⟨i, rfl⟩ : ∃ i, j = i + 1 := ⟨j - 1, by omega⟩
          obtain ⟨s, hs, hok, e0, e1, e2, e3, e4, e5, e6, e7, e8, e9⟩ := HX.out.pt.at (k := i) (by rw [HN.out]; omega)
          have HS := hidW (atF_step hs z)
          have hem := empty_iff hok
          have hi1 : (((i + 1 : Nat) : Int) - 1) = (i : Int) := by omega
          rw [hi1]
          have hge : ¬ (i : Int) < 0 := by omega
          have hge2 : (0 : Int) ≤ i := by omega
          have hlt2 : i < k := by omega
          have hwr : IntKind.i64.wrap ((i : Int) - 1) = (i : Int) - 1 := by rw [IntKind.wrap_i64]; omega
          clear hs hok hi1
          obtain ⟨fu, sb⟩ := s
          dsimp only at *
          cases fu
          · have HQ2 : Hid (atF L i z = i) := by rw [hem] at HS; exact HS.out
            clear HS hem
            go_wp2
            go_roundw
            case rel => exact ⟨i, by omega, rfl, by rw [HQ2.out], (by first | rfl | trivial)⟩
            case measure => simp [intOf]
          · have HQ2 : Hid (atF L i z = atF L (i + 1) z) := by rw [hem] at HS; exact HS.out
            clear HS hem
            go_wp2
            go_roundw
            case rel => exact ⟨i, by omega, rfl, by rw [HQ2.out], (by first | rfl | trivial)⟩
            case measure => simp [intOf]
        · obtain rfl : j = 0 := by omega
          have hat : atF L 0 z < L.length := atF_lt L 0 z (by rw [HN.out]; omega)
          generalize atF L 0 z = m at *
          have hmk : m < k := by rw [HN.out] at hat; exact hat
          have HF := hidW (HX.out.pt.putT m b hat HB.out).drew
          have HT := hidW (turn_putT (w := wr) (S := (· = g)) rfl m b HX.out.pt.row.lt).drew
          have hne : A ≠ g := HX.out.box.ne HX.out.pt.row (by decide)
          have HEb := hidW (HX.out.box.turn HT.out hne)
          have f0 := HX.out.pt.row.frozen
          have l0 := HX.out.pt.row.lt
          have K1 : Hid (wr.drew.cell? ⟨p, 0, none⟩ = some (.slice (some ⟨g, 0, none⟩) k k) ∧ wr.drew.cell? ⟨A, 0, none⟩ = some (.int .i64 b.asid) ∧ wr.drew.cell? ⟨A, 1, none⟩ = some (.int .i64 b.t.size) ∧ wr.drew.cell? ⟨A, 2, none⟩ = some (.int .u32 b.t.va) ∧ wr.drew.cell? ⟨A, 3, none⟩ = some (.int .u64 b.t.pa) ∧ wr.drew.cell? ⟨A, 4, none⟩ = some (.int .i64 b.t.dom) ∧ wr.drew.cell? ⟨A, 5, none⟩ = some (.int .i64 b.t.ap) ∧ wr.drew.cell? ⟨A, 6, none⟩ = some (.int .u32 b.t.bits) ∧ wr.drew.cell? ⟨A, 7, none⟩ = some (.bool b.t.ng) ∧ wr.drew.cell? ⟨A, 8, none⟩ = some (.bool b.t.xn)) := hidW ⟨cp, HX.out.box.cell 0, HX.out.box.cell 1, HX.out.box.cell 2, HX.out.box.cell 3, HX.out.box.cell 4, HX.out.box.cell 5, HX.out.box.cell 6, HX.out.box.cell 7, HX.out.box.cell 8⟩
          have hFc := HF.out.cell
          rw [List.length_set, HN.out] at hFc
          have K2 : Hid (∀ w', w' = ((((((((((wr.setCell ⟨g, m * 10, none⟩ (.bool true)).setCell ⟨g, m * 10 + 1, none⟩ (.int .i64 b.asid)).setCell ⟨g, m * 10 + 2, none⟩ (.int .i64 b.t.size)).setCell ⟨g, m * 10 + 3, none⟩ (.int .u32 b.t.va)).setCell ⟨g, m * 10 + 4, none⟩ (.int .u64 b.t.pa)).setCell ⟨g, m * 10 + 5, none⟩ (.int .i64 b.t.dom)).setCell ⟨g, m * 10 + 6, none⟩ (.int .i64 b.t.ap)).setCell ⟨g, m * 10 + 7, none⟩ (.int .u32 b.t.bits)).setCell ⟨g, m * 10 + 8, none⟩ (.bool b.t.ng)).setCell ⟨g, m * 10 + 9, none⟩ (.bool b.t.xn)).drew → (w'.cell? ⟨p, 0, none⟩ = some (.slice (some ⟨g, 0, none⟩) k k) ∧ w'.cell? ⟨A, 0, none⟩ = some (.int .i64 b.asid) ∧ w'.cell? ⟨A, 1, none⟩ = some (.int .i64 b.t.size) ∧ w'.cell? ⟨A, 2, none⟩ = some (.int .u32 b.t.va) ∧ w'.cell? ⟨A, 3, none⟩ = some (.int .u64 b.t.pa) ∧ w'.cell? ⟨A, 4, none⟩ = some (.int .i64 b.t.dom) ∧ w'.cell? ⟨A, 5, none⟩ = some (.int .i64 b.t.ap) ∧ w'.cell? ⟨A, 6, none⟩ = some (.int .u32 b.t.bits) ∧ w'.cell? ⟨A, 7, none⟩ = some (.bool b.t.ng) ∧ w'.cell? ⟨A, 8, none⟩ = some (.bool b.t.xn))) := hidW (fun w' h => by subst h; exact ⟨hFc, HEb.out.cell 0, HEb.out.cell 1, HEb.out.cell 2, HEb.out.cell 3, HEb.out.cell 4, HEb.out.cell 5, HEb.out.cell 6, HEb.out.cell 7, HEb.out.cell 8⟩)
          clear hFc HEb
          obtain ⟨y0, _, _, x0, x1, x2, x3, x4, x5, x6, x7, x8, x9⟩ := HX.out.pt.at hat
          go_wp2
          refine wp_region_held_drew (S := fun w' => w'.cell? ⟨p, 0, none⟩ = some (.slice (some ⟨g, 0, none⟩) k k) ∧ w'.cell? ⟨A, 0, none⟩ = some (.int .i64 b.asid) ∧ w'.cell? ⟨A, 1, none⟩ = some (.int .i64 b.t.size) ∧ w'.cell? ⟨A, 2, none⟩ = some (.int .u32 b.t.va) ∧ w'.cell? ⟨A, 3, none⟩ = some (.int .u64 b.t.pa) ∧ w'.cell? ⟨A, 4, none⟩ = some (.int .i64 b.t.dom) ∧ w'.cell? ⟨A, 5, none⟩ = some (.int .i64 b.t.ap) ∧ w'.cell? ⟨A, 6, none⟩ = some (.int .u32 b.t.bits) ∧ w'.cell? ⟨A, 7, none⟩ = some (.bool b.t.ng) ∧ w'.cell? ⟨A, 8, none⟩ = some (.bool b.t.xn)) (by kernel_rfl) K1.out (fun hHeld => ?_)
          refine wpAnyH_take (i := 0) (oi := { dst := some 80, op := Op.move (Operand.tmp 0), type := 90, pos := _, after := #[], guard := none }) (v := ?_) rfl (by kernel_rfl) (by kernel_rfl) (by kernel_rfl) (fun _ _ _ h => h) (Or.inl ⟨by rfl, ?_⟩) (by assumption) ?_
          rotate_left
          · (intro w hSw; (try dsimp only at hSw); go_simp; try with_reducible rfl)
          simp only [Act.put, List.setIfInBounds_toArray, List.set_cons_zero, List.set_cons_succ]
          refine wpAnyH_take (i := 1) (oi := { dst := some 81, op := Op.nilCheck (Operand.tmp 80), type := 0, pos := _, after := #[{ on := 0, ground := Ground.data }], guard := none }) (v := ?_) rfl (by kernel_rfl) (by kernel_rfl) (by kernel_rfl) (fun _ _ _ h => h) (Or.inl ⟨by rfl, ?_⟩) (by assumption) ?_
          rotate_left
          · (intro w hSw; (try dsimp only at hSw); go_simp; try with_reducible rfl)
          simp only [Act.put, List.setIfInBounds_toArray, List.set_cons_zero, List.set_cons_succ]
          refine wpAnyH_take (i := 2) (oi := { dst := some 82, op := Op.fieldAddr 89 (Operand.tmp 81) 0, type := 0, pos := _, after := #[{ on := 1, ground := Ground.data }], guard := none }) (v := ?_) rfl (by kernel_rfl) (by kernel_rfl) (by kernel_rfl) (fun _ _ _ h => h) (Or.inl ⟨by rfl, ?_⟩) (by assumption) ?_
          rotate_left
          · (intro w hSw; (try dsimp only at hSw); go_simp; try with_reducible rfl)
          simp only [Act.put, List.setIfInBounds_toArray, List.set_cons_zero, List.set_cons_succ]
          refine wpAnyH_take (i := 3) (oi := { dst := some 83, op := Op.load 54 (Operand.tmp 82), type := 54, pos := _, after := #[{ on := 2, ground := Ground.data }], guard := none }) (v := ?_) rfl (by kernel_rfl) (by kernel_rfl) (by kernel_rfl) (fun _ _ _ h => h) (Or.inl ⟨by rfl, ?_⟩) (by assumption) ?_
          rotate_left
          · (intro w hSw; (try dsimp only at hSw); go_simp; try with_reducible rfl)
          simp only [Act.put, List.setIfInBounds_toArray, List.set_cons_zero, List.set_cons_succ]
          refine wpAnyH_take (i := 4) (oi := { dst := some 84, op := Op.move (Operand.tmp 9), type := 3, pos := _, after := #[], guard := none }) (v := ?_) rfl (by kernel_rfl) (by kernel_rfl) (by kernel_rfl) (fun _ _ _ h => h) (Or.inl ⟨by rfl, ?_⟩) (by assumption) ?_
          rotate_left
          · (intro w hSw; (try dsimp only at hSw); go_simp; try with_reducible rfl)
          simp only [Act.put, List.setIfInBounds_toArray, List.set_cons_zero, List.set_cons_succ]
          refine wpAnyH_take (i := 5) (oi := { dst := some 85, op := Op.load 38 (Operand.tmp 4), type := 38, pos := _, after := #[], guard := none }) (v := ?_) rfl (by kernel_rfl) (by kernel_rfl) (by kernel_rfl) (fun _ _ _ h => h) (Or.inl ⟨by rfl, ?_⟩) (by assumption) ?_
          rotate_left
          · (intro w hSw; (try dsimp only at hSw); go_simp; try with_reducible rfl)
          simp only [Act.put, List.setIfInBounds_toArray, List.set_cons_zero, List.set_cons_succ]
          refine wpAnyH_take (i := 6) (oi := { dst := some 86, op := Op.build 57 #[(0, Operand.const (Value.bool true)), (1, Operand.tmp 85)], type := 57, pos := _, after := #[{ on := 5, ground := Ground.data }], guard := none }) (v := ?_) rfl (by kernel_rfl) (by kernel_rfl) (by kernel_rfl) (fun _ _ _ h => h) (Or.inl ⟨by rfl, ?_⟩) (by assumption) ?_
          rotate_left
          · (intro w hSw; (try dsimp only at hSw); go_simp; try with_reducible rfl)
          simp only [Act.put, List.setIfInBounds_toArray, List.set_cons_zero, List.set_cons_succ]
          refine wpAnyH_take (i := 7) (oi := { dst := some 87, op := Op.indexAddr 54 (Operand.tmp 83) (Operand.tmp 84), type := 0, pos := _, after := #[{ on := 3, ground := Ground.data }, { on := 4, ground := Ground.data }, { on := 0, ground := Ground.phase }, { on := 1, ground := Ground.phase }, { on := 2, ground := Ground.phase }, { on := 3, ground := Ground.phase }, { on := 4, ground := Ground.phase }, { on := 5, ground := Ground.phase }, { on := 6, ground := Ground.phase }], guard := none }) (v := ?_) rfl (by kernel_rfl) (by kernel_rfl) (by kernel_rfl) (fun _ _ _ h => h) (Or.inl ⟨by rfl, ?_⟩) (by assumption) ?_
          rotate_left
          · (intro w hSw; (try dsimp only at hSw); go_simp; try with_reducible rfl)
          simp only [Act.put, List.setIfInBounds_toArray, List.set_cons_zero, List.set_cons_succ]
          refine wpAnyH_ready (rs := [8]) (by kernel_rfl) (by simp) ?_
          refine AllReadyH.cons (o := { dst := none, op := Op.store 57 (Operand.tmp 87) (Operand.tmp 86), type := 0, pos := _, after := #[{ on := 7, ground := Ground.data }, { on := 6, ground := Ground.data }, { on := 0, ground := Ground.phase }, { on := 1, ground := Ground.phase }, { on := 2, ground := Ground.phase }, { on := 3, ground := Ground.phase }, { on := 4, ground := Ground.phase }, { on := 5, ground := Ground.phase }, { on := 6, ground := Ground.phase }], guard := none }) rfl (fun K hK => ?_) AllReadyH.nil
          go_simp
          skip
          refine hK.out _ _ ?_ (fun hHeld => ?_)
          · ((try dsimp only); with_reducible exact K2.out _ rfl)
          clear hK K
          try simp only [Act.put, List.setIfInBounds_toArray, List.set_cons_zero, List.set_cons_succ]
          refine wpAnyH_done (by kernel_rfl) ?_ _
          go_wp2
          go_ret2
          exact ⟨by rw [HG.out]; rfl, by rw [HG.out]; with_reducible exact HF.out, (Turn.below HX.out.bel).trans HT.out (fun x hx => .inl hx)⟩
set_option maxRecDepth 100000 in
set_option maxHeartbeats 8000000 in
theorem uput_yes2 (W : World) (p g : Nat) (L : List Slo) (b : Blo) (pick : Int) (hP : PT 89 W p g L) (hb : BOk b) (hr : bR b = true) (ht : ¬ pick.tmod (L.length : Int) < 0) :
    Calls Tryd.prog 54 #[.pointer (some ⟨p, 0, none⟩), .agg #[.int .i64 b.asid, .int .i64 b.t.size, .int .u32 b.t.va, .int .u64 b.t.pa, .int .i64 b.t.dom, .int .i64 b.t.ap, .int .u32 b.t.bits, .bool b.t.ng, .bool b.t.xn], .int .i64 pick] W fun e w' => e = .returned (.tuple #[.int .i64 ((puF L b pick).1.1 : Nat), .int .i64 (puF L b pick).1.2]) ∧ PT 89 w' p g (puF L b pick).2 ∧ Turn (· = g) W w' := by
  have HX := hidW (WX.start b hP)
  have HR : Hid (∀ w, Calls Tryd.prog 69 #[.agg #[.int .i64 b.asid, .int .i64 b.t.size, .int .u32 b.t.va, .int .u64 b.t.pa, .int .i64 b.t.dom, .int .i64 b.t.ap, .int .u32 b.t.bits, .bool b.t.ng, .bool b.t.xn]] w fun e w' => e = .returned (.bool (bR b)) ∧ Below w.heap.size w w') := fun w => uright_any b w hb
  have HG1 : Hid (∀ i, ixF L ⟨true, b⟩ = some i → puF L b pick = ((i, 0), L)) := hidW (fun i h => by simp only [puF, hr, if_true, h])
  have HG2 : Hid (ixF L ⟨true, b⟩ = none → puF L b pick = ((atF L 0 (pick % (L.length : Int)).toNat, 0), L.set (atF L 0 (pick % (L.length : Int)).toNat) ⟨true, b⟩)) := hidW (fun h => puF_at pick hr h)
  have HB : Hid (SOk ⟨true, b⟩) := ⟨hb, fun _ => hr, fun h => by cases h⟩
  have HOk := hidW hP.ok
  rw [hr] at HR
  have h1 := hP.lo
  have h2 := hP.hi
  have HE := hidW (eqB · b)
  clear hP hb hr
  generalize hl : L.length = n at *
  have HN : Hid (L.length = n) := hl
  clear hl
  obtain ⟨a1, a2, a3⟩ := tmod_rest pick n h1
  have hw1 : IntKind.i64.wrap (pick.tmod n) = pick.tmod n := by rw [IntKind.wrap_i64]; omega
  have hn0 : ¬ (n : Int) = 0 := by omega
  rw [if_neg ht] at a3
  rw [← a3] at hw1 ht
  have hq : pick.tmod n = pick % n := a3.symm
  clear a3
  have hz0 := Int.emod_nonneg pick (show (n : Int) ≠ 0 by omega)
  have hz1 := Int.emod_lt_of_pos pick (show (0 : Int) < n by omega)
  generalize hzz : pick % (n : Int) = zz at *
  clear hzz
  obtain ⟨z, rfl⟩ := Int.eq_ofNat_of_zero_le hz0
  rw [Int.toNat_natCast] at HG2
  clear hz0
  go_enter Tryd.func54, Tryd.ntmps54
  go_wp2_with (fail)
  go_at_call 69
  refine (HR.out _).mono ?_
  rintro e w1 ⟨rfl, hb⟩
  replace HX := hidW (HX.out.step hb)
  clear hb HR
  generalize hA : W.heap.size = A at HX ⊢
  clear hA
  go_wp2
  go_loopw [8] (fun i wr => ∃ k : Nat, k ≤ n ∧ i = .int .i64 k ∧ ixF (L.take k) ⟨true, b⟩ = none ∧ WX W wr p g A L b) (fun i _ => n - (intOf i).toNat)
  case atStart => exact ⟨0, by omega, rfl, rfl, HX.out⟩
  case round =>
    clear HX
    obtain ⟨k, hk, rfl, hq, hX⟩ := hrel
    have HX := hidW hX
    have HQ := hidW hq
    have cp := HX.out.pt.cell
    rw [HN.out] at cp
    clear hX hq
    by_cases hlt : k < n
    · obtain ⟨s, hs, hok, e0, e1, e2, e3, e4, e5, e6, e7, e8, e9⟩ := HX.out.pt.at (k := k) (by rw [HN.out]; exact hlt)
      have c0 := HX.out.box.cell
      have HS := hidW hs
      have hfs := full_same s b
      have he := HE.out s.b
      have HD := fun q => hidW (HX.out.drewN q)
      clear HX hs hok HB hw1 a1 a2
      obtain ⟨fu, sb⟩ := s
      dsimp only at *
      cases fu
      · have HQ2 := hidW (ix_no HS.out HQ.out (by rw [hfs]; rfl))
        clear HQ HS hfs
        go_wp2
        go_quiet (fail)
        go_wp2
        go_roundw
        case rel => exact ⟨k + 1, by omega, by go_num, HQ2.out, (HD _).out⟩
        case measure => simp [intOf]; omega
      · cases hm : sb.same b
        · have HQ2 := hidW (ix_no HS.out HQ.out (by rw [hfs, hm]; rfl))
          rw [hm] at he
          clear HQ HS hfs hm
          go_wp2
          go_quiet (fail)
          go_wp2
          go_roundw
          case rel => exact ⟨k + 1, by omega, by go_num, HQ2.out, (HD _).out⟩
          case measure => simp [intOf]; omega
        · have HQ2 := hidW (HG1.out k (ix_yes HS.out HQ.out (by rw [hfs, hm]; rfl)))
          rw [hm] at he
          clear HQ HS hfs hm
          go_wp2
          go_quiet (fail)
          go_wp2
          go_ret2
          exact ⟨by rw [HQ2.out]; rfl, by rw [HQ2.out]; exact (HD _).out.pt, Turn.below (HD _).out.bel⟩
    · obtain rfl : k = n := by omega
      have HG : Hid _ := hidW (HG2.out (by have := HQ.out; rw [← HN.out, List.take_length] at this; exact this))
      have hwr : IntKind.i64.wrap ((k : Int) - 1) = (k : Int) - 1 := by rw [IntKind.wrap_i64]; omega
      have c0 := HX.out.box.cell
      clear HG1 HG2 HQ HE
      generalize wr = wz at *
      go_wp2
      clear hwr hw1 hq ht
      go_loopw [9, 10] (fun a i wr => ∃ j : Nat, j ≤ k ∧ i = .int .i64 ((j : Int) - 1) ∧ a = .int .i64 (atF L j z : Nat) ∧ wr = wz) (fun _ i _ => (intOf i + 1).toNat)
      case atStart => exact ⟨k, by omega, rfl, by rw [← HN.out, atF_end], rfl⟩
      case round =>
        obtain ⟨j, hj, rfl, rfl, hww⟩ := hrel
        subst hww
        by_cases hj0 : 1 ≤ j
        · obtain ⟨i, rfl⟩ : ∃ i, j = i + 1 := ⟨j - 1, by omega⟩
          obtain ⟨s, hs, hok, e0, e1, e2, e3, e4, e5, e6, e7, e8, e9⟩ := HX.out.pt.at (k := i) (by rw [HN.out]; omega)
          have HS := hidW (atF_step hs z)
          have hem := empty_iff hok
          have hi1 : (((i + 1 : Nat) : Int) - 1) = (i : Int) := by omega
          rw [hi1]
          have hge : ¬ (i : Int) < 0 := by omega
          have hge2 : (0 : Int) ≤ i := by omega
          have hlt2 : i < k := by omega
          have hwr : IntKind.i64.wrap ((i : Int) - 1) = (i : Int) - 1 := by rw [IntKind.wrap_i64]; omega
          clear hs hok hi1
          obtain ⟨fu, sb⟩ := s
          dsimp only at *
          cases fu
          · have HQ2 : Hid (atF L i z = i) := by rw [hem] at HS; exact HS.out
            clear HS hem
            go_wp2
            go_roundw
            case rel => exact ⟨i, by omega, rfl, by rw [HQ2.out], (by first | rfl | trivial)⟩
            case measure => simp [intOf]
          · have HQ2 : Hid (atF L i z = atF L (i + 1) z) := by rw [hem] at HS; exact HS.out
            clear HS hem
            go_wp2
            go_roundw
            case rel => exact ⟨i, by omega, rfl, by rw [HQ2.out], (by first | rfl | trivial)⟩
            case measure => simp [intOf]
        · obtain rfl : j = 0 := by omega
          have hat : atF L 0 z < L.length := atF_lt L 0 z (by rw [HN.out]; omega)
          generalize atF L 0 z = m at *
          have hmk : m < k := by rw [HN.out] at hat; exact hat
          have HF := hidW (HX.out.pt.putT m b hat HB.out).drew
          have HT := hidW (turn_putT (w := wr) (S := (· = g)) rfl m b HX.out.pt.row.lt).drew
          have hne : A ≠ g := HX.out.box.ne HX.out.pt.row (by decide)
          have HEb := hidW (HX.out.box.turn HT.out hne)
          have f0 := HX.out.pt.row.frozen
          have l0 := HX.out.pt.row.lt
          have K1 : Hid (wr.drew.cell? ⟨p, 0, none⟩ = some (.slice (some ⟨g, 0, none⟩) k k) ∧ wr.drew.cell? ⟨A, 0, none⟩ = some (.int .i64 b.asid) ∧ wr.drew.cell? ⟨A, 1, none⟩ = some (.int .i64 b.t.size) ∧ wr.drew.cell? ⟨A, 2, none⟩ = some (.int .u32 b.t.va) ∧ wr.drew.cell? ⟨A, 3, none⟩ = some (.int .u64 b.t.pa) ∧ wr.drew.cell? ⟨A, 4, none⟩ = some (.int .i64 b.t.dom) ∧ wr.drew.cell? ⟨A, 5, none⟩ = some (.int .i64 b.t.ap) ∧ wr.drew.cell? ⟨A, 6, none⟩ = some (.int .u32 b.t.bits) ∧ wr.drew.cell? ⟨A, 7, none⟩ = some (.bool b.t.ng) ∧ wr.drew.cell? ⟨A, 8, none⟩ = some (.bool b.t.xn)) := hidW ⟨cp, HX.out.box.cell 0, HX.out.box.cell 1, HX.out.box.cell 2, HX.out.box.cell 3, HX.out.box.cell 4, HX.out.box.cell 5, HX.out.box.cell 6, HX.out.box.cell 7, HX.out.box.cell 8⟩
          have hFc := HF.out.cell
          rw [List.length_set, HN.out] at hFc
          have K2 : Hid (∀ w', w' = ((((((((((wr.setCell ⟨g, m * 10, none⟩ (.bool true)).setCell ⟨g, m * 10 + 1, none⟩ (.int .i64 b.asid)).setCell ⟨g, m * 10 + 2, none⟩ (.int .i64 b.t.size)).setCell ⟨g, m * 10 + 3, none⟩ (.int .u32 b.t.va)).setCell ⟨g, m * 10 + 4, none⟩ (.int .u64 b.t.pa)).setCell ⟨g, m * 10 + 5, none⟩ (.int .i64 b.t.dom)).setCell ⟨g, m * 10 + 6, none⟩ (.int .i64 b.t.ap)).setCell ⟨g, m * 10 + 7, none⟩ (.int .u32 b.t.bits)).setCell ⟨g, m * 10 + 8, none⟩ (.bool b.t.ng)).setCell ⟨g, m * 10 + 9, none⟩ (.bool b.t.xn)).drew → (w'.cell? ⟨p, 0, none⟩ = some (.slice (some ⟨g, 0, none⟩) k k) ∧ w'.cell? ⟨A, 0, none⟩ = some (.int .i64 b.asid) ∧ w'.cell? ⟨A, 1, none⟩ = some (.int .i64 b.t.size) ∧ w'.cell? ⟨A, 2, none⟩ = some (.int .u32 b.t.va) ∧ w'.cell? ⟨A, 3, none⟩ = some (.int .u64 b.t.pa) ∧ w'.cell? ⟨A, 4, none⟩ = some (.int .i64 b.t.dom) ∧ w'.cell? ⟨A, 5, none⟩ = some (.int .i64 b.t.ap) ∧ w'.cell? ⟨A, 6, none⟩ = some (.int .u32 b.t.bits) ∧ w'.cell? ⟨A, 7, none⟩ = some (.bool b.t.ng) ∧ w'.cell? ⟨A, 8, none⟩ = some (.bool b.t.xn))) := hidW (fun w' h => by subst h; exact ⟨hFc, HEb.out.cell 0, HEb.out.cell 1, HEb.out.cell 2, HEb.out.cell 3, HEb.out.cell 4, HEb.out.cell 5, HEb.out.cell 6, HEb.out.cell 7, HEb.out.cell 8⟩)
          clear hFc HEb
          obtain ⟨y0, _, _, x0, x1, x2, x3, x4, x5, x6, x7, x8, x9⟩ := HX.out.pt.at hat
          go_wp2
          refine wp_region_held_drew (S := fun w' => w'.cell? ⟨p, 0, none⟩ = some (.slice (some ⟨g, 0, none⟩) k k) ∧ w'.cell? ⟨A, 0, none⟩ = some (.int .i64 b.asid) ∧ w'.cell? ⟨A, 1, none⟩ = some (.int .i64 b.t.size) ∧ w'.cell? ⟨A, 2, none⟩ = some (.int .u32 b.t.va) ∧ w'.cell? ⟨A, 3, none⟩ = some (.int .u64 b.t.pa) ∧ w'.cell? ⟨A, 4, none⟩ = some (.int .i64 b.t.dom) ∧ w'.cell? ⟨A, 5, none⟩ = some (.int .i64 b.t.ap) ∧ w'.cell? ⟨A, 6, none⟩ = some (.int .u32 b.t.bits) ∧ w'.cell? ⟨A, 7, none⟩ = some (.bool b.t.ng) ∧ w'.cell? ⟨A, 8, none⟩ = some (.bool b.t.xn)) (by kernel_rfl) K1.out (fun hHeld => ?_)
          refine wpAnyH_take (i := 0) (oi := { dst := some 80, op := Op.move (Operand.tmp 0), type := 90, pos := _, after := #[], guard := none }) (v := ?_) rfl (by kernel_rfl) (by kernel_rfl) (by kernel_rfl) (fun _ _ _ h => h) (Or.inl ⟨by rfl, ?_⟩) (by assumption) ?_
          rotate_left
          · (intro w hSw; (try dsimp only at hSw); go_simp; try with_reducible rfl)
          simp only [Act.put, List.setIfInBounds_toArray, List.set_cons_zero, List.set_cons_succ]
          refine wpAnyH_take (i := 1) (oi := { dst := some 81, op := Op.nilCheck (Operand.tmp 80), type := 0, pos := _, after := #[{ on := 0, ground := Ground.data }], guard := none }) (v := ?_) rfl (by kernel_rfl) (by kernel_rfl) (by kernel_rfl) (fun _ _ _ h => h) (Or.inl ⟨by rfl, ?_⟩) (by assumption) ?_
          rotate_left
          · (intro w hSw; (try dsimp only at hSw); go_simp; try with_reducible rfl)
          simp only [Act.put, List.setIfInBounds_toArray, List.set_cons_zero, List.set_cons_succ]
          refine wpAnyH_take (i := 2) (oi := { dst := some 82, op := Op.fieldAddr 89 (Operand.tmp 81) 0, type := 0, pos := _, after := #[{ on := 1, ground := Ground.data }], guard := none }) (v := ?_) rfl (by kernel_rfl) (by kernel_rfl) (by kernel_rfl) (fun _ _ _ h => h) (Or.inl ⟨by rfl, ?_⟩) (by assumption) ?_
          rotate_left
          · (intro w hSw; (try dsimp only at hSw); go_simp; try with_reducible rfl)
          simp only [Act.put, List.setIfInBounds_toArray, List.set_cons_zero, List.set_cons_succ]
          refine wpAnyH_take (i := 3) (oi := { dst := some 83, op := Op.load 54 (Operand.tmp 82), type := 54, pos := _, after := #[{ on := 2, ground := Ground.data }], guard := none }) (v := ?_) rfl (by kernel_rfl) (by kernel_rfl) (by kernel_rfl) (fun _ _ _ h => h) (Or.inl ⟨by rfl, ?_⟩) (by assumption) ?_
          rotate_left
          · (intro w hSw; (try dsimp only at hSw); go_simp; try with_reducible rfl)
          simp only [Act.put, List.setIfInBounds_toArray, List.set_cons_zero, List.set_cons_succ]
          refine wpAnyH_take (i := 4) (oi := { dst := some 84, op := Op.move (Operand.tmp 9), type := 3, pos := _, after := #[], guard := none }) (v := ?_) rfl (by kernel_rfl) (by kernel_rfl) (by kernel_rfl) (fun _ _ _ h => h) (Or.inl ⟨by rfl, ?_⟩) (by assumption) ?_
          rotate_left
          · (intro w hSw; (try dsimp only at hSw); go_simp; try with_reducible rfl)
          simp only [Act.put, List.setIfInBounds_toArray, List.set_cons_zero, List.set_cons_succ]
          refine wpAnyH_take (i := 5) (oi := { dst := some 85, op := Op.load 38 (Operand.tmp 4), type := 38, pos := _, after := #[], guard := none }) (v := ?_) rfl (by kernel_rfl) (by kernel_rfl) (by kernel_rfl) (fun _ _ _ h => h) (Or.inl ⟨by rfl, ?_⟩) (by assumption) ?_
          rotate_left
          · (intro w hSw; (try dsimp only at hSw); go_simp; try with_reducible rfl)
          simp only [Act.put, List.setIfInBounds_toArray, List.set_cons_zero, List.set_cons_succ]
          refine wpAnyH_take (i := 6) (oi := { dst := some 86, op := Op.build 57 #[(0, Operand.const (Value.bool true)), (1, Operand.tmp 85)], type := 57, pos := _, after := #[{ on := 5, ground := Ground.data }], guard := none }) (v := ?_) rfl (by kernel_rfl) (by kernel_rfl) (by kernel_rfl) (fun _ _ _ h => h) (Or.inl ⟨by rfl, ?_⟩) (by assumption) ?_
          rotate_left
          · (intro w hSw; (try dsimp only at hSw); go_simp; try with_reducible rfl)
          simp only [Act.put, List.setIfInBounds_toArray, List.set_cons_zero, List.set_cons_succ]
          refine wpAnyH_take (i := 7) (oi := { dst := some 87, op := Op.indexAddr 54 (Operand.tmp 83) (Operand.tmp 84), type := 0, pos := _, after := #[{ on := 3, ground := Ground.data }, { on := 4, ground := Ground.data }, { on := 0, ground := Ground.phase }, { on := 1, ground := Ground.phase }, { on := 2, ground := Ground.phase }, { on := 3, ground := Ground.phase }, { on := 4, ground := Ground.phase }, { on := 5, ground := Ground.phase }, { on := 6, ground := Ground.phase }], guard := none }) (v := ?_) rfl (by kernel_rfl) (by kernel_rfl) (by kernel_rfl) (fun _ _ _ h => h) (Or.inl ⟨by rfl, ?_⟩) (by assumption) ?_
          rotate_left
          · (intro w hSw; (try dsimp only at hSw); go_simp; try with_reducible rfl)
          simp only [Act.put, List.setIfInBounds_toArray, List.set_cons_zero, List.set_cons_succ]
          refine wpAnyH_ready (rs := [8]) (by kernel_rfl) (by simp) ?_
          refine AllReadyH.cons (o := { dst := none, op := Op.store 57 (Operand.tmp 87) (Operand.tmp 86), type := 0, pos := _, after := #[{ on := 7, ground := Ground.data }, { on := 6, ground := Ground.data }, { on := 0, ground := Ground.phase }, { on := 1, ground := Ground.phase }, { on := 2, ground := Ground.phase }, { on := 3, ground := Ground.phase }, { on := 4, ground := Ground.phase }, { on := 5, ground := Ground.phase }, { on := 6, ground := Ground.phase }], guard := none }) rfl (fun K hK => ?_) AllReadyH.nil
          go_simp
          skip
          refine hK.out _ _ ?_ (fun hHeld => ?_)
          · ((try dsimp only); with_reducible exact K2.out _ rfl)
          clear hK K
          try simp only [Act.put, List.setIfInBounds_toArray, List.set_cons_zero, List.set_cons_succ]
          refine wpAnyH_done (by kernel_rfl) ?_ _
          go_wp2
          go_ret2
          exact ⟨by rw [HG.out]; rfl, by rw [HG.out]; with_reducible exact HF.out, (Turn.below HX.out.bel).trans HT.out (fun x hx => .inl hx)⟩
theorem uput_any (W : World) (p g : Nat) (L : List Slo) (b : Blo) (pick : Int) (hP : PT 89 W p g L) (hb : BOk b) :
    Calls Tryd.prog 54 #[.pointer (some ⟨p, 0, none⟩), .agg #[.int .i64 b.asid, .int .i64 b.t.size, .int .u32 b.t.va, .int .u64 b.t.pa, .int .i64 b.t.dom, .int .i64 b.t.ap, .int .u32 b.t.bits, .bool b.t.ng, .bool b.t.xn], .int .i64 pick] W fun e w' => e = .returned (.tuple #[.int .i64 ((puF L b pick).1.1 : Nat), .int .i64 (puF L b pick).1.2]) ∧ PT 89 w' p g (puF L b pick).2 ∧ Turn (· = g) W w' := by
  cases hr : bR b
  · exact uput_no W p g L b pick hP hb hr
  · by_cases ht : pick.tmod (L.length : Int) < 0
    · exact uput_yes1 W p g L b pick hP hb hr ht
    · exact uput_yes2 W p g L b pick hP hb hr ht
end Go.Proofs.YtbbnodhpafiplaaDoor
