import Derived.Test.YtliiblaodhcjhaaTKindQ
import Derived.Test.YtliiblaodhcjhaaRSpW
import Derived.Deep.RegionHeld3
namespace Go.Proofs.Ytliiblaodhcjhaa.T
open Go.RowKit
set_option linter.unusedVariables false

set_option maxHeartbeats 6000000 in
set_option maxRecDepth 100000 in
theorem law_kinds (W : World) (a : Option Addr) (cap : Nat) (ops : List Op4) (S : Script W a ops) (hs : ops.length ≤ 1048576) :
    Calls Try.prog 8 #[.slice a ops.length cap] W fun e W' => e = .returned (.bool true) ∧ Below W.heap.size W W' := by
  have hM0 := (MapAt.new W W.heap.size (Nat.le_refl _)).keep (below_alloc (Below.refl _ _) (.cells #[.slice none 0 0] 69))
  have hR0 := RefAt.new (W.alloc (.cells #[.slice none 0 0] 99)) W.heap.size (by rw [World.size_alloc]; exact Nat.le_succ _)
  rw [World.size_alloc] at hR0
  have hB0 := below_alloc (below_alloc (Below.refl W.heap.size W) (.cells #[.slice none 0 0] 99)) (.cells #[.slice none 0 0] 69)
  have HS : Hid (Script W a ops) := S
  clear S
  generalize hn : ops.length = n at *
  have HN : Hid (ops.length = n) := hn
  clear hn
  go_enter Try.func8, Try.ntmps8
  go_wp2_with (go_at_call 29; refine (new_any _).mono ?_; rintro e w' ⟨rfl, rfl⟩)
  refine (live_any _).mono ?_
  rintro e w1 ⟨rfl, hb1⟩
  have hM1 := hM0.keep hb1
  have hR1 := hR0.keep hb1
  have hB1 := below_go hB0 hb1
  clear hM0 hB0 hb1 hR0
  go_wp2_with (fail)
  go_loopw [5] (fun si wr => ∃ (k : Nat), k ≤ n ∧ si = .int .i64 k ∧ Hid (∃ L D v u, MapAt wr W.heap.size W.heap.size v L ∧ RefAt wr W.heap.size (W.heap.size + 1) u D ∧ BothT L D ∧ L.length ≤ 2 * k ∧ D.length ≤ k) ∧ Hid (Below W.heap.size W wr)) (fun si _ => n - (intOf si).toNat)
  case atStart => exact ⟨0, Nat.zero_le _, rfl, ⟨_, _, _, _, hM1, hR1, fun _ _ _ => rfl, Nat.zero_le _, Nat.zero_le _⟩, hB1⟩
  case round =>
    obtain ⟨k, hk, rfl, HL, HB⟩ := hrel
    clear hM1 hB1 hR1
    by_cases hlt : k < n
    · obtain ⟨o, ho⟩ : ∃ o, ops[k]? = some o := ⟨_, List.getElem?_eq_getElem (by rw [HN.out]; exact hlt)⟩
      obtain ⟨b, off, rfl, hbl, e0, e1, e2, e3⟩ := HS.out.lies k o ho
      obtain ⟨⟨r1, r2⟩, ⟨r3, r4⟩, ⟨r5, r6⟩, ⟨r7, r8⟩⟩ := HS.out.rng o (List.mem_of_getElem? ho)
      obtain ⟨hcc, _⟩ := bcell HB.out
      rw [← hcc b _ hbl] at e0 e1 e2 e3
      clear hcc ho
      obtain ⟨L, D, v, u, hM, hR, hBo, hLl, hDl⟩ := HL.out
      clear HL
      have hltz : (k : Int) < (n : Int) := by omega
      have hk0 : (0 : Int) ≤ (k : Int) := by omega
      have hszL : (L.length + 4) * 32 ≤ 140737488355328 := by omega
      have hDs : D.length ≤ 2097152 := by omega
      have hba := below_alloc (Below.refl wr.heap.size wr) (.cells #[.int .i64 o.kind, .int .u64 o.lo, .int .u64 o.hi, .int .i64 o.val] 28)
      have hK0 : KS W (wr.alloc (.cells #[.int .i64 o.kind, .int .u64 o.lo, .int .u64 o.hi, .int .i64 o.val] 28)) W.heap.size W.heap.size (W.heap.size + 1) wr.heap.size L D o := ⟨⟨v, hM.keep hba⟩, ⟨u, hR.keep hba⟩, Nat.le_refl _, below_alloc HB.out _, heap_alloc_new wr _⟩
      have hgd := hM.good
      have HBo : Hid (BothT L D) := hBo
      clear hM hR hBo
      by_cases hk1 : o.kind = 1
      · have hk2 : (o.kind == 1) = true := by simp [hk1]
        have hk3 : (o.kind == 2) = false := by simp [hk1]
        have hK := hK0.keep (Below.refl _ _).drew
        clear hk1 hK0
        go_wp2
        go_region_held3 (fun w' => w'.cell? ⟨wr.heap.size, 0, none⟩ = some (.int .i64 o.kind) ∧ w'.cell? ⟨wr.heap.size, 1, none⟩ = some (.int .u64 o.lo) ∧ w'.cell? ⟨wr.heap.size, 2, none⟩ = some (.int .u64 o.hi) ∧ w'.cell? ⟨wr.heap.size, 3, none⟩ = some (.int .i64 o.val)) (first | go_keep | exact hK.cells)
          ((first
            | (go_at_call 31; refine (tag_ks hK o.val).mono ?_; rintro e wT ⟨rfl, hK⟩)
            | (go_at_call 30; refine (set_ks hK o.lo o.hi (tagF o.val) hszL r1 r4).mono ?_; rintro e wA ⟨rfl, hK⟩)
            | (go_at_call 32; refine (rset_ks hK o.lo o.hi o.val hDs r1 r4).mono ?_; rintro e wC ⟨rfl, hK⟩)
            | (go_at_call 14; refine (no_any _ _).mono ?_; rintro e wN ⟨rfl, rfl⟩)))
        obtain ⟨c0, c1, c2, c3⟩ := hK.cells
        go_wp2_with (fail)
        go_quiet (fail)
        obtain ⟨w4, hw4⟩ : ∃ w4, w4 = wC.drewN nq := ⟨_, rfl⟩
        rw [← hw4]
        have hK := hK.keep (W' := w4) (by rw [hw4]; exact grown_below (grownBy_drewN wC none nq))
        clear hw4
        obtain ⟨c0, c1, c2, c3⟩ := hK.cells
        go_wp2_with (fail)
        have hBT : BothT (setR L o.lo o.hi (tagF o.val)) (didR D ⟨o.lo, o.hi, true, o.val⟩) := bothT_set HBo.out hgd r1 r4 o.val
        have hl2 : (setR L o.lo o.hi (tagF o.val)).length ≤ L.length + 2 := setR_len' hgd r1 r4 (tagF o.val)
        have hd2 : (didR D ⟨o.lo, o.hi, true, o.val⟩).length ≤ D.length + 1 := by rw [didR]; split <;> simp
        generalize hLe : setR L o.lo o.hi (tagF o.val) = L' at *
        generalize hDe : didR D ⟨o.lo, o.hi, true, o.val⟩ = D' at *
        clear hLe hDe
        have hgl := hBT o.lo r1 r2
        have HBT : Hid (BothT L' D') := hBT
        obtain ⟨c0, c1, c2, c3⟩ := hK.cells
        have hC := get_ks hK o.lo (by omega)
        rw [hgl] at hC
        clear hBT hgl HBo hszL hDs hgd
        cases hr : refG D' o.lo with
        | none =>
          rw [hr] at hC
          simp only [Option.map, getV] at hC
          refine hC.mono ?_
          rintro e wG ⟨rfl, hKG, hbG⟩
          obtain ⟨_, d1, _, _⟩ := hKG.cells
          have hlG := hKG.lt
          have hbx := below_alloc (Below.refl wG.heap.size wG) (.cells #[.int .i64 0, .bool false] 65)
          have hC2 := rget_ks (hKG.keep hbx) o.lo (by omega)
          rw [hr] at hC2
          simp only [Go.Proofs.Ytliiblaodhcjhaa.getV] at hC2
          clear hC hK hbG
          go_wp2_with (fail)
          refine hC2.mono ?_
          rintro e wH ⟨rfl, hKH, hbH⟩
          have t0 : wH.cell? ⟨wG.heap.size, 0, none⟩ = some (.int .i64 0) := ((bcell hbH).1 _ _ (by simp)).trans (by simp [go_sem])
          have t1 : wH.cell? ⟨wG.heap.size, 1, none⟩ = some (.bool false) := ((bcell hbH).1 _ _ (by simp)).trans (by simp [go_sem])
          have hq := neq_tag
          clear hC2 hr hKG hbx
          have hzG : wG.heap.size < wH.heap.size := by have := hbH.size; simp at this; omega
          have tz0 : (tagF 0).1 = 0 := by decide
          have tz1 : (tagF 0).2 = false := by decide
          go_wp2_with (fail)
          go_region_held3 (fun w' => w'.cell? ⟨wG.heap.size, 0, none⟩ = some (.int .i64 0) ∧ w'.cell? ⟨wG.heap.size, 1, none⟩ = some (.bool false)) (first | go_keep | exact ⟨z0, z1⟩)
            ((first
              | (go_at_call 31; refine (tag_any 0 _).mono ?_; rintro e wI ⟨rfl, hbI⟩; have z0 : wI.cell? ⟨wG.heap.size, 0, none⟩ = some (.int .i64 0) := ((bcell hbI).1 _ _ hzG).trans t0; have z1 : wI.cell? ⟨wG.heap.size, 1, none⟩ = some (.bool false) := ((bcell hbI).1 _ _ hzG).trans t1)
              | fail))
          have hKI := (hKH.keep (Below.refl _ _).drew).keep hbI
          clear hKH hbI hbH t0 t1
          go_wp2
          go_roundw
          case rel =>
            obtain ⟨v', hm⟩ := hKI.map
            obtain ⟨u', hr'⟩ := hKI.ref
            exact ⟨k + 1, by omega, by go_num, ⟨L', D', v', u', hm, hr', HBT.out, by omega, by omega⟩, hKI.bel⟩
          case measure => simp [intOf]; omega
        | some x =>
          rw [hr] at hC
          simp only [Option.map, getV] at hC
          refine hC.mono ?_
          rintro e wG ⟨rfl, hKG, hbG⟩
          obtain ⟨_, d1, _, _⟩ := hKG.cells
          have hlG := hKG.lt
          have hbx := below_alloc (Below.refl wG.heap.size wG) (.cells #[.int .i64 (tagF x).1, .bool (tagF x).2] 65)
          have hC2 := rget_ks (hKG.keep hbx) o.lo (by omega)
          rw [hr] at hC2
          simp only [Go.Proofs.Ytliiblaodhcjhaa.getV] at hC2
          clear hC hK hbG
          go_wp2_with (fail)
          refine hC2.mono ?_
          rintro e wH ⟨rfl, hKH, hbH⟩
          have t0 : wH.cell? ⟨wG.heap.size, 0, none⟩ = some (.int .i64 (tagF x).1) := ((bcell hbH).1 _ _ (by simp)).trans (by simp [go_sem])
          have t1 : wH.cell? ⟨wG.heap.size, 1, none⟩ = some (.bool (tagF x).2) := ((bcell hbH).1 _ _ (by simp)).trans (by simp [go_sem])
          have hq := neq_tag
          clear hC2 hr hKG hbx
          have hzG : wG.heap.size < wH.heap.size := by have := hbH.size; simp at this; omega
          have tz0 : (tagF 0).1 = 0 := by decide
          have tz1 : (tagF 0).2 = false := by decide
          go_wp2_with (fail)
          go_region_held3 (fun w' => w'.cell? ⟨wG.heap.size, 0, none⟩ = some (.int .i64 (tagF x).1) ∧ w'.cell? ⟨wG.heap.size, 1, none⟩ = some (.bool (tagF x).2)) (first | go_keep | exact ⟨z0, z1⟩)
            ((first
              | (go_at_call 31; refine (tag_any x _).mono ?_; rintro e wI ⟨rfl, hbI⟩; have z0 : wI.cell? ⟨wG.heap.size, 0, none⟩ = some (.int .i64 (tagF x).1) := ((bcell hbI).1 _ _ hzG).trans t0; have z1 : wI.cell? ⟨wG.heap.size, 1, none⟩ = some (.bool (tagF x).2) := ((bcell hbI).1 _ _ hzG).trans t1)
              | fail))
          have hKI := (hKH.keep (Below.refl _ _).drew).keep hbI
          clear hKH hbI hbH t0 t1
          go_wp2
          go_roundw
          case rel =>
            obtain ⟨v', hm⟩ := hKI.map
            obtain ⟨u', hr'⟩ := hKI.ref
            exact ⟨k + 1, by omega, by go_num, ⟨L', D', v', u', hm, hr', HBT.out, by omega, by omega⟩, hKI.bel⟩
          case measure => simp [intOf]; omega
      · by_cases hk4 : o.kind = 2
        · have hk2 : (o.kind == 1) = false := by simp [hk1]
          have hk3 : (o.kind == 2) = true := by simp [hk4]
          have hK := hK0
          clear hk1 hk4 hK0
          go_wp2
          go_quiet (fail)
          obtain ⟨w3, hw4⟩ : ∃ w4, w4 = (wr.alloc (.cells #[.int .i64 o.kind, .int .u64 o.lo, .int .u64 o.hi, .int .i64 o.val] 28)).drewN nq := ⟨_, rfl⟩
          rw [← hw4]
          have hK := hK.keep (W' := w3) (by rw [hw4]; exact grown_below (grownBy_drewN (wr.alloc (.cells #[.int .i64 o.kind, .int .u64 o.lo, .int .u64 o.hi, .int .i64 o.val] 28)) none nq))
          clear hw4
          obtain ⟨c0, c1, c2, c3⟩ := hK.cells
          go_wp2_with (fail)
          have hK := hK.keep (Below.refl _ _).drew
          go_region_held3 (fun w' => w'.cell? ⟨wr.heap.size, 0, none⟩ = some (.int .i64 o.kind) ∧ w'.cell? ⟨wr.heap.size, 1, none⟩ = some (.int .u64 o.lo) ∧ w'.cell? ⟨wr.heap.size, 2, none⟩ = some (.int .u64 o.hi) ∧ w'.cell? ⟨wr.heap.size, 3, none⟩ = some (.int .i64 o.val)) (first | go_keep | exact hK.cells)
            ((first
              | (go_at_call 33; refine (clear_ks hK o.lo o.hi hszL r1 r4).mono ?_; rintro e wA ⟨rfl, hK⟩)
              | (go_at_call 34; refine (rclear_ks hK o.lo o.hi hDs r1 r4).mono ?_; rintro e wC ⟨rfl, hK⟩)
              | (go_at_call 14; refine (no_any _ _).mono ?_; rintro e wN ⟨rfl, rfl⟩)))
          obtain ⟨c0, c1, c2, c3⟩ := hK.cells
          go_wp2_with (fail)
          have hBT : BothT (clearR L o.lo o.hi) (didR D ⟨o.lo, o.hi, false, 0⟩) := bothT_clear HBo.out hgd
          have hl2 : (clearR L o.lo o.hi).length ≤ L.length + 2 := clearR_len' hgd
          have hd2 : (didR D ⟨o.lo, o.hi, false, 0⟩).length ≤ D.length + 1 := by rw [didR]; split <;> simp
          generalize hLe : clearR L o.lo o.hi = L' at *
          generalize hDe : didR D ⟨o.lo, o.hi, false, 0⟩ = D' at *
          clear hLe hDe
          have hgl := hBT o.lo r1 r2
          have HBT : Hid (BothT L' D') := hBT
          obtain ⟨c0, c1, c2, c3⟩ := hK.cells
          have hC := get_ks hK o.lo (by omega)
          rw [hgl] at hC
          clear hBT hgl HBo hszL hDs hgd
          cases hr : refG D' o.lo with
          | none =>
            rw [hr] at hC
            simp only [Option.map, getV] at hC
            refine hC.mono ?_
            rintro e wG ⟨rfl, hKG, hbG⟩
            obtain ⟨_, d1, _, _⟩ := hKG.cells
            have hlG := hKG.lt
            have hbx := below_alloc (Below.refl wG.heap.size wG) (.cells #[.int .i64 0, .bool false] 65)
            have hC2 := rget_ks (hKG.keep hbx) o.lo (by omega)
            rw [hr] at hC2
            simp only [Go.Proofs.Ytliiblaodhcjhaa.getV] at hC2
            clear hC hK hbG
            go_wp2_with (fail)
            refine hC2.mono ?_
            rintro e wH ⟨rfl, hKH, hbH⟩
            have t0 : wH.cell? ⟨wG.heap.size, 0, none⟩ = some (.int .i64 0) := ((bcell hbH).1 _ _ (by simp)).trans (by simp [go_sem])
            have t1 : wH.cell? ⟨wG.heap.size, 1, none⟩ = some (.bool false) := ((bcell hbH).1 _ _ (by simp)).trans (by simp [go_sem])
            have hq := neq_tag
            clear hC2 hr hKG hbx
            have hzG : wG.heap.size < wH.heap.size := by have := hbH.size; simp at this; omega
            have tz0 : (tagF 0).1 = 0 := by decide
            have tz1 : (tagF 0).2 = false := by decide
            go_wp2_with (fail)
            go_region_held3 (fun w' => w'.cell? ⟨wG.heap.size, 0, none⟩ = some (.int .i64 0) ∧ w'.cell? ⟨wG.heap.size, 1, none⟩ = some (.bool false)) (first | go_keep | exact ⟨z0, z1⟩)
              ((first
                | (go_at_call 31; refine (tag_any 0 _).mono ?_; rintro e wI ⟨rfl, hbI⟩; have z0 : wI.cell? ⟨wG.heap.size, 0, none⟩ = some (.int .i64 0) := ((bcell hbI).1 _ _ hzG).trans t0; have z1 : wI.cell? ⟨wG.heap.size, 1, none⟩ = some (.bool false) := ((bcell hbI).1 _ _ hzG).trans t1)
                | fail))
            have hKI := (hKH.keep (Below.refl _ _).drew).keep hbI
            clear hKH hbI hbH t0 t1
            go_wp2
            go_roundw
            case rel =>
              obtain ⟨v', hm⟩ := hKI.map
              obtain ⟨u', hr'⟩ := hKI.ref
              exact ⟨k + 1, by omega, by go_num, ⟨L', D', v', u', hm, hr', HBT.out, by omega, by omega⟩, hKI.bel⟩
            case measure => simp [intOf]; omega
          | some x =>
            rw [hr] at hC
            simp only [Option.map, getV] at hC
            refine hC.mono ?_
            rintro e wG ⟨rfl, hKG, hbG⟩
            obtain ⟨_, d1, _, _⟩ := hKG.cells
            have hlG := hKG.lt
            have hbx := below_alloc (Below.refl wG.heap.size wG) (.cells #[.int .i64 (tagF x).1, .bool (tagF x).2] 65)
            have hC2 := rget_ks (hKG.keep hbx) o.lo (by omega)
            rw [hr] at hC2
            simp only [Go.Proofs.Ytliiblaodhcjhaa.getV] at hC2
            clear hC hK hbG
            go_wp2_with (fail)
            refine hC2.mono ?_
            rintro e wH ⟨rfl, hKH, hbH⟩
            have t0 : wH.cell? ⟨wG.heap.size, 0, none⟩ = some (.int .i64 (tagF x).1) := ((bcell hbH).1 _ _ (by simp)).trans (by simp [go_sem])
            have t1 : wH.cell? ⟨wG.heap.size, 1, none⟩ = some (.bool (tagF x).2) := ((bcell hbH).1 _ _ (by simp)).trans (by simp [go_sem])
            have hq := neq_tag
            clear hC2 hr hKG hbx
            have hzG : wG.heap.size < wH.heap.size := by have := hbH.size; simp at this; omega
            have tz0 : (tagF 0).1 = 0 := by decide
            have tz1 : (tagF 0).2 = false := by decide
            go_wp2_with (fail)
            go_region_held3 (fun w' => w'.cell? ⟨wG.heap.size, 0, none⟩ = some (.int .i64 (tagF x).1) ∧ w'.cell? ⟨wG.heap.size, 1, none⟩ = some (.bool (tagF x).2)) (first | go_keep | exact ⟨z0, z1⟩)
              ((first
                | (go_at_call 31; refine (tag_any x _).mono ?_; rintro e wI ⟨rfl, hbI⟩; have z0 : wI.cell? ⟨wG.heap.size, 0, none⟩ = some (.int .i64 (tagF x).1) := ((bcell hbI).1 _ _ hzG).trans t0; have z1 : wI.cell? ⟨wG.heap.size, 1, none⟩ = some (.bool (tagF x).2) := ((bcell hbI).1 _ _ hzG).trans t1)
                | fail))
            have hKI := (hKH.keep (Below.refl _ _).drew).keep hbI
            clear hKH hbI hbH t0 t1
            go_wp2
            go_roundw
            case rel =>
              obtain ⟨v', hm⟩ := hKI.map
              obtain ⟨u', hr'⟩ := hKI.ref
              exact ⟨k + 1, by omega, by go_num, ⟨L', D', v', u', hm, hr', HBT.out, by omega, by omega⟩, hKI.bel⟩
            case measure => simp [intOf]; omega
        · have hk2 : (o.kind == 1) = false := by simp [hk1]
          have hk3 : (o.kind == 2) = false := by simp [hk4]
          have hK := hK0
          clear hk1 hk4 hK0
          go_wp2
          go_quiet (fail)
          obtain ⟨w3, hw4⟩ : ∃ w4, w4 = (wr.alloc (.cells #[.int .i64 o.kind, .int .u64 o.lo, .int .u64 o.hi, .int .i64 o.val] 28)).drewN nq := ⟨_, rfl⟩
          rw [← hw4]
          have hK := hK.keep (W' := w3) (by rw [hw4]; exact grown_below (grownBy_drewN (wr.alloc (.cells #[.int .i64 o.kind, .int .u64 o.lo, .int .u64 o.hi, .int .i64 o.val] 28)) none nq))
          clear hw4
          obtain ⟨c0, c1, c2, c3⟩ := hK.cells
          go_wp2_with (fail)
          go_quiet (fail)
          obtain ⟨w4, hw4⟩ : ∃ w4, w4 = w3.drewN nq := ⟨_, rfl⟩
          rw [← hw4]
          have hK := hK.keep (W' := w4) (by rw [hw4]; exact grown_below (grownBy_drewN w3 none nq))
          clear hw4
          obtain ⟨c0, c1, c2, c3⟩ := hK.cells
          go_wp2_with (fail)
          have hBT : BothT (L) (D) := HBo.out
          have hl2 : (L).length ≤ L.length + 2 := by omega
          have hd2 : (D).length ≤ D.length + 1 := by omega
          have hgl := hBT o.lo r1 r2
          have HBT : Hid (BothT L D) := hBT
          obtain ⟨c0, c1, c2, c3⟩ := hK.cells
          have hC := get_ks hK o.lo (by omega)
          rw [hgl] at hC
          clear hBT hgl HBo hszL hDs hgd
          cases hr : refG D o.lo with
          | none =>
            rw [hr] at hC
            simp only [Option.map, getV] at hC
            refine hC.mono ?_
            rintro e wG ⟨rfl, hKG, hbG⟩
            obtain ⟨_, d1, _, _⟩ := hKG.cells
            have hlG := hKG.lt
            have hbx := below_alloc (Below.refl wG.heap.size wG) (.cells #[.int .i64 0, .bool false] 65)
            have hC2 := rget_ks (hKG.keep hbx) o.lo (by omega)
            rw [hr] at hC2
            simp only [Go.Proofs.Ytliiblaodhcjhaa.getV] at hC2
            clear hC hK hbG
            go_wp2_with (fail)
            refine hC2.mono ?_
            rintro e wH ⟨rfl, hKH, hbH⟩
            have t0 : wH.cell? ⟨wG.heap.size, 0, none⟩ = some (.int .i64 0) := ((bcell hbH).1 _ _ (by simp)).trans (by simp [go_sem])
            have t1 : wH.cell? ⟨wG.heap.size, 1, none⟩ = some (.bool false) := ((bcell hbH).1 _ _ (by simp)).trans (by simp [go_sem])
            have hq := neq_tag
            clear hC2 hr hKG hbx
            have hzG : wG.heap.size < wH.heap.size := by have := hbH.size; simp at this; omega
            have tz0 : (tagF 0).1 = 0 := by decide
            have tz1 : (tagF 0).2 = false := by decide
            go_wp2_with (fail)
            go_region_held3 (fun w' => w'.cell? ⟨wG.heap.size, 0, none⟩ = some (.int .i64 0) ∧ w'.cell? ⟨wG.heap.size, 1, none⟩ = some (.bool false)) (first | go_keep | exact ⟨z0, z1⟩)
              ((first
                | (go_at_call 31; refine (tag_any 0 _).mono ?_; rintro e wI ⟨rfl, hbI⟩; have z0 : wI.cell? ⟨wG.heap.size, 0, none⟩ = some (.int .i64 0) := ((bcell hbI).1 _ _ hzG).trans t0; have z1 : wI.cell? ⟨wG.heap.size, 1, none⟩ = some (.bool false) := ((bcell hbI).1 _ _ hzG).trans t1)
                | fail))
            have hKI := (hKH.keep (Below.refl _ _).drew).keep hbI
            clear hKH hbI hbH t0 t1
            go_wp2
            go_roundw
            case rel =>
              obtain ⟨v', hm⟩ := hKI.map
              obtain ⟨u', hr'⟩ := hKI.ref
              exact ⟨k + 1, by omega, by go_num, ⟨L, D, v', u', hm, hr', HBT.out, by omega, by omega⟩, hKI.bel⟩
            case measure => simp [intOf]; omega
          | some x =>
            rw [hr] at hC
            simp only [Option.map, getV] at hC
            refine hC.mono ?_
            rintro e wG ⟨rfl, hKG, hbG⟩
            obtain ⟨_, d1, _, _⟩ := hKG.cells
            have hlG := hKG.lt
            have hbx := below_alloc (Below.refl wG.heap.size wG) (.cells #[.int .i64 (tagF x).1, .bool (tagF x).2] 65)
            have hC2 := rget_ks (hKG.keep hbx) o.lo (by omega)
            rw [hr] at hC2
            simp only [Go.Proofs.Ytliiblaodhcjhaa.getV] at hC2
            clear hC hK hbG
            go_wp2_with (fail)
            refine hC2.mono ?_
            rintro e wH ⟨rfl, hKH, hbH⟩
            have t0 : wH.cell? ⟨wG.heap.size, 0, none⟩ = some (.int .i64 (tagF x).1) := ((bcell hbH).1 _ _ (by simp)).trans (by simp [go_sem])
            have t1 : wH.cell? ⟨wG.heap.size, 1, none⟩ = some (.bool (tagF x).2) := ((bcell hbH).1 _ _ (by simp)).trans (by simp [go_sem])
            have hq := neq_tag
            clear hC2 hr hKG hbx
            have hzG : wG.heap.size < wH.heap.size := by have := hbH.size; simp at this; omega
            have tz0 : (tagF 0).1 = 0 := by decide
            have tz1 : (tagF 0).2 = false := by decide
            go_wp2_with (fail)
            go_region_held3 (fun w' => w'.cell? ⟨wG.heap.size, 0, none⟩ = some (.int .i64 (tagF x).1) ∧ w'.cell? ⟨wG.heap.size, 1, none⟩ = some (.bool (tagF x).2)) (first | go_keep | exact ⟨z0, z1⟩)
              ((first
                | (go_at_call 31; refine (tag_any x _).mono ?_; rintro e wI ⟨rfl, hbI⟩; have z0 : wI.cell? ⟨wG.heap.size, 0, none⟩ = some (.int .i64 (tagF x).1) := ((bcell hbI).1 _ _ hzG).trans t0; have z1 : wI.cell? ⟨wG.heap.size, 1, none⟩ = some (.bool (tagF x).2) := ((bcell hbI).1 _ _ hzG).trans t1)
                | fail))
            have hKI := (hKH.keep (Below.refl _ _).drew).keep hbI
            clear hKH hbI hbH t0 t1
            go_wp2
            go_roundw
            case rel =>
              obtain ⟨v', hm⟩ := hKI.map
              obtain ⟨u', hr'⟩ := hKI.ref
              exact ⟨k + 1, by omega, by go_num, ⟨L, D, v', u', hm, hr', HBT.out, by omega, by omega⟩, hKI.bel⟩
            case measure => simp [intOf]; omega
    · obtain rfl : k = n := by omega
      obtain ⟨L, D, v, u, hM, hR, hBo, hLl, hDl⟩ := HL.out
      have hBz := HB.out
      clear HL HB
      generalize wr = wz at *
      have hC := spans_any wz _ W.heap.size v L hM (by omega)
      go_wp2_with (fail)
      refine hC.mono ?_
      rintro e w2 ⟨vl, rfl, hLs, hb2⟩
      have hR2 := hR.keep hb2
      have hM2 := hM.keep hb2
      have hB2 := below_go hBz hb2
      have hC2 := rspans_any w2 _ (W.heap.size + 1) u D hR2 (by omega)
      have hgd := hM.good
      obtain ⟨la, lc, rfl⟩ := slice_form hLs
      clear hC hR hM hBz hb2
      go_wp2_with (fail)
      refine hC2.mono ?_
      rintro e w3 ⟨vk, rfl, ⟨R, hRr, hRg, hRe, hRl⟩, hb3⟩
      have HE : L = mapS tagF R := hgd.uniq (mapS_good tagF_inj hRg) (fun k h0 h1 => by rw [hBo k h0 h1, mapS_get, hRe k h0 h1])
      have hlen : L.length = R.length := by rw [HE]; simp [mapS]
      have hM3 := hM2.keep hb3
      have hB3 := below_go hB2 hb3
      have hLs3 := hLs.keep hb3 (fun g hg => (hLs.lt g hg).2)
      obtain ⟨ka, kc, hkv, hkc⟩ := Lr.view hRr
      subst hkv
      have HV : Hid (∀ i s, R[i]? = some s → (∃ g, la = some ⟨g, 0, none⟩ ∧ g < w3.heap.size ∧ w3.cell? ⟨g, i * 4, none⟩ = some (.int .u64 s.lo) ∧ w3.cell? ⟨g, i * 4 + 1, none⟩ = some (.int .u64 s.hi) ∧ w3.cell? ⟨g, i * 4 + 2, none⟩ = some (.int .i64 (tagF s.val).1) ∧ w3.cell? ⟨g, i * 4 + 2 + 1, none⟩ = some (.bool (tagF s.val).2)) ∧
          ∃ g, ka = some ⟨g, 0, none⟩ ∧ g < w3.heap.size ∧ w3.cell? ⟨g, i * 3, none⟩ = some (.int .u64 s.lo) ∧ w3.cell? ⟨g, i * 3 + 1, none⟩ = some (.int .u64 s.hi) ∧ w3.cell? ⟨g, i * 3 + 2, none⟩ = some (.int .i64 s.val)) := by
        intro i s hs'
        constructor
        · have hsL : L[i]? = some ⟨s.lo, s.hi, tagF s.val⟩ := by rw [HE, mapS, List.getElem?_map, hs']; rfl
          rcases hLs3.view with ⟨h1, h2⟩ | ⟨g, cap, h1, h2, h3, h4, h5, h6⟩
          · rw [h2] at hsL
            simp at hsL
          · cases h1
            have q0 := h6 i _ hsL 0 (by omega)
            have q1 := h6 i _ hsL 1 (by omega)
            have q2 := h6 i _ hsL 2 (by omega)
            have q3 := h6 i _ hsL 3 (by omega)
            simp only [encS, Nat.add_zero, List.getElem?_cons_zero, List.getElem?_cons_succ] at q0 q1 q2 q3
            exact ⟨g, rfl, h3, q0, q1, q2, q3⟩
        · obtain ⟨g, h1, h2, h3, h4, h5, h6, h7⟩ := hkc i s hs'
          exact ⟨g, h1, h3, h4, h5, h6⟩
      have hC := len_any w3 _ _ _ L hM3
      rw [hlen] at hC ⊢
      clear hC2 hLs hLs3 hkc hRe hBo hgd hRg HE hM2 hR2 hM3 hb3 hB2 hRr
      have hmm : R.length ≤ 3000000 := by omega
      generalize hm : R.length = m at *
      have HMl : Hid (R.length = m) := hm
      clear hm
      go_wp2_with (fail)
      refine hC.mono ?_
      rintro e w4 ⟨rfl, rfl⟩
      clear hC
      go_wp2_with (fail)
      go_loopw [13] (fun si wr => ∃ (q : Nat), q ≤ m ∧ si = .int .i64 q ∧ Hid (Below w3.heap.size w3 wr)) (fun si _ => m - (intOf si).toNat)
      case atStart => exact ⟨0, Nat.zero_le _, rfl, Below.refl _ _⟩
      case round =>
        obtain ⟨q, hq, rfl, HB⟩ := hrel
        by_cases hqm : q < m
        · obtain ⟨s, hsq⟩ : ∃ s, R[q]? = some s := ⟨_, List.getElem?_eq_getElem (by rw [HMl.out]; exact hqm)⟩
          obtain ⟨⟨g, rfl, hgl, q0, q1, q2, q3⟩, ⟨gg, rfl, hggl, y0, y1, y2⟩⟩ := HV.out q s hsq
          have hBo := HB.out
          have f0 : wr.cell? ⟨g, q * 4, none⟩ = some (.int .u64 s.lo) := ((bcell hBo).1 g _ hgl).trans q0
          have f1 : wr.cell? ⟨g, q * 4 + 1, none⟩ = some (.int .u64 s.hi) := ((bcell hBo).1 g _ hgl).trans q1
          have f2 : wr.cell? ⟨g, q * 4 + 2, none⟩ = some (.int .i64 (tagF s.val).1) := ((bcell hBo).1 g _ hgl).trans q2
          have f3 : wr.cell? ⟨g, q * 4 + 2 + 1, none⟩ = some (.bool (tagF s.val).2) := ((bcell hBo).1 g _ hgl).trans q3
          have z0 : wr.cell? ⟨gg, q * 3, none⟩ = some (.int .u64 s.lo) := ((bcell hBo).1 gg _ hggl).trans y0
          have z1 : wr.cell? ⟨gg, q * 3 + 1, none⟩ = some (.int .u64 s.hi) := ((bcell hBo).1 gg _ hggl).trans y1
          have z2 : wr.cell? ⟨gg, q * 3 + 2, none⟩ = some (.int .i64 s.val) := ((bcell hBo).1 gg _ hggl).trans y2
          have hqz : (q : Int) < (m : Int) := by omega
          have hq0 : (0 : Int) ≤ (q : Int) := by omega
          have hneq := neq_tag
          clear hsq
          go_wp2_with (fail)
          go_region_held3 (fun w' => w'.cell? ⟨g, q * 4, none⟩ = some (.int .u64 s.lo) ∧ w'.cell? ⟨g, q * 4 + 1, none⟩ = some (.int .u64 s.hi) ∧ w'.cell? ⟨g, q * 4 + 2, none⟩ = some (.int .i64 (tagF s.val).1) ∧ w'.cell? ⟨g, q * 4 + 2 + 1, none⟩ = some (.bool (tagF s.val).2) ∧ w'.cell? ⟨gg, q * 3, none⟩ = some (.int .u64 s.lo) ∧ w'.cell? ⟨gg, q * 3 + 1, none⟩ = some (.int .u64 s.hi) ∧ w'.cell? ⟨gg, q * 3 + 2, none⟩ = some (.int .i64 s.val)) (first | go_keep | exact hcs)
            ((first
              | (go_at_call 31; refine (tag_any s.val _).mono ?_; rintro e wI ⟨rfl, hbI⟩; have hBI := below_go (below_go hBo (Below.refl _ _).drew) hbI; have hcs := (⟨((bcell hBI).1 g _ hgl).trans q0, ((bcell hBI).1 g _ hgl).trans q1, ((bcell hBI).1 g _ hgl).trans q2, ((bcell hBI).1 g _ hgl).trans q3, ((bcell hBI).1 gg _ hggl).trans y0, ((bcell hBI).1 gg _ hggl).trans y1, ((bcell hBI).1 gg _ hggl).trans y2⟩ : wI.cell? ⟨g, q * 4, none⟩ = some (.int .u64 s.lo) ∧ wI.cell? ⟨g, q * 4 + 1, none⟩ = some (.int .u64 s.hi) ∧ wI.cell? ⟨g, q * 4 + 2, none⟩ = some (.int .i64 (tagF s.val).1) ∧ wI.cell? ⟨g, q * 4 + 2 + 1, none⟩ = some (.bool (tagF s.val).2) ∧ wI.cell? ⟨gg, q * 3, none⟩ = some (.int .u64 s.lo) ∧ wI.cell? ⟨gg, q * 3 + 1, none⟩ = some (.int .u64 s.hi) ∧ wI.cell? ⟨gg, q * 3 + 2, none⟩ = some (.int .i64 s.val)))
              | fail))
          go_wp2
          go_roundw
          case rel => exact ⟨q + 1, by omega, by go_num, hBI⟩
          case measure => simp [intOf]; omega
        · obtain rfl : q = m := by omega
          have hqz : ¬ ((q : Int) < (q : Int)) := by omega
          go_wp2
          go_ret
          exact ⟨rfl, below_go hB3 HB.out⟩
end Go.Proofs.Ytliiblaodhcjhaa.T
