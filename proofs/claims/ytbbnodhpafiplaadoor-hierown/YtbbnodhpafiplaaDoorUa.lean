import Derived.Test.YtbbnodhpafiplaaDoorCk
import Derived.Test.YtbbnodhpafiplaaDoorCi
import Derived.Test.YtbbnodhpafiplaaDoorMR
namespace Go.Proofs.YtbbnodhpafiplaaDoor
open Go.RowKit
set_option linter.unusedVariables false
set_option linter.unusedSimpArgs false
set_option maxRecDepth 100000 in
set_option maxHeartbeats 4000000 in
theorem uright_any (b : Blo) (W : World) (hO : BOk b) : Calls Tryd.prog 69 #[.agg #[.int .i64 b.asid, .int .i64 b.t.size, .int .u32 b.t.va, .int .u64 b.t.pa, .int .i64 b.t.dom, .int .i64 b.t.ap, .int .u32 b.t.bits, .bool b.t.ng, .bool b.t.xn]] W fun e w' => e = .returned (.bool (bR b)) ∧ Below W.heap.size W w' := by
  have HR : Hid (∀ w, Below W.heap.size W w → Calls Tryd.prog 77 #[.agg #[.int .i64 (b.t).size, .int .u32 (b.t).va, .int .u64 (b.t).pa, .int .i64 (b.t).dom, .int .i64 (b.t).ap, .int .u32 (b.t).bits, .bool (b.t).ng, .bool (b.t).xn]] w fun r w' => r = .returned (.bool (riF b.t)) ∧ Below w.heap.size w w') := fun w h => rright_any b.t w hO.va ⟨hO.pa, hO.bits⟩
  have HX : Hid (BX1 W (W.alloc (.cells ([.int .i64 b.asid, .int .i64 b.t.size, .int .u32 b.t.va, .int .u64 b.t.pa, .int .i64 b.t.dom, .int .i64 b.t.ap, .int .u32 b.t.bits, .bool b.t.ng, .bool b.t.xn]).toArray 38)) b) := BX1.new W b
  clear hO
  obtain ⟨aid, sz, va, pa, dm, ap, bi, ng, xn⟩ := b
  cases hr : riF ⟨sz, va, pa, dm, ap, bi, ng, xn⟩
  · have hf : bR ⟨aid, ⟨sz, va, pa, dm, ap, bi, ng, xn⟩⟩ = false := by simp [bR, hr]
    rw [hf]
    rw [hr] at HR
    clear hr hf
    go_enter Tryd.func69, Tryd.ntmps69
    go_wp2_with (fail)
    go_at_call 77
    refine (HR.out _ HX.out.bel).mono ?_
    rintro e w1 ⟨rfl, hb⟩
    have HX1 := hidW (HX.out.step hb)
    clear hb HX HR
    go_wp2
    go_ret
    exact ⟨rfl, HX1.out.bel⟩
  · rw [hr] at HR
    cases ng
    · have hf : bR ⟨aid, ⟨sz, va, pa, dm, ap, bi, false, xn⟩⟩ = (aid == -1) := by simp [bR, hr]
      rw [hf]
      clear hr hf
      go_enter Tryd.func69, Tryd.ntmps69
      go_wp2_with (fail)
      go_at_call 77
      refine (HR.out _ HX.out.bel).mono ?_
      rintro e w1 ⟨rfl, hb⟩
      have HX1 := hidW (HX.out.step hb)
      clear hb HX HR
      have c0 := HX1.out.box.cell
      go_wp2
      go_ret
      exact ⟨rfl, HX1.out.bel⟩
    · have hf : bR ⟨aid, ⟨sz, va, pa, dm, ap, bi, true, xn⟩⟩ = asF aid := by simp [bR, hr]
      rw [hf]
      unfold asF
      clear hr hf
      go_enter Tryd.func69, Tryd.ntmps69
      go_wp2_with (fail)
      go_at_call 77
      refine (HR.out _ HX.out.bel).mono ?_
      rintro e w1 ⟨rfl, hb⟩
      have HX1 := hidW (HX.out.step hb)
      clear hb HX HR
      have c0 := HX1.out.box.cell
      by_cases h1 : 0 ≤ aid
      · have q : decide (0 ≤ aid) = true := decide_eq_true h1
        go_wp2
        go_ret
        exact ⟨by simp [h1], HX1.out.bel⟩
      · have q : decide (0 ≤ aid) = false := decide_eq_false h1
        go_wp2
        go_ret
        exact ⟨by simp [q], HX1.out.bel⟩
set_option maxRecDepth 100000 in
set_option maxHeartbeats 4000000 in
theorem ulies_any (b : Blo) (va : Int) (W : World) (hO : BOk b) (hv : 0 ≤ va ∧ va < 4294967296) : Calls Tryd.prog 70 #[.agg #[.int .i64 b.asid, .int .i64 b.t.size, .int .u32 b.t.va, .int .u64 b.t.pa, .int .i64 b.t.dom, .int .i64 b.t.ap, .int .u32 b.t.bits, .bool b.t.ng, .bool b.t.xn], .int .u32 va] W fun e w' => e = .returned (.bool (liF b va)) ∧ Below W.heap.size W w' := by
  have HY : Hid (∀ w, Below W.heap.size W w → Calls Tryd.prog 78 #[.int .i64 b.t.size] w fun r w' => r = .returned (.int .u64 (byN b.t.size)) ∧ w' = w) := fun w h => (refBytes_any _ _).mono fun _ _ h => ⟨h.1, h.2.symm⟩
  have HX : Hid (BX1 W (W.alloc (.cells ([.int .i64 b.asid, .int .i64 b.t.size, .int .u32 b.t.va, .int .u64 b.t.pa, .int .i64 b.t.dom, .int .i64 b.t.ap, .int .u32 b.t.bits, .bool b.t.ng, .bool b.t.xn]).toArray 38)) b) := BX1.new W b
  have h0 := hO.va
  clear hO
  obtain ⟨aid, sz, v0, pa, dm, ap, bi, ng, xn⟩ := b
  unfold liF
  dsimp only at *
  by_cases h : v0 ≤ va
  · have q : decide (v0 ≤ va) = true := by simp [h]
    rw [q]
    go_enter Tryd.func70, Tryd.ntmps70
    go_wp2
    generalize W.alloc _ = wr at *
    have c0 := HX.out.box.cell
    have HZ := fun q => hidW (HX.out.drewN q)
    clear HX
    go_quiet ((go_at_call 78; exact Calls.quiet_of_same (HY.out _ (HZ _).out.bel)))
    go_wp2
    go_ret
    exact ⟨by simp, (HZ _).out.bel⟩
  · have q : decide (v0 ≤ va) = false := by simp [h]
    rw [q]
    go_enter Tryd.func70, Tryd.ntmps70
    go_wp2
    generalize W.alloc _ = wr at *
    have c0 := HX.out.box.cell
    have HZ := fun q => hidW (HX.out.drewN q)
    clear HX
    go_quiet ((go_at_call 78; exact Calls.quiet_of_same (HY.out _ (HZ _).out.bel)))
    go_wp2
    go_ret
    exact ⟨by simp, (HZ _).out.bel⟩
set_option maxRecDepth 100000 in
set_option maxHeartbeats 4000000 in
theorem uover_any (b : Blo) (va asid : Int) (W : World) (hO : BOk b) (hv : 0 ≤ va ∧ va < 4294967296) : Calls Tryd.prog 56 #[.agg #[.int .i64 b.asid, .int .i64 b.t.size, .int .u32 b.t.va, .int .u64 b.t.pa, .int .i64 b.t.dom, .int .i64 b.t.ap, .int .u32 b.t.bits, .bool b.t.ng, .bool b.t.xn], .int .u32 va, .int .i64 asid] W fun e w' => e = .returned (.bool (ovF b va asid)) ∧ Below W.heap.size W w' := by
  have HL : Hid (∀ w, Calls Tryd.prog 69 #[.agg #[.int .i64 b.asid, .int .i64 b.t.size, .int .u32 b.t.va, .int .u64 b.t.pa, .int .i64 b.t.dom, .int .i64 b.t.ap, .int .u32 b.t.bits, .bool b.t.ng, .bool b.t.xn]] w fun e w' => e = .returned (.bool (bR b)) ∧ Below w.heap.size w w') := fun w => uright_any b w hO
  have HH : Hid (∀ w, Calls Tryd.prog 70 #[.agg #[.int .i64 b.asid, .int .i64 b.t.size, .int .u32 b.t.va, .int .u64 b.t.pa, .int .i64 b.t.dom, .int .i64 b.t.ap, .int .u32 b.t.bits, .bool b.t.ng, .bool b.t.xn], .int .u32 va] w fun e w' => e = .returned (.bool (liF b va)) ∧ Below w.heap.size w w') := fun w => ulies_any b va w hO hv
  have HX : Hid (BX1 W (W.alloc (.cells ([.int .i64 b.asid, .int .i64 b.t.size, .int .u32 b.t.va, .int .u64 b.t.pa, .int .i64 b.t.dom, .int .i64 b.t.ap, .int .u32 b.t.bits, .bool b.t.ng, .bool b.t.xn]).toArray 38)) b) := BX1.new W b
  unfold ovF maF hoF
  generalize bR b = l at *
  generalize liF b va = h at *
  clear hO
  obtain ⟨aid, sz, v0, pa, dm, ap, bi, ng, xn⟩ := b
  cases l
  · go_enter Tryd.func56, Tryd.ntmps56
    go_wp2_with (fail)
    go_at_call 69
    refine (HL.out _).mono ?_
    rintro e w1 ⟨rfl, hb⟩
    have HX1 := hidW (HX.out.step hb)
    clear hb HX HL
    go_wp2
    go_ret
    exact ⟨rfl, HX1.out.bel⟩
  · cases h
    · go_enter Tryd.func56, Tryd.ntmps56
      go_wp2_with (fail)
      go_at_call 69
      refine (HL.out _).mono ?_
      rintro e w1 ⟨rfl, hb⟩
      have HX1 := hidW (HX.out.step hb)
      clear hb HX HL
      have c0 := HX1.out.box.cell
      go_wp2_with (fail)
      go_at_call 70
      refine (HH.out _).mono ?_
      rintro e w2 ⟨rfl, hb⟩
      have HX2 := hidW (HX1.out.step hb)
      clear hb HX1 HH c0
      go_wp2
      go_ret
      exact ⟨by simp, HX2.out.bel⟩
    · dsimp only
      by_cases ha : aid = asid
      · subst ha
        have q : (aid == aid) = true := by simp
        go_enter Tryd.func56, Tryd.ntmps56
        go_wp2_with (fail)
        go_at_call 69
        refine (HL.out _).mono ?_
        rintro e w1 ⟨rfl, hb⟩
        have HX1 := hidW (HX.out.step hb)
        clear hb HX HL
        have c0 := HX1.out.box.cell
        go_wp2_with (fail)
        go_at_call 70
        refine (HH.out _).mono ?_
        rintro e w2 ⟨rfl, hb⟩
        have HX2 := hidW (HX1.out.step hb)
        clear hb HX1 HH c0
        have c0 := HX2.out.box.cell
        go_wp2
        go_ret
        exact ⟨by simp, HX2.out.bel⟩
      · have q : (aid == asid) = false := by simp [ha]
        go_enter Tryd.func56, Tryd.ntmps56
        go_wp2_with (fail)
        go_at_call 69
        refine (HL.out _).mono ?_
        rintro e w1 ⟨rfl, hb⟩
        have HX1 := hidW (HX.out.step hb)
        clear hb HX HL
        have c0 := HX1.out.box.cell
        go_wp2_with (fail)
        go_at_call 70
        refine (HH.out _).mono ?_
        rintro e w2 ⟨rfl, hb⟩
        have HX2 := hidW (HX1.out.step hb)
        clear hb HX1 HH c0
        have c0 := HX2.out.box.cell
        go_wp2
        go_ret
        exact ⟨by simp [ha], HX2.out.bel⟩
/-- Is it a dropping? -/
def drF (d : Dro) : Bool :=
  if d.kind = 1 then d.va == 0 && d.asid == 0
  else if d.kind = 2 then asF d.asid
  else if d.kind = 3 then d.va == 0 && asF d.asid
  else if d.kind = 4 then d.asid == 0
  else false
set_option maxRecDepth 100000 in
set_option maxHeartbeats 4000000 in
theorem udrop_1 (va asid : Int) (W : World) :
    Calls Tryd.prog 79 #[.agg #[.int .i64 1, .int .u32 va, .int .i64 asid]] W fun e w' => e = .returned (.bool (va == 0 && asid == 0)) ∧ Below W.heap.size W w' := by
  by_cases h : va = 0
  · subst h
    go_enter Tryd.func79, Tryd.ntmps79
    go_wp2
    go_ret
    exact ⟨by simp, below_new _ _⟩
  · have q : (va == 0) = false := by simp [h]
    go_enter Tryd.func79, Tryd.ntmps79
    go_wp2
    go_ret
    exact ⟨by simp [h], below_new _ _⟩
set_option maxRecDepth 100000 in
set_option maxHeartbeats 4000000 in
theorem udrop_2 (va asid : Int) (W : World) :
    Calls Tryd.prog 79 #[.agg #[.int .i64 2, .int .u32 va, .int .i64 asid]] W fun e w' => e = .returned (.bool (asF asid)) ∧ Below W.heap.size W w' := by
  unfold asF
  by_cases h : 0 ≤ asid
  · have q : decide (0 ≤ asid) = true := decide_eq_true h
    go_enter Tryd.func79, Tryd.ntmps79
    go_wp2
    go_ret
    exact ⟨by simp [h], below_new _ _⟩
  · have q : decide (0 ≤ asid) = false := decide_eq_false h
    go_enter Tryd.func79, Tryd.ntmps79
    go_wp2
    go_ret
    exact ⟨by simp [h], below_new _ _⟩
set_option maxRecDepth 100000 in
set_option maxHeartbeats 4000000 in
theorem udrop_3 (va asid : Int) (W : World) :
    Calls Tryd.prog 79 #[.agg #[.int .i64 3, .int .u32 va, .int .i64 asid]] W fun e w' => e = .returned (.bool (va == 0 && asF asid)) ∧ Below W.heap.size W w' := by
  unfold asF
  by_cases hv : va = 0
  · subst hv
    by_cases h : 0 ≤ asid
    · have q : decide (0 ≤ asid) = true := decide_eq_true h
      go_enter Tryd.func79, Tryd.ntmps79
      go_wp2
      go_ret
      exact ⟨by simp [h], below_new _ _⟩
    · have q : decide (0 ≤ asid) = false := decide_eq_false h
      go_enter Tryd.func79, Tryd.ntmps79
      go_wp2
      go_ret
      exact ⟨by simp [h], below_new _ _⟩
  · have qv : (va == 0) = false := by simp [hv]
    go_enter Tryd.func79, Tryd.ntmps79
    go_wp2
    go_ret
    exact ⟨by simp [hv], below_new _ _⟩
set_option maxRecDepth 100000 in
set_option maxHeartbeats 4000000 in
theorem udrop_4 (va asid : Int) (W : World) :
    Calls Tryd.prog 79 #[.agg #[.int .i64 4, .int .u32 va, .int .i64 asid]] W fun e w' => e = .returned (.bool (asid == 0)) ∧ Below W.heap.size W w' := by
  go_enter Tryd.func79, Tryd.ntmps79
  go_wp2
  go_ret
  exact ⟨rfl, below_new _ _⟩
set_option maxRecDepth 100000 in
set_option maxHeartbeats 4000000 in
theorem udrop_no (va asid : Int) (k : Int) (W : World) (h1 : ¬ k = 1) (h2 : ¬ k = 2) (h3 : ¬ k = 3) (h4 : ¬ k = 4) :
    Calls Tryd.prog 79 #[.agg #[.int .i64 k, .int .u32 va, .int .i64 asid]] W fun e w' => e = .returned (.bool false) ∧ Below W.heap.size W w' := by
  go_enter Tryd.func79, Tryd.ntmps79
  go_wp2
  go_ret
  exact ⟨rfl, below_new _ _⟩
theorem udrop_any (d : Dro) (W : World) : Calls Tryd.prog 79 #[.agg #[.int .i64 d.kind, .int .u32 d.va, .int .i64 d.asid]] W fun e w' => e = .returned (.bool (drF d)) ∧ Below W.heap.size W w' := by
  obtain ⟨k, va, asid⟩ := d
  by_cases k1 : k = 1
  · subst k1; exact udrop_1 va asid W
  by_cases k2 : k = 2
  · subst k2; exact udrop_2 va asid W
  by_cases k3 : k = 3
  · subst k3; exact udrop_3 va asid W
  by_cases k4 : k = 4
  · subst k4; exact udrop_4 va asid W
  have e : drF ⟨k, va, asid⟩ = false := by simp [drF, k1, k2, k3, k4]
  rw [e]
  exact udrop_no va asid k W k1 k2 k3 k4
theorem tk_dr {d : Dro} (b : Blo) (h : drF d = false) : tkF d b = false := by
  obtain ⟨k, va, asid⟩ := d
  have : pkF ⟨k, va, asid⟩ b = false := by
    unfold drF at h
    unfold pkF
    dsimp only at *
    by_cases k1 : k = 1
    · subst k1; simp at h; simp; exact h
    by_cases k2 : k = 2
    · subst k2; simp at h; simp [h]
    by_cases k3 : k = 3
    · subst k3; simp at h; simp
      intro h1 h2
      rw [h h1] at h2
      cases h2
    by_cases k4 : k = 4
    · subst k4; simp at h; simp [h]
    simp [k1, k2, k3, k4]
  simp [tkF, this]
set_option maxRecDepth 100000 in
set_option maxHeartbeats 4000000 in
theorem utakes_nd (va asid : Int) (k : Int) (b : Blo) (W : World) (hd : drF ⟨k, va, asid⟩ = false) : Calls Tryd.prog 71 #[.agg #[.int .i64 k, .int .u32 va, .int .i64 asid], .agg #[.int .i64 b.asid, .int .i64 b.t.size, .int .u32 b.t.va, .int .u64 b.t.pa, .int .i64 b.t.dom, .int .i64 b.t.ap, .int .u32 b.t.bits, .bool b.t.ng, .bool b.t.xn]] W fun e w' => e = .returned (.bool (tkF ⟨k, va, asid⟩ b)) ∧ Below W.heap.size W w' := by
  have HD : Hid (∀ w, Calls Tryd.prog 79 #[.agg #[.int .i64 k, .int .u32 va, .int .i64 asid]] w fun e w' => e = .returned (.bool (drF ⟨k, va, asid⟩)) ∧ Below w.heap.size w w') := fun w => udrop_any ⟨k, va, asid⟩ w
  have HX := hidW (KX.start W ⟨k, va, asid⟩ b)
  rw [tk_dr b hd]
  rw [hd] at HD
  clear hd
  dsimp only at HX
  go_enter Tryd.func71, Tryd.ntmps71
  go_wp2_with (fail)
  go_at_call 79
  refine (HD.out _).mono ?_
  rintro e w1 ⟨rfl, hb⟩
  replace HX := hidW (HX.out.step hb)
  clear hb HD
  generalize hA : W.heap.size = A at HX ⊢
  generalize hB : A + 1 = B at HX ⊢
  clear hA hB
  have c1 := HX.out.bb.cell
  have c2 := HX.out.bd.cell
  go_wp2
  go_ret
  exact ⟨rfl, HX.out.bel⟩
set_option maxRecDepth 100000 in
set_option maxHeartbeats 4000000 in
theorem utakes_nr (va asid : Int) (k : Int) (b : Blo) (W : World) (hO : BOk b) (hd : drF ⟨k, va, asid⟩ = true) (hr : bR b = false) : Calls Tryd.prog 71 #[.agg #[.int .i64 k, .int .u32 va, .int .i64 asid], .agg #[.int .i64 b.asid, .int .i64 b.t.size, .int .u32 b.t.va, .int .u64 b.t.pa, .int .i64 b.t.dom, .int .i64 b.t.ap, .int .u32 b.t.bits, .bool b.t.ng, .bool b.t.xn]] W fun e w' => e = .returned (.bool (tkF ⟨k, va, asid⟩ b)) ∧ Below W.heap.size W w' := by
  have HD : Hid (∀ w, Calls Tryd.prog 79 #[.agg #[.int .i64 k, .int .u32 va, .int .i64 asid]] w fun e w' => e = .returned (.bool (drF ⟨k, va, asid⟩)) ∧ Below w.heap.size w w') := fun w => udrop_any ⟨k, va, asid⟩ w
  have HX := hidW (KX.start W ⟨k, va, asid⟩ b)
  have he : tkF ⟨k, va, asid⟩ b = false := by simp [tkF, hr]
  rw [he]
  have HR : Hid (∀ w, Calls Tryd.prog 69 #[.agg #[.int .i64 b.asid, .int .i64 b.t.size, .int .u32 b.t.va, .int .u64 b.t.pa, .int .i64 b.t.dom, .int .i64 b.t.ap, .int .u32 b.t.bits, .bool b.t.ng, .bool b.t.xn]] w fun e w' => e = .returned (.bool (bR b)) ∧ Below w.heap.size w w') := fun w => uright_any b w hO
  rw [hd] at HD
  rw [hr] at HR
  clear hd hr he hO
  dsimp only at HX
  go_enter Tryd.func71, Tryd.ntmps71
  go_wp2_with (fail)
  go_at_call 79
  refine (HD.out _).mono ?_
  rintro e w1 ⟨rfl, hb⟩
  replace HX := hidW (HX.out.step hb)
  clear hb HD
  generalize hA : W.heap.size = A at HX ⊢
  generalize hB : A + 1 = B at HX ⊢
  clear hA hB
  have c1 := HX.out.bb.cell
  have c2 := HX.out.bd.cell
  go_wp2_with (fail)
  go_at_call 69
  refine (HR.out _).mono ?_
  rintro e w2 ⟨rfl, hb⟩
  replace HX := hidW (HX.out.step hb)
  clear hb HR c1 c2
  have c1 := HX.out.bb.cell
  have c2 := HX.out.bd.cell
  go_wp2
  go_ret
  exact ⟨rfl, HX.out.bel⟩
set_option maxRecDepth 100000 in
set_option maxHeartbeats 4000000 in
theorem utakes_1 (va asid : Int) (b : Blo) (W : World) (hO : BOk b) (hv : 0 ≤ va ∧ va < 4294967296) (hd : drF ⟨1, va, asid⟩ = true) (hr : bR b = true) : Calls Tryd.prog 71 #[.agg #[.int .i64 1, .int .u32 va, .int .i64 asid], .agg #[.int .i64 b.asid, .int .i64 b.t.size, .int .u32 b.t.va, .int .u64 b.t.pa, .int .i64 b.t.dom, .int .i64 b.t.ap, .int .u32 b.t.bits, .bool b.t.ng, .bool b.t.xn]] W fun e w' => e = .returned (.bool (tkF ⟨1, va, asid⟩ b)) ∧ Below W.heap.size W w' := by
  have HD : Hid (∀ w, Calls Tryd.prog 79 #[.agg #[.int .i64 1, .int .u32 va, .int .i64 asid]] w fun e w' => e = .returned (.bool (drF ⟨1, va, asid⟩)) ∧ Below w.heap.size w w') := fun w => udrop_any ⟨1, va, asid⟩ w
  have HX := hidW (KX.start W ⟨1, va, asid⟩ b)
  have he : tkF ⟨1, va, asid⟩ b = (true) := by
    have hd2 := hd
    simp [drF] at hd2
    simp [tkF, hr, pkF, hd2]
  rw [he]
  have HR : Hid (∀ w, Calls Tryd.prog 69 #[.agg #[.int .i64 b.asid, .int .i64 b.t.size, .int .u32 b.t.va, .int .u64 b.t.pa, .int .i64 b.t.dom, .int .i64 b.t.ap, .int .u32 b.t.bits, .bool b.t.ng, .bool b.t.xn]] w fun e w' => e = .returned (.bool (bR b)) ∧ Below w.heap.size w w') := fun w => uright_any b w hO
  rw [hd] at HD
  rw [hr] at HR
  clear hd hr he hO
  dsimp only at HX
  go_enter Tryd.func71, Tryd.ntmps71
  go_wp2_with (fail)
  go_at_call 79
  refine (HD.out _).mono ?_
  rintro e w1 ⟨rfl, hb⟩
  replace HX := hidW (HX.out.step hb)
  clear hb HD
  generalize hA : W.heap.size = A at HX ⊢
  generalize hB : A + 1 = B at HX ⊢
  clear hA hB
  have c1 := HX.out.bb.cell
  have c2 := HX.out.bd.cell
  go_wp2_with (fail)
  go_at_call 69
  refine (HR.out _).mono ?_
  rintro e w2 ⟨rfl, hb⟩
  replace HX := hidW (HX.out.step hb)
  clear hb HR c1 c2
  have c1 := HX.out.bb.cell
  have c2 := HX.out.bd.cell
  go_wp2
  go_ret
  exact ⟨rfl, HX.out.bel⟩
set_option maxRecDepth 100000 in
set_option maxHeartbeats 4000000 in
theorem utakes_2 (va asid : Int) (b : Blo) (W : World) (hO : BOk b) (hv : 0 ≤ va ∧ va < 4294967296) (hd : drF ⟨2, va, asid⟩ = true) (hr : bR b = true) : Calls Tryd.prog 71 #[.agg #[.int .i64 2, .int .u32 va, .int .i64 asid], .agg #[.int .i64 b.asid, .int .i64 b.t.size, .int .u32 b.t.va, .int .u64 b.t.pa, .int .i64 b.t.dom, .int .i64 b.t.ap, .int .u32 b.t.bits, .bool b.t.ng, .bool b.t.xn]] W fun e w' => e = .returned (.bool (tkF ⟨2, va, asid⟩ b)) ∧ Below W.heap.size W w' := by
  have HD : Hid (∀ w, Calls Tryd.prog 79 #[.agg #[.int .i64 2, .int .u32 va, .int .i64 asid]] w fun e w' => e = .returned (.bool (drF ⟨2, va, asid⟩)) ∧ Below w.heap.size w w') := fun w => udrop_any ⟨2, va, asid⟩ w
  have HX := hidW (KX.start W ⟨2, va, asid⟩ b)
  have he : tkF ⟨2, va, asid⟩ b = (maF b va asid) := by
    have hd2 := hd
    simp [drF] at hd2
    simp [tkF, hr, pkF, hd2]
  rw [he]
  have HV : Hid (∀ w, Calls Tryd.prog 56 #[.agg #[.int .i64 b.asid, .int .i64 b.t.size, .int .u32 b.t.va, .int .u64 b.t.pa, .int .i64 b.t.dom, .int .i64 b.t.ap, .int .u32 b.t.bits, .bool b.t.ng, .bool b.t.xn], .int .u32 va, .int .i64 asid] w fun e w' => e = .returned (.bool (maF b va asid)) ∧ Below w.heap.size w w') := fun w => by have := uover_any b va asid w hO hv; rw [ovF, hr, Bool.true_and] at this; exact this
  have HR : Hid (∀ w, Calls Tryd.prog 69 #[.agg #[.int .i64 b.asid, .int .i64 b.t.size, .int .u32 b.t.va, .int .u64 b.t.pa, .int .i64 b.t.dom, .int .i64 b.t.ap, .int .u32 b.t.bits, .bool b.t.ng, .bool b.t.xn]] w fun e w' => e = .returned (.bool (bR b)) ∧ Below w.heap.size w w') := fun w => uright_any b w hO
  rw [hd] at HD
  rw [hr] at HR
  clear hd hr he hO
  dsimp only at HX
  go_enter Tryd.func71, Tryd.ntmps71
  go_wp2_with (fail)
  go_at_call 79
  refine (HD.out _).mono ?_
  rintro e w1 ⟨rfl, hb⟩
  replace HX := hidW (HX.out.step hb)
  clear hb HD
  generalize hA : W.heap.size = A at HX ⊢
  generalize hB : A + 1 = B at HX ⊢
  clear hA hB
  have c1 := HX.out.bb.cell
  have c2 := HX.out.bd.cell
  go_wp2_with (fail)
  go_at_call 69
  refine (HR.out _).mono ?_
  rintro e w2 ⟨rfl, hb⟩
  replace HX := hidW (HX.out.step hb)
  clear hb HR c1 c2
  have c1 := HX.out.bb.cell
  have c2 := HX.out.bd.cell
  go_wp2_with (fail)
  go_at_call 56
  refine (HV.out _).mono ?_
  rintro e w3 ⟨rfl, hb⟩
  replace HX := hidW (HX.out.step hb)
  clear hb c1 c2
  go_wp2
  go_ret
  exact ⟨rfl, HX.out.bel⟩
set_option maxRecDepth 100000 in
set_option maxHeartbeats 4000000 in
theorem utakes_3 (va asid : Int) (b : Blo) (W : World) (hO : BOk b) (hv : 0 ≤ va ∧ va < 4294967296) (hd : drF ⟨3, va, asid⟩ = true) (hr : bR b = true) : Calls Tryd.prog 71 #[.agg #[.int .i64 3, .int .u32 va, .int .i64 asid], .agg #[.int .i64 b.asid, .int .i64 b.t.size, .int .u32 b.t.va, .int .u64 b.t.pa, .int .i64 b.t.dom, .int .i64 b.t.ap, .int .u32 b.t.bits, .bool b.t.ng, .bool b.t.xn]] W fun e w' => e = .returned (.bool (tkF ⟨3, va, asid⟩ b)) ∧ Below W.heap.size W w' := by
  have HD : Hid (∀ w, Calls Tryd.prog 79 #[.agg #[.int .i64 3, .int .u32 va, .int .i64 asid]] w fun e w' => e = .returned (.bool (drF ⟨3, va, asid⟩)) ∧ Below w.heap.size w w') := fun w => udrop_any ⟨3, va, asid⟩ w
  have HX := hidW (KX.start W ⟨3, va, asid⟩ b)
  have he : tkF ⟨3, va, asid⟩ b = (b.asid == asid) := by
    have hd2 := hd
    simp [drF] at hd2
    simp [tkF, hr, pkF, hd2]
  rw [he]
  have HR : Hid (∀ w, Calls Tryd.prog 69 #[.agg #[.int .i64 b.asid, .int .i64 b.t.size, .int .u32 b.t.va, .int .u64 b.t.pa, .int .i64 b.t.dom, .int .i64 b.t.ap, .int .u32 b.t.bits, .bool b.t.ng, .bool b.t.xn]] w fun e w' => e = .returned (.bool (bR b)) ∧ Below w.heap.size w w') := fun w => uright_any b w hO
  rw [hd] at HD
  rw [hr] at HR
  clear hd hr he hO
  dsimp only at HX
  go_enter Tryd.func71, Tryd.ntmps71
  go_wp2_with (fail)
  go_at_call 79
  refine (HD.out _).mono ?_
  rintro e w1 ⟨rfl, hb⟩
  replace HX := hidW (HX.out.step hb)
  clear hb HD
  generalize hA : W.heap.size = A at HX ⊢
  generalize hB : A + 1 = B at HX ⊢
  clear hA hB
  have c1 := HX.out.bb.cell
  have c2 := HX.out.bd.cell
  go_wp2_with (fail)
  go_at_call 69
  refine (HR.out _).mono ?_
  rintro e w2 ⟨rfl, hb⟩
  replace HX := hidW (HX.out.step hb)
  clear hb HR c1 c2
  have c1 := HX.out.bb.cell
  have c2 := HX.out.bd.cell
  go_wp2
  go_ret
  exact ⟨rfl, HX.out.bel⟩
set_option maxRecDepth 100000 in
set_option maxHeartbeats 4000000 in
theorem utakes_4 (va asid : Int) (b : Blo) (W : World) (hO : BOk b) (hv : 0 ≤ va ∧ va < 4294967296) (hd : drF ⟨4, va, asid⟩ = true) (hr : bR b = true) : Calls Tryd.prog 71 #[.agg #[.int .i64 4, .int .u32 va, .int .i64 asid], .agg #[.int .i64 b.asid, .int .i64 b.t.size, .int .u32 b.t.va, .int .u64 b.t.pa, .int .i64 b.t.dom, .int .i64 b.t.ap, .int .u32 b.t.bits, .bool b.t.ng, .bool b.t.xn]] W fun e w' => e = .returned (.bool (tkF ⟨4, va, asid⟩ b)) ∧ Below W.heap.size W w' := by
  have HD : Hid (∀ w, Calls Tryd.prog 79 #[.agg #[.int .i64 4, .int .u32 va, .int .i64 asid]] w fun e w' => e = .returned (.bool (drF ⟨4, va, asid⟩)) ∧ Below w.heap.size w w') := fun w => udrop_any ⟨4, va, asid⟩ w
  have HX := hidW (KX.start W ⟨4, va, asid⟩ b)
  have he : tkF ⟨4, va, asid⟩ b = (liF b va) := by
    have hd2 := hd
    simp [drF] at hd2
    simp [tkF, hr, pkF, hd2]
  rw [he]
  have HV : Hid (∀ w, Calls Tryd.prog 70 #[.agg #[.int .i64 b.asid, .int .i64 b.t.size, .int .u32 b.t.va, .int .u64 b.t.pa, .int .i64 b.t.dom, .int .i64 b.t.ap, .int .u32 b.t.bits, .bool b.t.ng, .bool b.t.xn], .int .u32 va] w fun e w' => e = .returned (.bool (liF b va)) ∧ Below w.heap.size w w') := fun w => ulies_any b va w hO hv
  have HR : Hid (∀ w, Calls Tryd.prog 69 #[.agg #[.int .i64 b.asid, .int .i64 b.t.size, .int .u32 b.t.va, .int .u64 b.t.pa, .int .i64 b.t.dom, .int .i64 b.t.ap, .int .u32 b.t.bits, .bool b.t.ng, .bool b.t.xn]] w fun e w' => e = .returned (.bool (bR b)) ∧ Below w.heap.size w w') := fun w => uright_any b w hO
  rw [hd] at HD
  rw [hr] at HR
  clear hd hr he hO
  dsimp only at HX
  go_enter Tryd.func71, Tryd.ntmps71
  go_wp2_with (fail)
  go_at_call 79
  refine (HD.out _).mono ?_
  rintro e w1 ⟨rfl, hb⟩
  replace HX := hidW (HX.out.step hb)
  clear hb HD
  generalize hA : W.heap.size = A at HX ⊢
  generalize hB : A + 1 = B at HX ⊢
  clear hA hB
  have c1 := HX.out.bb.cell
  have c2 := HX.out.bd.cell
  go_wp2_with (fail)
  go_at_call 69
  refine (HR.out _).mono ?_
  rintro e w2 ⟨rfl, hb⟩
  replace HX := hidW (HX.out.step hb)
  clear hb HR c1 c2
  have c1 := HX.out.bb.cell
  have c2 := HX.out.bd.cell
  go_wp2_with (fail)
  go_at_call 70
  refine (HV.out _).mono ?_
  rintro e w3 ⟨rfl, hb⟩
  replace HX := hidW (HX.out.step hb)
  clear hb c1 c2
  go_wp2
  go_ret
  exact ⟨rfl, HX.out.bel⟩
theorem utakes_any (d : Dro) (b : Blo) (W : World) (hO : BOk b) (hv : 0 ≤ d.va ∧ d.va < 4294967296) : Calls Tryd.prog 71 #[.agg #[.int .i64 d.kind, .int .u32 d.va, .int .i64 d.asid], .agg #[.int .i64 b.asid, .int .i64 b.t.size, .int .u32 b.t.va, .int .u64 b.t.pa, .int .i64 b.t.dom, .int .i64 b.t.ap, .int .u32 b.t.bits, .bool b.t.ng, .bool b.t.xn]] W fun e w' => e = .returned (.bool (tkF d b)) ∧ Below W.heap.size W w' := by
  obtain ⟨k, va, asid⟩ := d
  cases hd : drF ⟨k, va, asid⟩
  · exact utakes_nd va asid k b W hd
  cases hr : bR b
  · exact utakes_nr va asid k b W hO hd hr
  by_cases k1 : k = 1
  · subst k1; exact utakes_1 va asid b W hO hv hd hr
  by_cases k2 : k = 2
  · subst k2; exact utakes_2 va asid b W hO hv hd hr
  by_cases k3 : k = 3
  · subst k3; exact utakes_3 va asid b W hO hv hd hr
  by_cases k4 : k = 4
  · subst k4; exact utakes_4 va asid b W hO hv hd hr
  have : drF ⟨k, va, asid⟩ = false := by simp [drF, k1, k2, k3, k4]
  rw [this] at hd
  cases hd
end Go.Proofs.YtbbnodhpafiplaaDoor
