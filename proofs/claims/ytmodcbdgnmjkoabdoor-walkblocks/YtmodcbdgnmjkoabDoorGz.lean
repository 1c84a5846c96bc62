import Derived.Test.YtmodcbdgnmjkoabDoorGk
namespace Go.Proofs.YtmodcbdgnmjkoabDoor
open Go.RowKit
set_option linter.unusedVariables false
set_option linter.unusedSimpArgs false
theorem hidZ {p : Prop} (h : p) : Hid p := h
theorem Bl.setZ_ne {w : World} {b b' : Nat} {t : TypeId} {l : List Value} (h : Bl w b t l) (hn : b ≠ b') (j : Nat) (v : Value) : Bl (w.setCell ⟨b', j, none⟩ v) b t l := by
  show (w.setCell ⟨b', j, none⟩ v).heap[b]? = _
  rw [Below.heap_setCell _ _ _ _ hn]
  exact h
/-- Both boxes and the result's. -/
structure CK (w wr : World) (t : Tra) (c : Ctx) : Prop extends BK w wr t c where
  R : Bl wr (w.heap.size + 1 + 1) 32 [.int .i64 0, .int .i64 0, .int .i64 0]
theorem CK.new (w : World) (t : Tra) (c : Ctx) : CK w (((w.alloc (.cells #[.int .i64 t.size, .int .u32 t.va, .int .u64 t.pa, .int .i64 t.dom, .int .i64 t.ap, .int .u32 t.bits, .bool t.ng, .bool t.xn] 49)).alloc (.cells #[.bool c.on, .bool c.tre, .bool c.afe, .int .i64 c.n, .bool c.pd0, .bool c.pd1, .int .u64 c.b0, .int .u64 c.b1, .int .u32 c.dacr, .int .u32 c.prrr, .int .u32 c.nmrr, .int .i64 c.asid] 26)).alloc (.cells #[.int .i64 0, .int .i64 0, .int .i64 0] 32)) t c := by
  have h := Bl.new ((w.alloc (.cells #[.int .i64 t.size, .int .u32 t.va, .int .u64 t.pa, .int .i64 t.dom, .int .i64 t.ap, .int .u32 t.bits, .bool t.ng, .bool t.xn] 49)).alloc (.cells #[.bool c.on, .bool c.tre, .bool c.afe, .int .i64 c.n, .bool c.pd0, .bool c.pd1, .int .u64 c.b0, .int .u64 c.b1, .int .u32 c.dacr, .int .u32 c.prrr, .int .u32 c.nmrr, .int .i64 c.asid] 26)) 32 [.int .i64 0, .int .i64 0, .int .i64 0]
  rw [show ((w.alloc (.cells #[.int .i64 t.size, .int .u32 t.va, .int .u64 t.pa, .int .i64 t.dom, .int .i64 t.ap, .int .u32 t.bits, .bool t.ng, .bool t.xn] 49)).alloc (.cells #[.bool c.on, .bool c.tre, .bool c.afe, .int .i64 c.n, .bool c.pd0, .bool c.pd1, .int .u64 c.b0, .int .u64 c.b1, .int .u32 c.dacr, .int .u32 c.prrr, .int .u32 c.nmrr, .int .i64 c.asid] 26)).heap.size = w.heap.size + 1 + 1 by simp] at h
  exact ⟨(BK.new w t c).step (below_new _ _), h⟩
theorem CK.step {w wr wn : World} {t : Tra} {c : Ctx} (h : CK w wr t c) (hb : Below wr.heap.size wr wn) : CK w wn t c := ⟨h.toBK.step hb, h.R.below hb⟩
theorem CK.drew {w wr : World} {t : Tra} {c : Ctx} (h : CK w wr t c) : CK w wr.drew t c := ⟨h.toBK.drew, h.R.drew⟩
theorem CK.keep {w wr : World} {t : Tra} {c : Ctx} (h : CK w wr t c) (x y z : Value) : Bl (((wr.setCell ⟨w.heap.size + 1 + 1, 0, none⟩ x).setCell ⟨w.heap.size + 1 + 1, 1, none⟩ y).setCell ⟨w.heap.size + 1 + 1, 2, none⟩ z) w.heap.size 49 [.int .i64 t.size, .int .u32 t.va, .int .u64 t.pa, .int .i64 t.dom, .int .i64 t.ap, .int .u32 t.bits, .bool t.ng, .bool t.xn] :=
  Bl.setZ_ne (Bl.setZ_ne (Bl.setZ_ne h.T (by omega) 0 x) (by omega) 1 y) (by omega) 2 z
theorem CK.end3 {w wr : World} {t : Tra} {c : Ctx} (h : CK w wr t c) (x y z : Value) : Below w.heap.size w (((wr.setCell ⟨w.heap.size + 1 + 1, 0, none⟩ x).setCell ⟨w.heap.size + 1 + 1, 1, none⟩ y).setCell ⟨w.heap.size + 1 + 1, 2, none⟩ z) :=
  Below.setCell (Below.setCell (Below.setCell h.bel (by simp; omega) _) (by simp; omega) _) (by simp; omega) _
set_option maxRecDepth 100000 in
set_option maxHeartbeats 4000000 in
theorem check_core (t : Tra) (on tre afe : Bool) (cn : Int) (pd0 pd1 : Bool) (q0 q1 dacr prrr nmrr asid : Int) (priv : Bool) (k : Int) (ri : Bool) (ba : Int) (w : World) (hT : TC w)
    (HR : on = true → ∀ w, TR w → Calls Tryd.prog 31 #[.agg #[.int .i64 t.size, .int .u32 t.va, .int .u64 t.pa, .int .i64 t.dom, .int .i64 t.ap, .int .u32 t.bits, .bool t.ng, .bool t.xn]] w fun e w' => e = .returned (.bool ri) ∧ Below w.heap.size w w')
    (HB : ri = true → ∀ w, TP w → Calls Tryd.prog 32 #[.agg #[.int .i64 t.size, .int .u32 t.va, .int .u64 t.pa, .int .i64 t.dom, .int .i64 t.ap, .int .u32 t.bits, .bool t.ng, .bool t.xn], .agg #[.bool on, .bool tre, .bool afe, .int .i64 cn, .bool pd0, .bool pd1, .int .u64 q0, .int .u64 q1, .int .u32 dacr, .int .u32 prrr, .int .u32 nmrr, .int .i64 asid], .bool priv, .int .i64 k] w fun e w' => e = .returned (.int .i64 ba) ∧ Below w.heap.size w w') :
    Calls Tryd.prog 15 #[.agg #[.int .i64 t.size, .int .u32 t.va, .int .u64 t.pa, .int .i64 t.dom, .int .i64 t.ap, .int .u32 t.bits, .bool t.ng, .bool t.xn], .agg #[.bool on, .bool tre, .bool afe, .int .i64 cn, .bool pd0, .bool pd1, .int .u64 q0, .int .u64 q1, .int .u32 dacr, .int .u32 prrr, .int .u32 nmrr, .int .i64 asid], .bool priv, .int .i64 k] w fun e w' => e = .returned (if on && ri then (if ba = 0 then .agg #[.int .i64 0, .int .i64 0, .int .i64 0] else .agg #[.int .i64 ba, .int .i64 (lvF t.size), .int .i64 t.dom]) else .agg #[.int .i64 0, .int .i64 0, .int .i64 0]) ∧ Below w.heap.size w w' := by
  have HL : Hid (∀ s w, Calls Tryd.prog 33 #[.int .i64 s] w fun e w' => e = .returned (.int .i64 (lvF s)) ∧ w = w') := level_any
  have HT : Hid (TC w) := hT
  have HX0 := hidZ (CK.new w t ⟨on, tre, afe, cn, pd0, pd1, q0, q1, dacr, prrr, nmrr, asid⟩)
  clear hT
  cases on
  · clear HR HB
    go_enter Tryd.func15, Tryd.ntmps15
    go_wp2
    refine bodyPost_ret (v := .agg #[.int .i64 0, .int .i64 0, .int .i64 0]) (by simp [results, Tryd.results15, go_sem]) rfl ⟨by simp, ?_⟩
    exact HX0.out.bel
  · have HR1 := hidZ (HR rfl)
    clear HR
    cases ri
    · clear HB
      go_enter Tryd.func15, Tryd.ntmps15
      go_wp2_with (fail)
      go_at_call 31
      refine (HR1.out _ (HT.out.below HX0.out.bel).r).mono ?_
      rintro e w1 ⟨rfl, hb⟩
      have HX1 := hidZ (HX0.out.step hb)
      clear hb HX0
      have c0 := HX1.out.R.cell
      have f0 := HX1.out.R.frozen
      have l0 := HX1.out.R.lt
      go_wp2
      refine bodyPost_ret (v := .agg #[.int .i64 0, .int .i64 0, .int .i64 0]) (by simp [results, Tryd.results15, go_sem, c0, f0, l0]) rfl ⟨by simp, HX1.out.end3 _ _ _⟩
    · have HB1 := hidZ (HB rfl)
      clear HB
      by_cases h : ba = 0
      · subst h
        go_enter Tryd.func15, Tryd.ntmps15
        go_wp2_with (fail)
        go_at_call 31
        refine (HR1.out _ (HT.out.below HX0.out.bel).r).mono ?_
        rintro e w1 ⟨rfl, hb⟩
        have HX1 := hidZ (HX0.out.step hb)
        clear hb HX0
        have c0 := HX1.out.T.cell
        have c1 := HX1.out.C.cell
        simp only at c1
        go_wp2_with (fail)
        go_at_call 32
        refine (HB1.out _ (HT.out.below HX1.out.bel).p).mono ?_
        rintro e w2 ⟨rfl, hb⟩
        have HX2 := hidZ (HX1.out.step hb)
        clear hb HX1 c0 c1
        have c0 := HX2.out.R.cell
        have f0 := HX2.out.R.frozen
        have l0 := HX2.out.R.lt
        go_wp2
        refine bodyPost_ret (v := .agg #[.int .i64 0, .int .i64 0, .int .i64 0]) (by simp [results, Tryd.results15, go_sem, c0, f0, l0]) rfl ⟨by simp, HX2.out.end3 _ _ _⟩
      · have q : (ba == 0) = false := by simp [h]
        go_enter Tryd.func15, Tryd.ntmps15
        go_wp2_with (fail)
        go_at_call 31
        refine (HR1.out _ (HT.out.below HX0.out.bel).r).mono ?_
        rintro e w1 ⟨rfl, hb⟩
        have HX1 := hidZ (HX0.out.step hb)
        clear hb HX0
        have c0 := HX1.out.T.cell
        have c1 := HX1.out.C.cell
        simp only at c1
        go_wp2_with (fail)
        go_at_call 32
        refine (HB1.out _ (HT.out.below HX1.out.bel).p).mono ?_
        rintro e w2 ⟨rfl, hb⟩
        have HS2 := hidZ (HX1.out.step hb)
        have HS := hidZ (HS2.out.drew)
        clear hb HX1 c0 c1
        go_wp2
        refine wp_region_held_drew (S := fun w' => w'.cell? ⟨w.heap.size, 0, none⟩ = some (.int .i64 t.size) ∧ w'.cell? ⟨w.heap.size, 3, none⟩ = some (.int .i64 t.dom)) (by kernel_rfl) (by (try dsimp only); exact ⟨HS.out.T.cell 0, HS.out.T.cell 3⟩) (fun hHeld => ?_)
        refine wpAnyH_take (i := 0) (oi := { dst := some 27, op := Op.move (Operand.tmp 9), type := 3, pos := _, after := #[], guard := none }) (v := ?_) rfl (by kernel_rfl) (by kernel_rfl) (by kernel_rfl) (fun _ _ _ h => h) (Or.inl ⟨by rfl, ?_⟩) (by assumption) ?_
        rotate_left
        · (intro w hSw; (try dsimp only at hSw); go_simp; try with_reducible rfl)
        simp only [Act.put, List.setIfInBounds_toArray, List.set_cons_zero, List.set_cons_succ]
        refine wpAnyH_take (i := 1) (oi := { dst := some 28, op := Op.fieldAddr 49 (Operand.tmp 4) 0, type := 0, pos := _, after := #[], guard := none }) (v := ?_) rfl (by kernel_rfl) (by kernel_rfl) (by kernel_rfl) (fun _ _ _ h => h) (Or.inl ⟨by rfl, ?_⟩) (by assumption) ?_
        rotate_left
        · (intro w hSw; (try dsimp only at hSw); go_simp; try with_reducible rfl)
        simp only [Act.put, List.setIfInBounds_toArray, List.set_cons_zero, List.set_cons_succ]
        refine wpAnyH_take (i := 2) (oi := { dst := some 29, op := Op.load 3 (Operand.tmp 28), type := 3, pos := _, after := #[{ on := 1, ground := Ground.data }], guard := none }) (v := ?_) rfl (by kernel_rfl) (by kernel_rfl) (by kernel_rfl) (fun _ _ _ h => h) (Or.inl ⟨by rfl, ?_⟩) (by assumption) ?_
        rotate_left
        · (intro w hSw; (try dsimp only at hSw); go_simp; try with_reducible rfl)
        simp only [Act.put, List.setIfInBounds_toArray, List.set_cons_zero, List.set_cons_succ]
        refine wpAnyH_take (i := 4) (oi := { dst := some 31, op := Op.fieldAddr 49 (Operand.tmp 4) 3, type := 0, pos := _, after := #[], guard := none }) (v := ?_) rfl (by kernel_rfl) (by kernel_rfl) (by kernel_rfl) (fun _ _ _ h => h) (Or.inl ⟨by rfl, ?_⟩) (by assumption) ?_
        rotate_left
        · (intro w hSw; (try dsimp only at hSw); go_simp; try with_reducible rfl)
        simp only [Act.put, List.setIfInBounds_toArray, List.set_cons_zero, List.set_cons_succ]
        refine wpAnyH_take (i := 5) (oi := { dst := some 32, op := Op.load 3 (Operand.tmp 31), type := 3, pos := _, after := #[{ on := 4, ground := Ground.data }], guard := none }) (v := ?_) rfl (by kernel_rfl) (by kernel_rfl) (by kernel_rfl) (fun _ _ _ h => h) (Or.inl ⟨by rfl, ?_⟩) (by assumption) ?_
        rotate_left
        · (intro w hSw; (try dsimp only at hSw); go_simp; try with_reducible rfl)
        simp only [Act.put, List.setIfInBounds_toArray, List.set_cons_zero, List.set_cons_succ]
        refine wpAnyH_ready (rs := [3]) (by kernel_rfl) (by simp) ?_
        refine (AllReadyH.cons (o := { dst := some 30, op := Op.call { callee := Callee.value (Operand.func 33), args := #[Operand.tmp 29], argTypes := #[3] }, type := 3, pos := _, after := #[{ on := 2, ground := Ground.data }], guard := none }) rfl (fun K hK => ?_) AllReadyH.nil)
        go_simp
        (go_at_call 33; refine (HL.out _ _).mono ?_; rintro e w3 ⟨rfl, rfl⟩)
        refine hK.out _ _ ?_ (fun hHeld => ?_)
        · ((try dsimp only); exact ⟨HS.out.T.cell 0, HS.out.T.cell 3⟩)
        clear hK K
        try simp only [Act.put, List.setIfInBounds_toArray, List.set_cons_zero, List.set_cons_succ]
        refine wpAnyH_take (i := 6) (oi := { dst := some 33, op := Op.build 32 #[(0, Operand.tmp 27), (1, Operand.tmp 30), (2, Operand.tmp 32)], type := 32, pos := _, after := #[{ on := 0, ground := Ground.data }, { on := 3, ground := Ground.data }, { on := 5, ground := Ground.data }], guard := none }) (v := ?_) rfl (by kernel_rfl) (by kernel_rfl) (by kernel_rfl) (fun _ _ _ h => h) (Or.inl ⟨by rfl, ?_⟩) (by assumption) ?_
        rotate_left
        · (intro w hSw; (try dsimp only at hSw); go_simp; try with_reducible rfl)
        simp only [Act.put, List.setIfInBounds_toArray, List.set_cons_zero, List.set_cons_succ]
        refine wpAnyH_ready (rs := [7]) (by kernel_rfl) (by simp) ?_
        refine (AllReadyH.cons (o := { dst := none, op := Op.store 32 (Operand.tmp 8) (Operand.tmp 33), type := 0, pos := _, after := #[{ on := 6, ground := Ground.data }, { on := 3, ground := Ground.chain }, { on := 0, ground := Ground.phase }, { on := 1, ground := Ground.phase }, { on := 2, ground := Ground.phase }, { on := 3, ground := Ground.phase }, { on := 4, ground := Ground.phase }, { on := 5, ground := Ground.phase }, { on := 6, ground := Ground.phase }], guard := none }) rfl (fun K hK => ?_) AllReadyH.nil)
        (have hd := HS2.out.R.cell; have hf := HS2.out.R.frozen; have hlt := HS2.out.R.lt)
        go_simp
        skip
        refine hK.out _ _ ?_ (fun hHeld => ?_)
        · ((try dsimp only); exact ⟨(HS.out.keep _ _ _).cell 0, (HS.out.keep _ _ _).cell 3⟩)
        clear hK K
        try simp only [Act.put, List.setIfInBounds_toArray, List.set_cons_zero, List.set_cons_succ]
        refine wpAnyH_done (by kernel_rfl) ?_ _
        (go_wp2; refine bodyPost_ret (v := .agg #[.int .i64 ba, .int .i64 (lvF t.size), .int .i64 t.dom]) (by simp [results, Tryd.results15, go_sem, hd, hf, hlt]) rfl ⟨by simp [h], HS.out.end3 _ _ _⟩)
/-- A translation's numbers fit. -/
structure Ft (t : Tra) : Prop where
  va : 0 ≤ t.va ∧ t.va < 4294967296
  pa : 0 ≤ t.pa ∧ t.pa < 18446744073709551616
  bt : 0 ≤ t.bits ∧ t.bits < 4294967296
theorem ri_range {t : Tra} (hf : Ft t) (h : riF t = true) : (0 ≤ t.dom ∧ t.dom ≤ 15) ∧ (0 ≤ t.ap ∧ t.ap ≤ 7) := by
  have hs : 1 ≤ t.size ∧ t.size ≤ 4 := by
    unfold riF at h
    simp at h
    exact h.1
  have hr := (ri_iff t ⟨hf.pa, hf.bt⟩ hs).1 h
  exact ⟨hr.2.2.1, hr.2.1.1, hr.2.1.2.1⟩
theorem check_any (t : Tra) (c : Ctx) (priv : Bool) (k : Int) (w : World) (hT : TC w) (hf : Ft t) (ha : 0 ≤ c.dacr ∧ c.dacr < 4294967296) :
    Calls Tryd.prog 15 #[.agg #[.int .i64 t.size, .int .u32 t.va, .int .u64 t.pa, .int .i64 t.dom, .int .i64 t.ap, .int .u32 t.bits, .bool t.ng, .bool t.xn], .agg #[.bool c.on, .bool c.tre, .bool c.afe, .int .i64 c.n, .bool c.pd0, .bool c.pd1, .int .u64 c.b0, .int .u64 c.b1, .int .u32 c.dacr, .int .u32 c.prrr, .int .u32 c.nmrr, .int .i64 c.asid], .bool priv, .int .i64 k] w fun e w' => e = .returned (.agg #[.int .i64 (chF t c priv k).k, .int .i64 (chF t c priv k).l, .int .i64 (chF t c priv k).d]) ∧ Below w.heap.size w w' := by
  have h := check_core t c.on c.tre c.afe c.n c.pd0 c.pd1 c.b0 c.b1 c.dacr c.prrr c.nmrr c.asid priv k (riF t) (baF t c.afe c.dacr priv k) w hT
    (fun _ w hw => right_any t w hw hf.va ⟨hf.pa, hf.bt⟩)
    (fun hr w hw => barrier_any t c priv k w hw ha (ri_range hf hr).1 (ri_range hf hr).2)
  refine h.mono ?_
  rintro e w' ⟨rfl, hb⟩
  refine ⟨?_, hb⟩
  unfold chF
  cases hq : (c.on && riF t) with
  | false => rfl
  | true =>
    rw [if_pos rfl, if_pos rfl]
    by_cases hz : baF t c.afe c.dacr priv k = 0
    · rw [if_pos hz, if_pos hz]
      rfl
    · rw [if_neg hz, if_neg hz]
end Go.Proofs.YtmodcbdgnmjkoabDoor
