import Derived.Test.YtdinmhjdnnhhjaaDoorRd
namespace Go.Proofs.YtdinmhjdnnhhjaaDoor
open Go.RowKit
set_option linter.unusedVariables false
set_option linter.unusedSimpArgs false
/-- The boxes of the reference's act. -/
structure AX (w wr : World) (g : Nat) (t : Tu) : Prop where
  bel : Below w.heap.size w wr
  box : Bl wr w.heap.size 27 ([.int .i64 t.a, .int .i64 t.b, .int .i64 t.c, .int .i64 t.d])
  act : Bl wr g 36 ([.int .i64 aZ.k, .int .i64 aZ.tk, .int .u32 (aZ.tva : Nat), .int .i64 (aZ.tas : Nat), .int .u32 (aZ.va : Nat), .bool aZ.us, .bool aZ.st])
  new : w.heap.size ≤ g
theorem AX.step {w wr wr' : World} {g : Nat} {t : Tu} (h : AX w wr g t) (hb : Below wr.heap.size wr wr') : AX w wr' g t := ⟨Below.step h.bel hb, h.box.below hb, h.act.below hb, h.new⟩
theorem AX.start (w : World) (t : Tu) : AX w ((w.alloc (.cells ([.int .i64 t.a, .int .i64 t.b, .int .i64 t.c, .int .i64 t.d]).toArray 27)).alloc (.cells ([.int .i64 aZ.k, .int .i64 aZ.tk, .int .u32 (aZ.tva : Nat), .int .i64 (aZ.tas : Nat), .int .u32 (aZ.va : Nat), .bool aZ.us, .bool aZ.st]).toArray 36)) (w.heap.size + 1) t := by
  have hb : Below w.heap.size w ((w.alloc (.cells ([.int .i64 t.a, .int .i64 t.b, .int .i64 t.c, .int .i64 t.d]).toArray 27)).alloc (.cells ([.int .i64 aZ.k, .int .i64 aZ.tk, .int .u32 (aZ.tva : Nat), .int .i64 (aZ.tas : Nat), .int .u32 (aZ.va : Nat), .bool aZ.us, .bool aZ.st]).toArray 36)) := (below_new _ _).alloc (by simp) _
  refine ⟨hb, (Bl.new _ _ _).below (below_new _ _), ?_, by omega⟩
  have := Bl.new (w.alloc (.cells ([.int .i64 t.a, .int .i64 t.b, .int .i64 t.c, .int .i64 t.d]).toArray 27)) 36 ([.int .i64 aZ.k, .int .i64 aZ.tk, .int .u32 (aZ.tva : Nat), .int .i64 (aZ.tas : Nat), .int .u32 (aZ.va : Nat), .bool aZ.us, .bool aZ.st])
  simpa using this
theorem pg_shift (x : Nat) (h : x < 4294967296) : IntKind.u32.wrap ((x : Int) / 4096 * 4096) = ((pg x : Nat) : Int) := by
  rw [IntKind.wrap_u32']
  unfold pg
  omega
set_option maxRecDepth 100000 in
set_option maxHeartbeats 4000000 in
theorem ract_ask (t : Tu) (x c : Nat) (w : World) (hx : x < 4294967296) (ha : asB t = true) (hd : t.d = (c : Int) - 4) (hc : c = 4 ∨ c = 5 ∨ c = 6 ∨ c = 7) :
    Calls Tryd.prog 37 #[.agg #[.int .i64 t.a, .int .i64 t.b, .int .i64 t.c, .int .i64 t.d], .int .u32 (x : Int)] w fun e w' => e = .returned (.agg #[.int .i64 ((actD c x)).k, .int .i64 ((actD c x)).tk, .int .u32 (((actD c x)).tva : Nat), .int .i64 (((actD c x)).tas : Nat), .int .u32 (((actD c x)).va : Nat), .bool ((actD c x)).us, .bool ((actD c x)).st]) ∧ Below w.heap.size w w' := by
  have HX0 : Hid _ := AX.start w t
  have hk := rasks_any t
  rw [ha] at hk
  have hp := pg_shift x hx
  have HP : Hid (∀ us st, actD c x = ⟨3, 0, 0, 0, pg x, us, st⟩ → actD c x = ⟨3, 0, 0, 0, pg x, us, st⟩) := fun _ _ h => h
  have HAc : Hid (actD c x = ⟨3, 0, 0, 0, pg x, decide (2 ≤ t.d), decide (t.d % 2 = 1)⟩) := by
    show _ = _
    rcases hc with rfl | rfl | rfl | rfl <;> (rw [hd]; rfl)
  rw [HAc.out]
  clear HAc HP ha
  obtain ⟨a1, a2, a3, d⟩ := t
  dsimp only at *
  have hd2 : d = 0 ∨ d = 1 ∨ d = 2 ∨ d = 3 := by omega
  generalize pg x = P at *
  clear hd hc
  rcases hd2 with rfl | rfl | rfl | rfl
  all_goals
    go_enter Tryd.func37, Tryd.ntmps37
    go_wp2_with (fail)
    go_at_call 46
    refine (hk _).mono ?_
    rintro e w1 ⟨rfl, hb⟩
    have HX1 : Hid _ := HX0.out.step hb
    clear hb HX0 hk
    generalize w.heap.size + 1 = g at *
    have c0 := HX1.out.box.cell
    have n0 := HX1.out.act.cell
    have n1 := HX1.out.act.frozen
    have n2 := HX1.out.act.lt
    have hn := HX1.out.new
    go_wp2
  · refine bodyPost_ret (v := .agg #[.int .i64 ((Ac.mk 3 0 0 0 P false false)).k, .int .i64 ((Ac.mk 3 0 0 0 P false false)).tk, .int .u32 (((Ac.mk 3 0 0 0 P false false)).tva : Nat), .int .i64 (((Ac.mk 3 0 0 0 P false false)).tas : Nat), .int .u32 (((Ac.mk 3 0 0 0 P false false)).va : Nat), .bool ((Ac.mk 3 0 0 0 P false false)).us, .bool ((Ac.mk 3 0 0 0 P false false)).st]) (by simp [results, Tryd.results37, go_sem, n0, n1, n2]) rfl ⟨rfl, ?_⟩
    (repeat (with_reducible refine Below.setCell ?_ (by simpa using hn) _)); with_reducible exact HX1.out.bel
  · refine bodyPost_ret (v := .agg #[.int .i64 ((Ac.mk 3 0 0 0 P false true)).k, .int .i64 ((Ac.mk 3 0 0 0 P false true)).tk, .int .u32 (((Ac.mk 3 0 0 0 P false true)).tva : Nat), .int .i64 (((Ac.mk 3 0 0 0 P false true)).tas : Nat), .int .u32 (((Ac.mk 3 0 0 0 P false true)).va : Nat), .bool ((Ac.mk 3 0 0 0 P false true)).us, .bool ((Ac.mk 3 0 0 0 P false true)).st]) (by simp [results, Tryd.results37, go_sem, n0, n1, n2]) rfl ⟨rfl, ?_⟩
    (repeat (with_reducible refine Below.setCell ?_ (by simpa using hn) _)); with_reducible exact HX1.out.bel
  · refine bodyPost_ret (v := .agg #[.int .i64 ((Ac.mk 3 0 0 0 P true false)).k, .int .i64 ((Ac.mk 3 0 0 0 P true false)).tk, .int .u32 (((Ac.mk 3 0 0 0 P true false)).tva : Nat), .int .i64 (((Ac.mk 3 0 0 0 P true false)).tas : Nat), .int .u32 (((Ac.mk 3 0 0 0 P true false)).va : Nat), .bool ((Ac.mk 3 0 0 0 P true false)).us, .bool ((Ac.mk 3 0 0 0 P true false)).st]) (by simp [results, Tryd.results37, go_sem, n0, n1, n2]) rfl ⟨rfl, ?_⟩
    (repeat (with_reducible refine Below.setCell ?_ (by simpa using hn) _)); with_reducible exact HX1.out.bel
  · refine bodyPost_ret (v := .agg #[.int .i64 ((Ac.mk 3 0 0 0 P true true)).k, .int .i64 ((Ac.mk 3 0 0 0 P true true)).tk, .int .u32 (((Ac.mk 3 0 0 0 P true true)).tva : Nat), .int .i64 (((Ac.mk 3 0 0 0 P true true)).tas : Nat), .int .u32 (((Ac.mk 3 0 0 0 P true true)).va : Nat), .bool ((Ac.mk 3 0 0 0 P true true)).us, .bool ((Ac.mk 3 0 0 0 P true true)).st]) (by simp [results, Tryd.results37, go_sem, n0, n1, n2]) rfl ⟨rfl, ?_⟩
    (repeat (with_reducible refine Below.setCell ?_ (by simpa using hn) _)); with_reducible exact HX1.out.bel
set_option maxRecDepth 100000 in
set_option maxHeartbeats 4000000 in
theorem ract_bar (t : Tu) (x : Nat) (w : World) (ha : asB t = false) (hd : drB t = false) :
    Calls Tryd.prog 37 #[.agg #[.int .i64 t.a, .int .i64 t.b, .int .i64 t.c, .int .i64 t.d], .int .u32 (x : Int)] w fun e w' => e = .returned (.agg #[.int .i64 ((actD 8 x)).k, .int .i64 ((actD 8 x)).tk, .int .u32 (((actD 8 x)).tva : Nat), .int .i64 (((actD 8 x)).tas : Nat), .int .u32 (((actD 8 x)).va : Nat), .bool ((actD 8 x)).us, .bool ((actD 8 x)).st]) ∧ Below w.heap.size w w' := by
  have HX0 : Hid _ := AX.start w t
  have hk := rasks_any t
  rw [ha] at hk
  have hk2 := rdrops_any t
  rw [hd] at hk2
  clear ha hd
  go_enter Tryd.func37, Tryd.ntmps37
  go_wp2_with (fail)
  go_at_call 46
  refine (hk _).mono ?_
  rintro e w1 ⟨rfl, hb⟩
  have HX1 : Hid _ := HX0.out.step hb
  clear hb HX0 hk
  generalize w.heap.size + 1 = g at *
  have c0 := HX1.out.box.cell
  go_wp2_with (fail)
  go_at_call 47
  refine (hk2 _).mono ?_
  rintro e w2 ⟨rfl, hb⟩
  have HX2 : Hid _ := HX1.out.step hb
  clear hb HX1 hk2 c0
  have n0 := HX2.out.act.cell
  have n1 := HX2.out.act.frozen
  have n2 := HX2.out.act.lt
  have hn := HX2.out.new
  go_wp2
  refine bodyPost_ret (v := .agg #[.int .i64 aZ.k, .int .i64 aZ.tk, .int .u32 (aZ.tva : Nat), .int .i64 (aZ.tas : Nat), .int .u32 (aZ.va : Nat), .bool aZ.us, .bool aZ.st]) (by simp [results, Tryd.results37, go_sem, n0, n1, n2, aZ]) rfl ⟨rfl, ?_⟩
  (repeat (with_reducible refine Below.setCell ?_ (by simpa using hn) _)); with_reducible exact HX2.out.bel
set_option maxRecDepth 100000 in
set_option maxHeartbeats 4000000 in
theorem ract_drop (t : Tu) (x c : Nat) (w : World) (hx : x < 4294967296) (ha : asB t = false) (hdr : drB t = true) (hd : t.d = (c : Int)) (hc : c < 4) :
    Calls Tryd.prog 37 #[.agg #[.int .i64 t.a, .int .i64 t.b, .int .i64 t.c, .int .i64 t.d], .int .u32 (x : Int)] w fun e w' => e = .returned (.agg #[.int .i64 ((actD c x)).k, .int .i64 ((actD c x)).tk, .int .u32 (((actD c x)).tva : Nat), .int .i64 (((actD c x)).tas : Nat), .int .u32 (((actD c x)).va : Nat), .bool ((actD c x)).us, .bool ((actD c x)).st]) ∧ Below w.heap.size w w' := by
  have HX0 : Hid _ := AX.start w t
  have hk := rasks_any t
  rw [ha] at hk
  have hk2 := rdrops_any t
  rw [hdr] at hk2
  have hp := pg_shift x hx
  have hm := and_255_u x hx
  have hm2 : IntKind.i64.wrap ((x % 256 : Nat) : Int) = ((x % 256 : Nat) : Int) := by rw [IntKind.wrap_i64]; omega
  obtain ⟨a1, a2, a3, d⟩ := t
  dsimp only at *
  subst hd
  clear ha hdr
  rcases (show c = 0 ∨ c = 1 ∨ c = 2 ∨ c = 3 by omega) with rfl | rfl | rfl | rfl
  · have HD : Hid (actD 0 x = ⟨2, 1, 0, 0, 0, false, false⟩) := rfl
    rw [HD.out]
    generalize pg x = P at *
    generalize x % 256 = M at *
    go_enter Tryd.func37, Tryd.ntmps37
    go_wp2_with (fail)
    go_at_call 46
    refine (hk _).mono ?_
    rintro e w1 ⟨rfl, hb⟩
    have HX1 : Hid _ := HX0.out.step hb
    clear hb HX0 hk
    generalize w.heap.size + 1 = g at *
    have c0 := HX1.out.box.cell
    go_wp2_with (fail)
    go_at_call 47
    refine (hk2 _).mono ?_
    rintro e w2 ⟨rfl, hb⟩
    have HX2 : Hid _ := HX1.out.step hb
    clear hb HX1 hk2 c0
    have c0 := HX2.out.box.cell
    have c1 := HX2.out.box.lt
    have n0 := HX2.out.act.cell
    have n1 := HX2.out.act.frozen
    have n2 := HX2.out.act.lt
    have hn := HX2.out.new
    have hgl : ¬ g = w2.heap.size := by omega
    have hwl : ¬ w.heap.size = w2.heap.size := by omega
    go_wp2
    refine bodyPost_ret (v := .agg #[.int .i64 ((Ac.mk 2 1 0 0 0 false false)).k, .int .i64 ((Ac.mk 2 1 0 0 0 false false)).tk, .int .u32 (((Ac.mk 2 1 0 0 0 false false)).tva : Nat), .int .i64 (((Ac.mk 2 1 0 0 0 false false)).tas : Nat), .int .u32 (((Ac.mk 2 1 0 0 0 false false)).va : Nat), .bool ((Ac.mk 2 1 0 0 0 false false)).us, .bool ((Ac.mk 2 1 0 0 0 false false)).st]) (by simp [results, Tryd.results37, go_sem, n0, n1, n2]) rfl ⟨rfl, ?_⟩
    refine Below.step ?_ (below_new _ _)
    (repeat (with_reducible refine Below.setCell ?_ (by simpa using hn) _)); with_reducible exact HX2.out.bel
  · have HD : Hid (actD 1 x = ⟨2, 2, pg x, x % 256, 0, false, false⟩) := rfl
    rw [HD.out]
    generalize pg x = P at *
    generalize x % 256 = M at *
    go_enter Tryd.func37, Tryd.ntmps37
    go_wp2_with (fail)
    go_at_call 46
    refine (hk _).mono ?_
    rintro e w1 ⟨rfl, hb⟩
    have HX1 : Hid _ := HX0.out.step hb
    clear hb HX0 hk
    generalize w.heap.size + 1 = g at *
    have c0 := HX1.out.box.cell
    go_wp2_with (fail)
    go_at_call 47
    refine (hk2 _).mono ?_
    rintro e w2 ⟨rfl, hb⟩
    have HX2 : Hid _ := HX1.out.step hb
    clear hb HX1 hk2 c0
    have c0 := HX2.out.box.cell
    have c1 := HX2.out.box.lt
    have n0 := HX2.out.act.cell
    have n1 := HX2.out.act.frozen
    have n2 := HX2.out.act.lt
    have hn := HX2.out.new
    have hgl : ¬ g = w2.heap.size := by omega
    have hwl : ¬ w.heap.size = w2.heap.size := by omega
    go_wp2
    refine bodyPost_ret (v := .agg #[.int .i64 ((Ac.mk 2 2 P M 0 false false)).k, .int .i64 ((Ac.mk 2 2 P M 0 false false)).tk, .int .u32 (((Ac.mk 2 2 P M 0 false false)).tva : Nat), .int .i64 (((Ac.mk 2 2 P M 0 false false)).tas : Nat), .int .u32 (((Ac.mk 2 2 P M 0 false false)).va : Nat), .bool ((Ac.mk 2 2 P M 0 false false)).us, .bool ((Ac.mk 2 2 P M 0 false false)).st]) (by simp [results, Tryd.results37, go_sem, n0, n1, n2]) rfl ⟨rfl, ?_⟩
    refine Below.step ?_ (below_new _ _)
    (repeat (with_reducible refine Below.setCell ?_ (by simpa using hn) _)); with_reducible exact HX2.out.bel
  · have HD : Hid (actD 2 x = ⟨2, 3, 0, x % 256, 0, false, false⟩) := rfl
    rw [HD.out]
    generalize pg x = P at *
    generalize x % 256 = M at *
    go_enter Tryd.func37, Tryd.ntmps37
    go_wp2_with (fail)
    go_at_call 46
    refine (hk _).mono ?_
    rintro e w1 ⟨rfl, hb⟩
    have HX1 : Hid _ := HX0.out.step hb
    clear hb HX0 hk
    generalize w.heap.size + 1 = g at *
    have c0 := HX1.out.box.cell
    go_wp2_with (fail)
    go_at_call 47
    refine (hk2 _).mono ?_
    rintro e w2 ⟨rfl, hb⟩
    have HX2 : Hid _ := HX1.out.step hb
    clear hb HX1 hk2 c0
    have c0 := HX2.out.box.cell
    have c1 := HX2.out.box.lt
    have n0 := HX2.out.act.cell
    have n1 := HX2.out.act.frozen
    have n2 := HX2.out.act.lt
    have hn := HX2.out.new
    have hgl : ¬ g = w2.heap.size := by omega
    have hwl : ¬ w.heap.size = w2.heap.size := by omega
    go_wp2
    refine bodyPost_ret (v := .agg #[.int .i64 ((Ac.mk 2 3 0 M 0 false false)).k, .int .i64 ((Ac.mk 2 3 0 M 0 false false)).tk, .int .u32 (((Ac.mk 2 3 0 M 0 false false)).tva : Nat), .int .i64 (((Ac.mk 2 3 0 M 0 false false)).tas : Nat), .int .u32 (((Ac.mk 2 3 0 M 0 false false)).va : Nat), .bool ((Ac.mk 2 3 0 M 0 false false)).us, .bool ((Ac.mk 2 3 0 M 0 false false)).st]) (by simp [results, Tryd.results37, go_sem, n0, n1, n2]) rfl ⟨rfl, ?_⟩
    refine Below.step ?_ (below_new _ _)
    (repeat (with_reducible refine Below.setCell ?_ (by simpa using hn) _)); with_reducible exact HX2.out.bel
  · have HD : Hid (actD 3 x = ⟨2, 4, pg x, 0, 0, false, false⟩) := rfl
    rw [HD.out]
    generalize pg x = P at *
    generalize x % 256 = M at *
    go_enter Tryd.func37, Tryd.ntmps37
    go_wp2_with (fail)
    go_at_call 46
    refine (hk _).mono ?_
    rintro e w1 ⟨rfl, hb⟩
    have HX1 : Hid _ := HX0.out.step hb
    clear hb HX0 hk
    generalize w.heap.size + 1 = g at *
    have c0 := HX1.out.box.cell
    go_wp2_with (fail)
    go_at_call 47
    refine (hk2 _).mono ?_
    rintro e w2 ⟨rfl, hb⟩
    have HX2 : Hid _ := HX1.out.step hb
    clear hb HX1 hk2 c0
    have c0 := HX2.out.box.cell
    have c1 := HX2.out.box.lt
    have n0 := HX2.out.act.cell
    have n1 := HX2.out.act.frozen
    have n2 := HX2.out.act.lt
    have hn := HX2.out.new
    have hgl : ¬ g = w2.heap.size := by omega
    have hwl : ¬ w.heap.size = w2.heap.size := by omega
    go_wp2
    refine bodyPost_ret (v := .agg #[.int .i64 ((Ac.mk 2 4 P 0 0 false false)).k, .int .i64 ((Ac.mk 2 4 P 0 0 false false)).tk, .int .u32 (((Ac.mk 2 4 P 0 0 false false)).tva : Nat), .int .i64 (((Ac.mk 2 4 P 0 0 false false)).tas : Nat), .int .u32 (((Ac.mk 2 4 P 0 0 false false)).va : Nat), .bool ((Ac.mk 2 4 P 0 0 false false)).us, .bool ((Ac.mk 2 4 P 0 0 false false)).st]) (by simp [results, Tryd.results37, go_sem, n0, n1, n2]) rfl ⟨rfl, ?_⟩
    refine Below.step ?_ (below_new _ _)
    (repeat (with_reducible refine Below.setCell ?_ (by simpa using hn) _)); with_reducible exact HX2.out.bel
theorem ract_any (t : Tu) (x c : Nat) (w : World) (hx : x < 4294967296) (h : opOf t = some c) :
    Calls Tryd.prog 37 #[.agg #[.int .i64 t.a, .int .i64 t.b, .int .i64 t.c, .int .i64 t.d], .int .u32 (x : Int)] w fun e w' => e = .returned (.agg #[.int .i64 ((actD c x)).k, .int .i64 ((actD c x)).tk, .int .u32 (((actD c x)).tva : Nat), .int .i64 (((actD c x)).tas : Nat), .int .u32 (((actD c x)).va : Nat), .bool ((actD c x)).us, .bool ((actD c x)).st]) ∧ Below w.heap.size w w' := by
  rcases op_mem h with ⟨rfl, _, h2, h3⟩ | ⟨h1, _, h2, h3, h4⟩ | ⟨h0, h1, _, h2, h3, h4⟩
  · exact ract_bar t x w h2 h3
  · exact ract_drop t x c w hx h2 h3 h4 h1
  · exact ract_ask t x c w hx h2 h4 (by omega)
end Go.Proofs.YtdinmhjdnnhhjaaDoor
