import Derived.Test.YtdinmhjdnnhhjaaDoorPj
namespace Go.Proofs.YtdinmhjdnnhhjaaDoor
open Go.RowKit
set_option linter.unusedVariables false
set_option linter.unusedSimpArgs false
set_option maxRecDepth 100000 in
set_option maxHeartbeats 4000000 in
theorem write_yes0 (b x : Nat) (t : Tu) (F : List Nat) (w : World) (hF : Fi 63 w b F) (hT : TR w) (hx : x < 4294967296) (hr : regOf t = none) (ho : opOf t = some 0) :
    Calls Tryd.prog 17 #[.pointer (some ⟨b, 0, none⟩), .agg #[.int .i64 t.a, .int .i64 t.b, .int .i64 t.c, .int .i64 t.d], .bool true, .int .u32 (x : Int)] w fun e w' => e = .returned (.tuple #[.agg #[.int .i64 ((actD 0 x)).k, .int .i64 ((actD 0 x)).tk, .int .u32 (((actD 0 x)).tva : Nat), .int .i64 (((actD 0 x)).tas : Nat), .int .u32 (((actD 0 x)).va : Nat), .bool ((actD 0 x)).us, .bool ((actD 0 x)).st], .int .i64 0]) ∧ Fi 63 w' b F ∧ Turn (· = b) w w' := by
  have HX0 : Hid _ := WX.start w b t F hF hT
  have hreg := fun w h => register_any t w h
  rw [hr] at hreg
  have HN : Hid (∀ w, Calls Tryd.prog 26 #[.agg #[.int .i64 t.a, .int .i64 t.b, .int .i64 t.c, .int .i64 t.d]] w fun e w' => ∃ n, e = .returned (.tuple #[.agg #[.int .i64 t.a, .int .i64 t.b, .int .i64 t.c, .int .i64 t.d, .bool false, .func (.func 40) #[] #[]], .bool true]) ∧ Asks w' n ∧ Below w.heap.size w w') := fun w => by
    have := named_any operations_any t w
    simpa [nmV, ho, doV] using this
  clear hF hT hr ho
  go_enter Tryd.func17, Tryd.ntmps17
  go_wp2_with (fail)
  go_at_call 12
  refine (hreg _ HX0.out.tr).mono ?_
  rintro e w1 ⟨rfl, hb⟩
  have HX1 : Hid _ := HX0.out.step hb
  clear hb HX0 hreg
  generalize w.heap.size + 1 = g at *
  have c0 := HX1.out.box.cell
  go_wp2_with (fail)
  go_at_call 26
  refine (HN.out _).mono ?_
  rintro e w2 ⟨n, rfl, hA, hb⟩
  have HX2 : Hid _ := HX1.out.step hb
  have HA : Hid (Asks w2 n) := hA
  clear hb HX1 HN hA c0
  have HB3 : ∀ o, Hid (WX w (w2.alloc o) g b t F ∧ Asks (w2.alloc o) n) := fun o => ⟨HX2.out.step (below_new _ _), HA.out.below (below_new _ _)⟩
  go_wp2_with (fail)
  go_at_call 40
  have HX3 := (HB3 (.cells #[.int .i64 t.a, .int .i64 t.b, .int .i64 t.c, .int .i64 t.d, .bool false, .func (.func 40) #[] #[]] 72)).out.1
  have hA3 := (HB3 (.cells #[.int .i64 t.a, .int .i64 t.b, .int .i64 t.c, .int .i64 t.d, .bool false, .func (.func 40) #[] #[]] 72)).out.2
  have HA3 : Hid (Asks _ n) := hA3
  have HX4 : Hid (WX w _ g b t F) := HX3
  clear hA3 HX3 HB3 HA HX2
  generalize w2.alloc _ = w3 at *
  refine (act0_any x w3 hx).mono ?_
  rintro e w4 ⟨rfl, hb⟩
  have HX5 : Hid _ := HX4.out.step hb
  clear hb HX4 HA3
  generalize hZ : actD 0 x = Z at *
  have HZ : Hid (actD 0 x = Z) := hZ
  clear hZ
  obtain ⟨z1, z2, z3, z4, z5, z6, z7⟩ := Z
  have n0 := HX5.out.act.cell
  have n1 := HX5.out.act.frozen
  have n2 := HX5.out.act.lt
  have hgb : ¬ g = b := by have := HX5.out.new; have := HX5.out.old; omega
  have hn := HX5.out.new
  go_wp2
  refine bodyPost_ret (v := .tuple #[.agg #[.int .i64 z1, .int .i64 z2, .int .u32 (z3 : Nat), .int .i64 (z4 : Nat), .int .u32 (z5 : Nat), .bool z6, .bool z7], .int .i64 0]) (by simp [results, Tryd.results17, go_sem, n0, n1, n2]) rfl ⟨by rw [HZ.out], ?_, ?_⟩
  · (repeat (with_reducible refine Fi.setO ?_ (Ne.symm hgb) _ _)); with_reducible exact HX5.out.fi
  · (repeat (with_reducible refine Turn.setCell ?_ (.inr (by simpa using hn)) _)); with_reducible exact Turn.below HX5.out.bel
set_option maxRecDepth 100000 in
set_option maxHeartbeats 4000000 in
theorem write_yes1 (b x : Nat) (t : Tu) (F : List Nat) (w : World) (hF : Fi 63 w b F) (hT : TR w) (hx : x < 4294967296) (hr : regOf t = none) (ho : opOf t = some 1) :
    Calls Tryd.prog 17 #[.pointer (some ⟨b, 0, none⟩), .agg #[.int .i64 t.a, .int .i64 t.b, .int .i64 t.c, .int .i64 t.d], .bool true, .int .u32 (x : Int)] w fun e w' => e = .returned (.tuple #[.agg #[.int .i64 ((actD 1 x)).k, .int .i64 ((actD 1 x)).tk, .int .u32 (((actD 1 x)).tva : Nat), .int .i64 (((actD 1 x)).tas : Nat), .int .u32 (((actD 1 x)).va : Nat), .bool ((actD 1 x)).us, .bool ((actD 1 x)).st], .int .i64 0]) ∧ Fi 63 w' b F ∧ Turn (· = b) w w' := by
  have HX0 : Hid _ := WX.start w b t F hF hT
  have hreg := fun w h => register_any t w h
  rw [hr] at hreg
  have HN : Hid (∀ w, Calls Tryd.prog 26 #[.agg #[.int .i64 t.a, .int .i64 t.b, .int .i64 t.c, .int .i64 t.d]] w fun e w' => ∃ n, e = .returned (.tuple #[.agg #[.int .i64 t.a, .int .i64 t.b, .int .i64 t.c, .int .i64 t.d, .bool false, .func (.func 41) #[] #[]], .bool true]) ∧ Asks w' n ∧ Below w.heap.size w w') := fun w => by
    have := named_any operations_any t w
    simpa [nmV, ho, doV] using this
  clear hF hT hr ho
  go_enter Tryd.func17, Tryd.ntmps17
  go_wp2_with (fail)
  go_at_call 12
  refine (hreg _ HX0.out.tr).mono ?_
  rintro e w1 ⟨rfl, hb⟩
  have HX1 : Hid _ := HX0.out.step hb
  clear hb HX0 hreg
  generalize w.heap.size + 1 = g at *
  have c0 := HX1.out.box.cell
  go_wp2_with (fail)
  go_at_call 26
  refine (HN.out _).mono ?_
  rintro e w2 ⟨n, rfl, hA, hb⟩
  have HX2 : Hid _ := HX1.out.step hb
  have HA : Hid (Asks w2 n) := hA
  clear hb HX1 HN hA c0
  have HB3 : ∀ o, Hid (WX w (w2.alloc o) g b t F ∧ Asks (w2.alloc o) n) := fun o => ⟨HX2.out.step (below_new _ _), HA.out.below (below_new _ _)⟩
  go_wp2_with (fail)
  go_at_call 41
  have HX3 := (HB3 (.cells #[.int .i64 t.a, .int .i64 t.b, .int .i64 t.c, .int .i64 t.d, .bool false, .func (.func 41) #[] #[]] 72)).out.1
  have hA3 := (HB3 (.cells #[.int .i64 t.a, .int .i64 t.b, .int .i64 t.c, .int .i64 t.d, .bool false, .func (.func 41) #[] #[]] 72)).out.2
  have HA3 : Hid (Asks _ n) := hA3
  have HX4 : Hid (WX w _ g b t F) := HX3
  clear hA3 HX3 HB3 HA HX2
  generalize w2.alloc _ = w3 at *
  refine (act1_any x w3 hx).mono ?_
  rintro e w4 ⟨rfl, hb⟩
  have HX5 : Hid _ := HX4.out.step hb
  clear hb HX4 HA3
  generalize hZ : actD 1 x = Z at *
  have HZ : Hid (actD 1 x = Z) := hZ
  clear hZ
  obtain ⟨z1, z2, z3, z4, z5, z6, z7⟩ := Z
  have n0 := HX5.out.act.cell
  have n1 := HX5.out.act.frozen
  have n2 := HX5.out.act.lt
  have hgb : ¬ g = b := by have := HX5.out.new; have := HX5.out.old; omega
  have hn := HX5.out.new
  go_wp2
  refine bodyPost_ret (v := .tuple #[.agg #[.int .i64 z1, .int .i64 z2, .int .u32 (z3 : Nat), .int .i64 (z4 : Nat), .int .u32 (z5 : Nat), .bool z6, .bool z7], .int .i64 0]) (by simp [results, Tryd.results17, go_sem, n0, n1, n2]) rfl ⟨by rw [HZ.out], ?_, ?_⟩
  · (repeat (with_reducible refine Fi.setO ?_ (Ne.symm hgb) _ _)); with_reducible exact HX5.out.fi
  · (repeat (with_reducible refine Turn.setCell ?_ (.inr (by simpa using hn)) _)); with_reducible exact Turn.below HX5.out.bel
set_option maxRecDepth 100000 in
set_option maxHeartbeats 4000000 in
theorem write_yes2 (b x : Nat) (t : Tu) (F : List Nat) (w : World) (hF : Fi 63 w b F) (hT : TR w) (hx : x < 4294967296) (hr : regOf t = none) (ho : opOf t = some 2) :
    Calls Tryd.prog 17 #[.pointer (some ⟨b, 0, none⟩), .agg #[.int .i64 t.a, .int .i64 t.b, .int .i64 t.c, .int .i64 t.d], .bool true, .int .u32 (x : Int)] w fun e w' => e = .returned (.tuple #[.agg #[.int .i64 ((actD 2 x)).k, .int .i64 ((actD 2 x)).tk, .int .u32 (((actD 2 x)).tva : Nat), .int .i64 (((actD 2 x)).tas : Nat), .int .u32 (((actD 2 x)).va : Nat), .bool ((actD 2 x)).us, .bool ((actD 2 x)).st], .int .i64 0]) ∧ Fi 63 w' b F ∧ Turn (· = b) w w' := by
  have HX0 : Hid _ := WX.start w b t F hF hT
  have hreg := fun w h => register_any t w h
  rw [hr] at hreg
  have HN : Hid (∀ w, Calls Tryd.prog 26 #[.agg #[.int .i64 t.a, .int .i64 t.b, .int .i64 t.c, .int .i64 t.d]] w fun e w' => ∃ n, e = .returned (.tuple #[.agg #[.int .i64 t.a, .int .i64 t.b, .int .i64 t.c, .int .i64 t.d, .bool false, .func (.func 42) #[] #[]], .bool true]) ∧ Asks w' n ∧ Below w.heap.size w w') := fun w => by
    have := named_any operations_any t w
    simpa [nmV, ho, doV] using this
  clear hF hT hr ho
  go_enter Tryd.func17, Tryd.ntmps17
  go_wp2_with (fail)
  go_at_call 12
  refine (hreg _ HX0.out.tr).mono ?_
  rintro e w1 ⟨rfl, hb⟩
  have HX1 : Hid _ := HX0.out.step hb
  clear hb HX0 hreg
  generalize w.heap.size + 1 = g at *
  have c0 := HX1.out.box.cell
  go_wp2_with (fail)
  go_at_call 26
  refine (HN.out _).mono ?_
  rintro e w2 ⟨n, rfl, hA, hb⟩
  have HX2 : Hid _ := HX1.out.step hb
  have HA : Hid (Asks w2 n) := hA
  clear hb HX1 HN hA c0
  have HB3 : ∀ o, Hid (WX w (w2.alloc o) g b t F ∧ Asks (w2.alloc o) n) := fun o => ⟨HX2.out.step (below_new _ _), HA.out.below (below_new _ _)⟩
  go_wp2_with (fail)
  go_at_call 42
  have HX3 := (HB3 (.cells #[.int .i64 t.a, .int .i64 t.b, .int .i64 t.c, .int .i64 t.d, .bool false, .func (.func 42) #[] #[]] 72)).out.1
  have hA3 := (HB3 (.cells #[.int .i64 t.a, .int .i64 t.b, .int .i64 t.c, .int .i64 t.d, .bool false, .func (.func 42) #[] #[]] 72)).out.2
  have HA3 : Hid (Asks _ n) := hA3
  have HX4 : Hid (WX w _ g b t F) := HX3
  clear hA3 HX3 HB3 HA HX2
  generalize w2.alloc _ = w3 at *
  refine (act2_any x w3 hx).mono ?_
  rintro e w4 ⟨rfl, hb⟩
  have HX5 : Hid _ := HX4.out.step hb
  clear hb HX4 HA3
  generalize hZ : actD 2 x = Z at *
  have HZ : Hid (actD 2 x = Z) := hZ
  clear hZ
  obtain ⟨z1, z2, z3, z4, z5, z6, z7⟩ := Z
  have n0 := HX5.out.act.cell
  have n1 := HX5.out.act.frozen
  have n2 := HX5.out.act.lt
  have hgb : ¬ g = b := by have := HX5.out.new; have := HX5.out.old; omega
  have hn := HX5.out.new
  go_wp2
  refine bodyPost_ret (v := .tuple #[.agg #[.int .i64 z1, .int .i64 z2, .int .u32 (z3 : Nat), .int .i64 (z4 : Nat), .int .u32 (z5 : Nat), .bool z6, .bool z7], .int .i64 0]) (by simp [results, Tryd.results17, go_sem, n0, n1, n2]) rfl ⟨by rw [HZ.out], ?_, ?_⟩
  · (repeat (with_reducible refine Fi.setO ?_ (Ne.symm hgb) _ _)); with_reducible exact HX5.out.fi
  · (repeat (with_reducible refine Turn.setCell ?_ (.inr (by simpa using hn)) _)); with_reducible exact Turn.below HX5.out.bel
set_option maxRecDepth 100000 in
set_option maxHeartbeats 4000000 in
theorem write_yes3 (b x : Nat) (t : Tu) (F : List Nat) (w : World) (hF : Fi 63 w b F) (hT : TR w) (hx : x < 4294967296) (hr : regOf t = none) (ho : opOf t = some 3) :
    Calls Tryd.prog 17 #[.pointer (some ⟨b, 0, none⟩), .agg #[.int .i64 t.a, .int .i64 t.b, .int .i64 t.c, .int .i64 t.d], .bool true, .int .u32 (x : Int)] w fun e w' => e = .returned (.tuple #[.agg #[.int .i64 ((actD 3 x)).k, .int .i64 ((actD 3 x)).tk, .int .u32 (((actD 3 x)).tva : Nat), .int .i64 (((actD 3 x)).tas : Nat), .int .u32 (((actD 3 x)).va : Nat), .bool ((actD 3 x)).us, .bool ((actD 3 x)).st], .int .i64 0]) ∧ Fi 63 w' b F ∧ Turn (· = b) w w' := by
  have HX0 : Hid _ := WX.start w b t F hF hT
  have hreg := fun w h => register_any t w h
  rw [hr] at hreg
  have HN : Hid (∀ w, Calls Tryd.prog 26 #[.agg #[.int .i64 t.a, .int .i64 t.b, .int .i64 t.c, .int .i64 t.d]] w fun e w' => ∃ n, e = .returned (.tuple #[.agg #[.int .i64 t.a, .int .i64 t.b, .int .i64 t.c, .int .i64 t.d, .bool false, .func (.func 43) #[] #[]], .bool true]) ∧ Asks w' n ∧ Below w.heap.size w w') := fun w => by
    have := named_any operations_any t w
    simpa [nmV, ho, doV] using this
  clear hF hT hr ho
  go_enter Tryd.func17, Tryd.ntmps17
  go_wp2_with (fail)
  go_at_call 12
  refine (hreg _ HX0.out.tr).mono ?_
  rintro e w1 ⟨rfl, hb⟩
  have HX1 : Hid _ := HX0.out.step hb
  clear hb HX0 hreg
  generalize w.heap.size + 1 = g at *
  have c0 := HX1.out.box.cell
  go_wp2_with (fail)
  go_at_call 26
  refine (HN.out _).mono ?_
  rintro e w2 ⟨n, rfl, hA, hb⟩
  have HX2 : Hid _ := HX1.out.step hb
  have HA : Hid (Asks w2 n) := hA
  clear hb HX1 HN hA c0
  have HB3 : ∀ o, Hid (WX w (w2.alloc o) g b t F ∧ Asks (w2.alloc o) n) := fun o => ⟨HX2.out.step (below_new _ _), HA.out.below (below_new _ _)⟩
  go_wp2_with (fail)
  go_at_call 43
  have HX3 := (HB3 (.cells #[.int .i64 t.a, .int .i64 t.b, .int .i64 t.c, .int .i64 t.d, .bool false, .func (.func 43) #[] #[]] 72)).out.1
  have hA3 := (HB3 (.cells #[.int .i64 t.a, .int .i64 t.b, .int .i64 t.c, .int .i64 t.d, .bool false, .func (.func 43) #[] #[]] 72)).out.2
  have HA3 : Hid (Asks _ n) := hA3
  have HX4 : Hid (WX w _ g b t F) := HX3
  clear hA3 HX3 HB3 HA HX2
  generalize w2.alloc _ = w3 at *
  refine (act3_any x w3 hx).mono ?_
  rintro e w4 ⟨rfl, hb⟩
  have HX5 : Hid _ := HX4.out.step hb
  clear hb HX4 HA3
  generalize hZ : actD 3 x = Z at *
  have HZ : Hid (actD 3 x = Z) := hZ
  clear hZ
  obtain ⟨z1, z2, z3, z4, z5, z6, z7⟩ := Z
  have n0 := HX5.out.act.cell
  have n1 := HX5.out.act.frozen
  have n2 := HX5.out.act.lt
  have hgb : ¬ g = b := by have := HX5.out.new; have := HX5.out.old; omega
  have hn := HX5.out.new
  go_wp2
  refine bodyPost_ret (v := .tuple #[.agg #[.int .i64 z1, .int .i64 z2, .int .u32 (z3 : Nat), .int .i64 (z4 : Nat), .int .u32 (z5 : Nat), .bool z6, .bool z7], .int .i64 0]) (by simp [results, Tryd.results17, go_sem, n0, n1, n2]) rfl ⟨by rw [HZ.out], ?_, ?_⟩
  · (repeat (with_reducible refine Fi.setO ?_ (Ne.symm hgb) _ _)); with_reducible exact HX5.out.fi
  · (repeat (with_reducible refine Turn.setCell ?_ (.inr (by simpa using hn)) _)); with_reducible exact Turn.below HX5.out.bel
set_option maxRecDepth 100000 in
set_option maxHeartbeats 4000000 in
theorem write_yes4 (b x : Nat) (t : Tu) (F : List Nat) (w : World) (hF : Fi 63 w b F) (hT : TR w) (hx : x < 4294967296) (hr : regOf t = none) (ho : opOf t = some 4) :
    Calls Tryd.prog 17 #[.pointer (some ⟨b, 0, none⟩), .agg #[.int .i64 t.a, .int .i64 t.b, .int .i64 t.c, .int .i64 t.d], .bool true, .int .u32 (x : Int)] w fun e w' => e = .returned (.tuple #[.agg #[.int .i64 ((actD 4 x)).k, .int .i64 ((actD 4 x)).tk, .int .u32 (((actD 4 x)).tva : Nat), .int .i64 (((actD 4 x)).tas : Nat), .int .u32 (((actD 4 x)).va : Nat), .bool ((actD 4 x)).us, .bool ((actD 4 x)).st], .int .i64 0]) ∧ Fi 63 w' b F ∧ Turn (· = b) w w' := by
  have HX0 : Hid _ := WX.start w b t F hF hT
  have hreg := fun w h => register_any t w h
  rw [hr] at hreg
  have HN : Hid (∀ w, Calls Tryd.prog 26 #[.agg #[.int .i64 t.a, .int .i64 t.b, .int .i64 t.c, .int .i64 t.d]] w fun e w' => ∃ n, e = .returned (.tuple #[.agg #[.int .i64 t.a, .int .i64 t.b, .int .i64 t.c, .int .i64 t.d, .bool false, .func (.func 48) #[] #[.pointer (some ⟨n + 1, 0, none⟩), .pointer (some ⟨n + 2, 0, none⟩)]], .bool true]) ∧ Asks w' n ∧ Below w.heap.size w w') := fun w => by
    have := named_any operations_any t w
    simpa [nmV, ho, doV] using this
  clear hF hT hr ho
  go_enter Tryd.func17, Tryd.ntmps17
  go_wp2_with (fail)
  go_at_call 12
  refine (hreg _ HX0.out.tr).mono ?_
  rintro e w1 ⟨rfl, hb⟩
  have HX1 : Hid _ := HX0.out.step hb
  clear hb HX0 hreg
  generalize w.heap.size + 1 = g at *
  have c0 := HX1.out.box.cell
  go_wp2_with (fail)
  go_at_call 26
  refine (HN.out _).mono ?_
  rintro e w2 ⟨n, rfl, hA, hb⟩
  have HX2 : Hid _ := HX1.out.step hb
  have HA : Hid (Asks w2 n) := hA
  clear hb HX1 HN hA c0
  have HB3 : ∀ o, Hid (WX w (w2.alloc o) g b t F ∧ Asks (w2.alloc o) n) := fun o => ⟨HX2.out.step (below_new _ _), HA.out.below (below_new _ _)⟩
  go_wp2_with (fail)
  go_at_call 48
  have HX3 := (HB3 (.cells #[.int .i64 t.a, .int .i64 t.b, .int .i64 t.c, .int .i64 t.d, .bool false, .func (.func 48) #[] #[.pointer (some ⟨n + 1, 0, none⟩), .pointer (some ⟨n + 2, 0, none⟩)]] 72)).out.1
  have hA3 := (HB3 (.cells #[.int .i64 t.a, .int .i64 t.b, .int .i64 t.c, .int .i64 t.d, .bool false, .func (.func 48) #[] #[.pointer (some ⟨n + 1, 0, none⟩), .pointer (some ⟨n + 2, 0, none⟩)]] 72)).out.2
  have HA3 : Hid (Asks _ n) := hA3
  have HX4 : Hid (WX w _ g b t F) := HX3
  clear hA3 HX3 HB3 HA HX2
  generalize w2.alloc _ = w3 at *
  refine (actA_any x (n + 1) (n + 2) false false w3 hx HA3.out.c1 HA3.out.c2).mono ?_
  rintro e w4 ⟨rfl, hb⟩
  have HX5 : Hid _ := HX4.out.step hb
  clear hb HX4 HA3
  generalize hZ : Ac.mk 3 0 0 0 (pg x) false false = Z at *
  have HZ : Hid (actD 4 x = Z) := hZ
  clear hZ
  obtain ⟨z1, z2, z3, z4, z5, z6, z7⟩ := Z
  have n0 := HX5.out.act.cell
  have n1 := HX5.out.act.frozen
  have n2 := HX5.out.act.lt
  have hgb : ¬ g = b := by have := HX5.out.new; have := HX5.out.old; omega
  have hn := HX5.out.new
  go_wp2
  refine bodyPost_ret (v := .tuple #[.agg #[.int .i64 z1, .int .i64 z2, .int .u32 (z3 : Nat), .int .i64 (z4 : Nat), .int .u32 (z5 : Nat), .bool z6, .bool z7], .int .i64 0]) (by simp [results, Tryd.results17, go_sem, n0, n1, n2]) rfl ⟨by rw [HZ.out], ?_, ?_⟩
  · (repeat (with_reducible refine Fi.setO ?_ (Ne.symm hgb) _ _)); with_reducible exact HX5.out.fi
  · (repeat (with_reducible refine Turn.setCell ?_ (.inr (by simpa using hn)) _)); with_reducible exact Turn.below HX5.out.bel
set_option maxRecDepth 100000 in
set_option maxHeartbeats 4000000 in
theorem write_yes5 (b x : Nat) (t : Tu) (F : List Nat) (w : World) (hF : Fi 63 w b F) (hT : TR w) (hx : x < 4294967296) (hr : regOf t = none) (ho : opOf t = some 5) :
    Calls Tryd.prog 17 #[.pointer (some ⟨b, 0, none⟩), .agg #[.int .i64 t.a, .int .i64 t.b, .int .i64 t.c, .int .i64 t.d], .bool true, .int .u32 (x : Int)] w fun e w' => e = .returned (.tuple #[.agg #[.int .i64 ((actD 5 x)).k, .int .i64 ((actD 5 x)).tk, .int .u32 (((actD 5 x)).tva : Nat), .int .i64 (((actD 5 x)).tas : Nat), .int .u32 (((actD 5 x)).va : Nat), .bool ((actD 5 x)).us, .bool ((actD 5 x)).st], .int .i64 0]) ∧ Fi 63 w' b F ∧ Turn (· = b) w w' := by
  have HX0 : Hid _ := WX.start w b t F hF hT
  have hreg := fun w h => register_any t w h
  rw [hr] at hreg
  have HN : Hid (∀ w, Calls Tryd.prog 26 #[.agg #[.int .i64 t.a, .int .i64 t.b, .int .i64 t.c, .int .i64 t.d]] w fun e w' => ∃ n, e = .returned (.tuple #[.agg #[.int .i64 t.a, .int .i64 t.b, .int .i64 t.c, .int .i64 t.d, .bool false, .func (.func 48) #[] #[.pointer (some ⟨n + 3, 0, none⟩), .pointer (some ⟨n + 4, 0, none⟩)]], .bool true]) ∧ Asks w' n ∧ Below w.heap.size w w') := fun w => by
    have := named_any operations_any t w
    simpa [nmV, ho, doV] using this
  clear hF hT hr ho
  go_enter Tryd.func17, Tryd.ntmps17
  go_wp2_with (fail)
  go_at_call 12
  refine (hreg _ HX0.out.tr).mono ?_
  rintro e w1 ⟨rfl, hb⟩
  have HX1 : Hid _ := HX0.out.step hb
  clear hb HX0 hreg
  generalize w.heap.size + 1 = g at *
  have c0 := HX1.out.box.cell
  go_wp2_with (fail)
  go_at_call 26
  refine (HN.out _).mono ?_
  rintro e w2 ⟨n, rfl, hA, hb⟩
  have HX2 : Hid _ := HX1.out.step hb
  have HA : Hid (Asks w2 n) := hA
  clear hb HX1 HN hA c0
  have HB3 : ∀ o, Hid (WX w (w2.alloc o) g b t F ∧ Asks (w2.alloc o) n) := fun o => ⟨HX2.out.step (below_new _ _), HA.out.below (below_new _ _)⟩
  go_wp2_with (fail)
  go_at_call 48
  have HX3 := (HB3 (.cells #[.int .i64 t.a, .int .i64 t.b, .int .i64 t.c, .int .i64 t.d, .bool false, .func (.func 48) #[] #[.pointer (some ⟨n + 3, 0, none⟩), .pointer (some ⟨n + 4, 0, none⟩)]] 72)).out.1
  have hA3 := (HB3 (.cells #[.int .i64 t.a, .int .i64 t.b, .int .i64 t.c, .int .i64 t.d, .bool false, .func (.func 48) #[] #[.pointer (some ⟨n + 3, 0, none⟩), .pointer (some ⟨n + 4, 0, none⟩)]] 72)).out.2
  have HA3 : Hid (Asks _ n) := hA3
  have HX4 : Hid (WX w _ g b t F) := HX3
  clear hA3 HX3 HB3 HA HX2
  generalize w2.alloc _ = w3 at *
  refine (actA_any x (n + 3) (n + 4) false true w3 hx HA3.out.c3 HA3.out.c4).mono ?_
  rintro e w4 ⟨rfl, hb⟩
  have HX5 : Hid _ := HX4.out.step hb
  clear hb HX4 HA3
  generalize hZ : Ac.mk 3 0 0 0 (pg x) false true = Z at *
  have HZ : Hid (actD 5 x = Z) := hZ
  clear hZ
  obtain ⟨z1, z2, z3, z4, z5, z6, z7⟩ := Z
  have n0 := HX5.out.act.cell
  have n1 := HX5.out.act.frozen
  have n2 := HX5.out.act.lt
  have hgb : ¬ g = b := by have := HX5.out.new; have := HX5.out.old; omega
  have hn := HX5.out.new
  go_wp2
  refine bodyPost_ret (v := .tuple #[.agg #[.int .i64 z1, .int .i64 z2, .int .u32 (z3 : Nat), .int .i64 (z4 : Nat), .int .u32 (z5 : Nat), .bool z6, .bool z7], .int .i64 0]) (by simp [results, Tryd.results17, go_sem, n0, n1, n2]) rfl ⟨by rw [HZ.out], ?_, ?_⟩
  · (repeat (with_reducible refine Fi.setO ?_ (Ne.symm hgb) _ _)); with_reducible exact HX5.out.fi
  · (repeat (with_reducible refine Turn.setCell ?_ (.inr (by simpa using hn)) _)); with_reducible exact Turn.below HX5.out.bel
set_option maxRecDepth 100000 in
set_option maxHeartbeats 4000000 in
theorem write_yes6 (b x : Nat) (t : Tu) (F : List Nat) (w : World) (hF : Fi 63 w b F) (hT : TR w) (hx : x < 4294967296) (hr : regOf t = none) (ho : opOf t = some 6) :
    Calls Tryd.prog 17 #[.pointer (some ⟨b, 0, none⟩), .agg #[.int .i64 t.a, .int .i64 t.b, .int .i64 t.c, .int .i64 t.d], .bool true, .int .u32 (x : Int)] w fun e w' => e = .returned (.tuple #[.agg #[.int .i64 ((actD 6 x)).k, .int .i64 ((actD 6 x)).tk, .int .u32 (((actD 6 x)).tva : Nat), .int .i64 (((actD 6 x)).tas : Nat), .int .u32 (((actD 6 x)).va : Nat), .bool ((actD 6 x)).us, .bool ((actD 6 x)).st], .int .i64 0]) ∧ Fi 63 w' b F ∧ Turn (· = b) w w' := by
  have HX0 : Hid _ := WX.start w b t F hF hT
  have hreg := fun w h => register_any t w h
  rw [hr] at hreg
  have HN : Hid (∀ w, Calls Tryd.prog 26 #[.agg #[.int .i64 t.a, .int .i64 t.b, .int .i64 t.c, .int .i64 t.d]] w fun e w' => ∃ n, e = .returned (.tuple #[.agg #[.int .i64 t.a, .int .i64 t.b, .int .i64 t.c, .int .i64 t.d, .bool false, .func (.func 48) #[] #[.pointer (some ⟨n + 5, 0, none⟩), .pointer (some ⟨n + 6, 0, none⟩)]], .bool true]) ∧ Asks w' n ∧ Below w.heap.size w w') := fun w => by
    have := named_any operations_any t w
    simpa [nmV, ho, doV] using this
  clear hF hT hr ho
  go_enter Tryd.func17, Tryd.ntmps17
  go_wp2_with (fail)
  go_at_call 12
  refine (hreg _ HX0.out.tr).mono ?_
  rintro e w1 ⟨rfl, hb⟩
  have HX1 : Hid _ := HX0.out.step hb
  clear hb HX0 hreg
  generalize w.heap.size + 1 = g at *
  have c0 := HX1.out.box.cell
  go_wp2_with (fail)
  go_at_call 26
  refine (HN.out _).mono ?_
  rintro e w2 ⟨n, rfl, hA, hb⟩
  have HX2 : Hid _ := HX1.out.step hb
  have HA : Hid (Asks w2 n) := hA
  clear hb HX1 HN hA c0
  have HB3 : ∀ o, Hid (WX w (w2.alloc o) g b t F ∧ Asks (w2.alloc o) n) := fun o => ⟨HX2.out.step (below_new _ _), HA.out.below (below_new _ _)⟩
  go_wp2_with (fail)
  go_at_call 48
  have HX3 := (HB3 (.cells #[.int .i64 t.a, .int .i64 t.b, .int .i64 t.c, .int .i64 t.d, .bool false, .func (.func 48) #[] #[.pointer (some ⟨n + 5, 0, none⟩), .pointer (some ⟨n + 6, 0, none⟩)]] 72)).out.1
  have hA3 := (HB3 (.cells #[.int .i64 t.a, .int .i64 t.b, .int .i64 t.c, .int .i64 t.d, .bool false, .func (.func 48) #[] #[.pointer (some ⟨n + 5, 0, none⟩), .pointer (some ⟨n + 6, 0, none⟩)]] 72)).out.2
  have HA3 : Hid (Asks _ n) := hA3
  have HX4 : Hid (WX w _ g b t F) := HX3
  clear hA3 HX3 HB3 HA HX2
  generalize w2.alloc _ = w3 at *
  refine (actA_any x (n + 5) (n + 6) true false w3 hx HA3.out.c5 HA3.out.c6).mono ?_
  rintro e w4 ⟨rfl, hb⟩
  have HX5 : Hid _ := HX4.out.step hb
  clear hb HX4 HA3
  generalize hZ : Ac.mk 3 0 0 0 (pg x) true false = Z at *
  have HZ : Hid (actD 6 x = Z) := hZ
  clear hZ
  obtain ⟨z1, z2, z3, z4, z5, z6, z7⟩ := Z
  have n0 := HX5.out.act.cell
  have n1 := HX5.out.act.frozen
  have n2 := HX5.out.act.lt
  have hgb : ¬ g = b := by have := HX5.out.new; have := HX5.out.old; omega
  have hn := HX5.out.new
  go_wp2
  refine bodyPost_ret (v := .tuple #[.agg #[.int .i64 z1, .int .i64 z2, .int .u32 (z3 : Nat), .int .i64 (z4 : Nat), .int .u32 (z5 : Nat), .bool z6, .bool z7], .int .i64 0]) (by simp [results, Tryd.results17, go_sem, n0, n1, n2]) rfl ⟨by rw [HZ.out], ?_, ?_⟩
  · (repeat (with_reducible refine Fi.setO ?_ (Ne.symm hgb) _ _)); with_reducible exact HX5.out.fi
  · (repeat (with_reducible refine Turn.setCell ?_ (.inr (by simpa using hn)) _)); with_reducible exact Turn.below HX5.out.bel
set_option maxRecDepth 100000 in
set_option maxHeartbeats 4000000 in
theorem write_yes7 (b x : Nat) (t : Tu) (F : List Nat) (w : World) (hF : Fi 63 w b F) (hT : TR w) (hx : x < 4294967296) (hr : regOf t = none) (ho : opOf t = some 7) :
    Calls Tryd.prog 17 #[.pointer (some ⟨b, 0, none⟩), .agg #[.int .i64 t.a, .int .i64 t.b, .int .i64 t.c, .int .i64 t.d], .bool true, .int .u32 (x : Int)] w fun e w' => e = .returned (.tuple #[.agg #[.int .i64 ((actD 7 x)).k, .int .i64 ((actD 7 x)).tk, .int .u32 (((actD 7 x)).tva : Nat), .int .i64 (((actD 7 x)).tas : Nat), .int .u32 (((actD 7 x)).va : Nat), .bool ((actD 7 x)).us, .bool ((actD 7 x)).st], .int .i64 0]) ∧ Fi 63 w' b F ∧ Turn (· = b) w w' := by
  have HX0 : Hid _ := WX.start w b t F hF hT
  have hreg := fun w h => register_any t w h
  rw [hr] at hreg
  have HN : Hid (∀ w, Calls Tryd.prog 26 #[.agg #[.int .i64 t.a, .int .i64 t.b, .int .i64 t.c, .int .i64 t.d]] w fun e w' => ∃ n, e = .returned (.tuple #[.agg #[.int .i64 t.a, .int .i64 t.b, .int .i64 t.c, .int .i64 t.d, .bool false, .func (.func 48) #[] #[.pointer (some ⟨n + 7, 0, none⟩), .pointer (some ⟨n + 8, 0, none⟩)]], .bool true]) ∧ Asks w' n ∧ Below w.heap.size w w') := fun w => by
    have := named_any operations_any t w
    simpa [nmV, ho, doV] using this
  clear hF hT hr ho
  go_enter Tryd.func17, Tryd.ntmps17
  go_wp2_with (fail)
  go_at_call 12
  refine (hreg _ HX0.out.tr).mono ?_
  rintro e w1 ⟨rfl, hb⟩
  have HX1 : Hid _ := HX0.out.step hb
  clear hb HX0 hreg
  generalize w.heap.size + 1 = g at *
  have c0 := HX1.out.box.cell
  go_wp2_with (fail)
  go_at_call 26
  refine (HN.out _).mono ?_
  rintro e w2 ⟨n, rfl, hA, hb⟩
  have HX2 : Hid _ := HX1.out.step hb
  have HA : Hid (Asks w2 n) := hA
  clear hb HX1 HN hA c0
  have HB3 : ∀ o, Hid (WX w (w2.alloc o) g b t F ∧ Asks (w2.alloc o) n) := fun o => ⟨HX2.out.step (below_new _ _), HA.out.below (below_new _ _)⟩
  go_wp2_with (fail)
  go_at_call 48
  have HX3 := (HB3 (.cells #[.int .i64 t.a, .int .i64 t.b, .int .i64 t.c, .int .i64 t.d, .bool false, .func (.func 48) #[] #[.pointer (some ⟨n + 7, 0, none⟩), .pointer (some ⟨n + 8, 0, none⟩)]] 72)).out.1
  have hA3 := (HB3 (.cells #[.int .i64 t.a, .int .i64 t.b, .int .i64 t.c, .int .i64 t.d, .bool false, .func (.func 48) #[] #[.pointer (some ⟨n + 7, 0, none⟩), .pointer (some ⟨n + 8, 0, none⟩)]] 72)).out.2
  have HA3 : Hid (Asks _ n) := hA3
  have HX4 : Hid (WX w _ g b t F) := HX3
  clear hA3 HX3 HB3 HA HX2
  generalize w2.alloc _ = w3 at *
  refine (actA_any x (n + 7) (n + 8) true true w3 hx HA3.out.c7 HA3.out.c8).mono ?_
  rintro e w4 ⟨rfl, hb⟩
  have HX5 : Hid _ := HX4.out.step hb
  clear hb HX4 HA3
  generalize hZ : Ac.mk 3 0 0 0 (pg x) true true = Z at *
  have HZ : Hid (actD 7 x = Z) := hZ
  clear hZ
  obtain ⟨z1, z2, z3, z4, z5, z6, z7⟩ := Z
  have n0 := HX5.out.act.cell
  have n1 := HX5.out.act.frozen
  have n2 := HX5.out.act.lt
  have hgb : ¬ g = b := by have := HX5.out.new; have := HX5.out.old; omega
  have hn := HX5.out.new
  go_wp2
  refine bodyPost_ret (v := .tuple #[.agg #[.int .i64 z1, .int .i64 z2, .int .u32 (z3 : Nat), .int .i64 (z4 : Nat), .int .u32 (z5 : Nat), .bool z6, .bool z7], .int .i64 0]) (by simp [results, Tryd.results17, go_sem, n0, n1, n2]) rfl ⟨by rw [HZ.out], ?_, ?_⟩
  · (repeat (with_reducible refine Fi.setO ?_ (Ne.symm hgb) _ _)); with_reducible exact HX5.out.fi
  · (repeat (with_reducible refine Turn.setCell ?_ (.inr (by simpa using hn)) _)); with_reducible exact Turn.below HX5.out.bel
set_option maxRecDepth 100000 in
set_option maxHeartbeats 4000000 in
theorem write_yes8 (b x : Nat) (t : Tu) (F : List Nat) (w : World) (hF : Fi 63 w b F) (hT : TR w) (hx : x < 4294967296) (hr : regOf t = none) (ho : opOf t = some 8) :
    Calls Tryd.prog 17 #[.pointer (some ⟨b, 0, none⟩), .agg #[.int .i64 t.a, .int .i64 t.b, .int .i64 t.c, .int .i64 t.d], .bool true, .int .u32 (x : Int)] w fun e w' => e = .returned (.tuple #[.agg #[.int .i64 ((actD 8 x)).k, .int .i64 ((actD 8 x)).tk, .int .u32 (((actD 8 x)).tva : Nat), .int .i64 (((actD 8 x)).tas : Nat), .int .u32 (((actD 8 x)).va : Nat), .bool ((actD 8 x)).us, .bool ((actD 8 x)).st], .int .i64 0]) ∧ Fi 63 w' b F ∧ Turn (· = b) w w' := by
  have HX0 : Hid _ := WX.start w b t F hF hT
  have hreg := fun w h => register_any t w h
  rw [hr] at hreg
  have HN : Hid (∀ w, Calls Tryd.prog 26 #[.agg #[.int .i64 t.a, .int .i64 t.b, .int .i64 t.c, .int .i64 t.d]] w fun e w' => ∃ n, e = .returned (.tuple #[.agg #[.int .i64 t.a, .int .i64 t.b, .int .i64 t.c, .int .i64 t.d, .bool true, .func (.func 45) #[] #[]], .bool true]) ∧ Asks w' n ∧ Below w.heap.size w w') := fun w => by
    have := named_any operations_any t w
    simpa [nmV, ho, doV] using this
  clear hF hT hr ho
  go_enter Tryd.func17, Tryd.ntmps17
  go_wp2_with (fail)
  go_at_call 12
  refine (hreg _ HX0.out.tr).mono ?_
  rintro e w1 ⟨rfl, hb⟩
  have HX1 : Hid _ := HX0.out.step hb
  clear hb HX0 hreg
  generalize w.heap.size + 1 = g at *
  have c0 := HX1.out.box.cell
  go_wp2_with (fail)
  go_at_call 26
  refine (HN.out _).mono ?_
  rintro e w2 ⟨n, rfl, hA, hb⟩
  have HX2 : Hid _ := HX1.out.step hb
  have HA : Hid (Asks w2 n) := hA
  clear hb HX1 HN hA c0
  have HB3 : ∀ o, Hid (WX w (w2.alloc o) g b t F ∧ Asks (w2.alloc o) n) := fun o => ⟨HX2.out.step (below_new _ _), HA.out.below (below_new _ _)⟩
  go_wp2_with (fail)
  go_at_call 45
  have HX3 := (HB3 (.cells #[.int .i64 t.a, .int .i64 t.b, .int .i64 t.c, .int .i64 t.d, .bool true, .func (.func 45) #[] #[]] 72)).out.1
  have hA3 := (HB3 (.cells #[.int .i64 t.a, .int .i64 t.b, .int .i64 t.c, .int .i64 t.d, .bool true, .func (.func 45) #[] #[]] 72)).out.2
  have HA3 : Hid (Asks _ n) := hA3
  have HX4 : Hid (WX w _ g b t F) := HX3
  clear hA3 HX3 HB3 HA HX2
  generalize w2.alloc _ = w3 at *
  refine (act8_any x w3).mono ?_
  rintro e w4 ⟨rfl, hb⟩
  have HX5 : Hid _ := HX4.out.step hb
  clear hb HX4 HA3
  generalize hZ : actD 8 x = Z at *
  have HZ : Hid (actD 8 x = Z) := hZ
  clear hZ
  obtain ⟨z1, z2, z3, z4, z5, z6, z7⟩ := Z
  have n0 := HX5.out.act.cell
  have n1 := HX5.out.act.frozen
  have n2 := HX5.out.act.lt
  have hgb : ¬ g = b := by have := HX5.out.new; have := HX5.out.old; omega
  have hn := HX5.out.new
  go_wp2
  refine bodyPost_ret (v := .tuple #[.agg #[.int .i64 z1, .int .i64 z2, .int .u32 (z3 : Nat), .int .i64 (z4 : Nat), .int .u32 (z5 : Nat), .bool z6, .bool z7], .int .i64 0]) (by simp [results, Tryd.results17, go_sem, n0, n1, n2]) rfl ⟨by rw [HZ.out], ?_, ?_⟩
  · (repeat (with_reducible refine Fi.setO ?_ (Ne.symm hgb) _ _)); with_reducible exact HX5.out.fi
  · (repeat (with_reducible refine Turn.setCell ?_ (.inr (by simpa using hn)) _)); with_reducible exact Turn.below HX5.out.bel
set_option maxRecDepth 100000 in
set_option maxHeartbeats 4000000 in
theorem write_yes8u (b x : Nat) (t : Tu) (F : List Nat) (w : World) (hF : Fi 63 w b F) (hT : TR w) (hx : x < 4294967296) (hr : regOf t = none) (ho : opOf t = some 8) :
    Calls Tryd.prog 17 #[.pointer (some ⟨b, 0, none⟩), .agg #[.int .i64 t.a, .int .i64 t.b, .int .i64 t.c, .int .i64 t.d], .bool false, .int .u32 (x : Int)] w fun e w' => e = .returned (.tuple #[.agg #[.int .i64 ((actD 8 x)).k, .int .i64 ((actD 8 x)).tk, .int .u32 (((actD 8 x)).tva : Nat), .int .i64 (((actD 8 x)).tas : Nat), .int .u32 (((actD 8 x)).va : Nat), .bool ((actD 8 x)).us, .bool ((actD 8 x)).st], .int .i64 0]) ∧ Fi 63 w' b F ∧ Turn (· = b) w w' := by
  have HX0 : Hid _ := WX.start w b t F hF hT
  have hreg := fun w h => register_any t w h
  rw [hr] at hreg
  have HN : Hid (∀ w, Calls Tryd.prog 26 #[.agg #[.int .i64 t.a, .int .i64 t.b, .int .i64 t.c, .int .i64 t.d]] w fun e w' => ∃ n, e = .returned (.tuple #[.agg #[.int .i64 t.a, .int .i64 t.b, .int .i64 t.c, .int .i64 t.d, .bool true, .func (.func 45) #[] #[]], .bool true]) ∧ Asks w' n ∧ Below w.heap.size w w') := fun w => by
    have := named_any operations_any t w
    simpa [nmV, ho, doV] using this
  clear hF hT hr ho
  go_enter Tryd.func17, Tryd.ntmps17
  go_wp2_with (fail)
  go_at_call 12
  refine (hreg _ HX0.out.tr).mono ?_
  rintro e w1 ⟨rfl, hb⟩
  have HX1 : Hid _ := HX0.out.step hb
  clear hb HX0 hreg
  generalize w.heap.size + 1 = g at *
  have c0 := HX1.out.box.cell
  go_wp2_with (fail)
  go_at_call 26
  refine (HN.out _).mono ?_
  rintro e w2 ⟨n, rfl, hA, hb⟩
  have HX2 : Hid _ := HX1.out.step hb
  have HA : Hid (Asks w2 n) := hA
  clear hb HX1 HN hA c0
  have HB3 : ∀ o, Hid (WX w (w2.alloc o) g b t F ∧ Asks (w2.alloc o) n) := fun o => ⟨HX2.out.step (below_new _ _), HA.out.below (below_new _ _)⟩
  go_wp2_with (fail)
  go_at_call 45
  have HX3 := (HB3 (.cells #[.int .i64 t.a, .int .i64 t.b, .int .i64 t.c, .int .i64 t.d, .bool true, .func (.func 45) #[] #[]] 72)).out.1
  have hA3 := (HB3 (.cells #[.int .i64 t.a, .int .i64 t.b, .int .i64 t.c, .int .i64 t.d, .bool true, .func (.func 45) #[] #[]] 72)).out.2
  have HA3 : Hid (Asks _ n) := hA3
  have HX4 : Hid (WX w _ g b t F) := HX3
  clear hA3 HX3 HB3 HA HX2
  generalize w2.alloc _ = w3 at *
  refine (act8_any x w3).mono ?_
  rintro e w4 ⟨rfl, hb⟩
  have HX5 : Hid _ := HX4.out.step hb
  clear hb HX4 HA3
  generalize hZ : actD 8 x = Z at *
  have HZ : Hid (actD 8 x = Z) := hZ
  clear hZ
  obtain ⟨z1, z2, z3, z4, z5, z6, z7⟩ := Z
  have n0 := HX5.out.act.cell
  have n1 := HX5.out.act.frozen
  have n2 := HX5.out.act.lt
  have hgb : ¬ g = b := by have := HX5.out.new; have := HX5.out.old; omega
  have hn := HX5.out.new
  go_wp2
  refine bodyPost_ret (v := .tuple #[.agg #[.int .i64 z1, .int .i64 z2, .int .u32 (z3 : Nat), .int .i64 (z4 : Nat), .int .u32 (z5 : Nat), .bool z6, .bool z7], .int .i64 0]) (by simp [results, Tryd.results17, go_sem, n0, n1, n2]) rfl ⟨by rw [HZ.out], ?_, ?_⟩
  · (repeat (with_reducible refine Fi.setO ?_ (Ne.symm hgb) _ _)); with_reducible exact HX5.out.fi
  · (repeat (with_reducible refine Turn.setCell ?_ (.inr (by simpa using hn)) _)); with_reducible exact Turn.below HX5.out.bel
end Go.Proofs.YtdinmhjdnnhhjaaDoor
