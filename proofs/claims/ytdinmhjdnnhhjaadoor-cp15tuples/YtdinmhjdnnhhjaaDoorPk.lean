import Derived.Test.YtdinmhjdnnhhjaaDoorPj
namespace Go.Proofs.YtdinmhjdnnhhjaaDoor
open Go.RowKit
set_option linter.unusedVariables false
set_option linter.unusedSimpArgs false
set_option maxRecDepth 100000 in
set_option maxHeartbeats 4000000 in
theorem write_none (b x : Nat) (t : Tu) (priv : Bool) (F : List Nat) (w : World) (hF : Fi 63 w b F) (hT : TR w) (hr : regOf t = none) (ho : opOf t = none) :
    Calls Tryd.prog 17 #[.pointer (some ⟨b, 0, none⟩), .agg #[.int .i64 t.a, .int .i64 t.b, .int .i64 t.c, .int .i64 t.d], .bool priv, .int .u32 (x : Int)] w fun e w' => e = .returned (.tuple #[.agg #[.int .i64 aZ.k, .int .i64 aZ.tk, .int .u32 (aZ.tva : Nat), .int .i64 (aZ.tas : Nat), .int .u32 (aZ.va : Nat), .bool aZ.us, .bool aZ.st], .int .i64 80]) ∧ Fi 63 w' b F ∧ Turn (· = b) w w' := by
  have HX0 : Hid _ := WX.start w b t F hF hT
  have hreg := fun w h => register_any t w h
  rw [hr] at hreg
  have HN : Hid (∀ w, Calls Tryd.prog 26 #[.agg #[.int .i64 t.a, .int .i64 t.b, .int .i64 t.c, .int .i64 t.d]] w fun e w' => ∃ n, e = .returned (.tuple #[.agg #[.int .i64 0, .int .i64 0, .int .i64 0, .int .i64 0, .bool false, .nilFunc], .bool false]) ∧ Asks w' n ∧ Below w.heap.size w w') := fun w => by
    have := named_any operations_any t w
    simpa [nmV, ho] using this
  clear hF hT hr ho
  go_enter Tryd.func17, Tryd.ntmps17
  go_wp2_with (fail)
  go_at_call 12
  refine (hreg _ HX0.out.tr).mono ?_
  rintro e w1 ⟨rfl, hb⟩
  have HX1 : Hid _ := HX0.out.step hb
  clear hb HX0 hreg
  generalize w.heap.size + 1 = g at *
  have c0 := HX1.out.box.cell
  go_wp2_with (fail)
  go_at_call 26
  refine (HN.out _).mono ?_
  rintro e w2 ⟨n, rfl, hA, hb⟩
  have HX2 : Hid _ := HX1.out.step hb
  clear hb HX1 HN hA c0
  have n0 := HX2.out.act.cell
  have n1 := HX2.out.act.frozen
  have n2 := HX2.out.act.lt
  have hgb : ¬ g = b := by have := HX2.out.new; have := HX2.out.old; omega
  have hn := HX2.out.new
  have hn2 : ¬ g = w2.heap.size := by omega
  go_wp2
  refine bodyPost_ret (v := .tuple #[.agg #[.int .i64 aZ.k, .int .i64 aZ.tk, .int .u32 (aZ.tva : Nat), .int .i64 (aZ.tas : Nat), .int .u32 (aZ.va : Nat), .bool aZ.us, .bool aZ.st], .int .i64 80]) (by simp [results, Tryd.results17, go_sem, n0, n1, n2, aZ]) rfl ⟨rfl, ?_, ?_⟩
  · refine Fi.below ?_ (below_new _ _)
    (repeat (with_reducible refine Fi.setO ?_ (Ne.symm hgb) _ _)); with_reducible exact HX2.out.fi
  · refine Turn.alloc ?_ _
    (repeat (with_reducible refine Turn.setCell ?_ (.inr (by simpa using hn)) _)); with_reducible exact Turn.below HX2.out.bel
set_option maxRecDepth 100000 in
set_option maxHeartbeats 4000000 in
theorem write_no0 (b x : Nat) (t : Tu) (F : List Nat) (w : World) (hF : Fi 63 w b F) (hT : TR w) (hx : x < 4294967296) (hr : regOf t = none) (ho : opOf t = some 0) :
    Calls Tryd.prog 17 #[.pointer (some ⟨b, 0, none⟩), .agg #[.int .i64 t.a, .int .i64 t.b, .int .i64 t.c, .int .i64 t.d], .bool false, .int .u32 (x : Int)] w fun e w' => e = .returned (.tuple #[.agg #[.int .i64 aZ.k, .int .i64 aZ.tk, .int .u32 (aZ.tva : Nat), .int .i64 (aZ.tas : Nat), .int .u32 (aZ.va : Nat), .bool aZ.us, .bool aZ.st], .int .i64 81]) ∧ Fi 63 w' b F ∧ Turn (· = b) w w' := by
  have HX0 : Hid _ := WX.start w b t F hF hT
  have hreg := fun w h => register_any t w h
  rw [hr] at hreg
  have HN : Hid (∀ w, Calls Tryd.prog 26 #[.agg #[.int .i64 t.a, .int .i64 t.b, .int .i64 t.c, .int .i64 t.d]] w fun e w' => ∃ n, e = .returned (.tuple #[.agg #[.int .i64 t.a, .int .i64 t.b, .int .i64 t.c, .int .i64 t.d, .bool false, .func (.func 40) #[] #[]], .bool true]) ∧ Asks w' n ∧ Below w.heap.size w w') := fun w => by
    have := named_any operations_any t w
    simpa [nmV, ho, doV] using this
  clear hF hT hr ho
  go_enter Tryd.func17, Tryd.ntmps17
  go_wp2_with (fail)
  go_at_call 12
  refine (hreg _ HX0.out.tr).mono ?_
  rintro e w1 ⟨rfl, hb⟩
  have HX1 : Hid _ := HX0.out.step hb
  clear hb HX0 hreg
  generalize w.heap.size + 1 = g at *
  have c0 := HX1.out.box.cell
  go_wp2_with (fail)
  go_at_call 26
  refine (HN.out _).mono ?_
  rintro e w2 ⟨n, rfl, hA, hb⟩
  have HX2 : Hid _ := HX1.out.step hb
  have HA : Hid (Asks w2 n) := hA
  clear hb HX1 HN hA c0
  have n0 := HX2.out.act.cell
  have n1 := HX2.out.act.frozen
  have n2 := HX2.out.act.lt
  have hgb : ¬ g = b := by have := HX2.out.new; have := HX2.out.old; omega
  have hn := HX2.out.new
  have hn2 : ¬ g = w2.heap.size := by omega
  go_wp2
  refine bodyPost_ret (v := .tuple #[.agg #[.int .i64 aZ.k, .int .i64 aZ.tk, .int .u32 (aZ.tva : Nat), .int .i64 (aZ.tas : Nat), .int .u32 (aZ.va : Nat), .bool aZ.us, .bool aZ.st], .int .i64 81]) (by simp [results, Tryd.results17, go_sem, n0, n1, n2, aZ]) rfl ⟨rfl, ?_, ?_⟩
  · refine Fi.below ?_ (below_new _ _)
    (repeat (with_reducible refine Fi.setO ?_ (Ne.symm hgb) _ _)); with_reducible exact HX2.out.fi
  · refine Turn.alloc ?_ _
    (repeat (with_reducible refine Turn.setCell ?_ (.inr (by simpa using hn)) _)); with_reducible exact Turn.below HX2.out.bel
set_option maxRecDepth 100000 in
set_option maxHeartbeats 4000000 in
theorem write_no1 (b x : Nat) (t : Tu) (F : List Nat) (w : World) (hF : Fi 63 w b F) (hT : TR w) (hx : x < 4294967296) (hr : regOf t = none) (ho : opOf t = some 1) :
    Calls Tryd.prog 17 #[.pointer (some ⟨b, 0, none⟩), .agg #[.int .i64 t.a, .int .i64 t.b, .int .i64 t.c, .int .i64 t.d], .bool false, .int .u32 (x : Int)] w fun e w' => e = .returned (.tuple #[.agg #[.int .i64 aZ.k, .int .i64 aZ.tk, .int .u32 (aZ.tva : Nat), .int .i64 (aZ.tas : Nat), .int .u32 (aZ.va : Nat), .bool aZ.us, .bool aZ.st], .int .i64 81]) ∧ Fi 63 w' b F ∧ Turn (· = b) w w' := by
  have HX0 : Hid _ := WX.start w b t F hF hT
  have hreg := fun w h => register_any t w h
  rw [hr] at hreg
  have HN : Hid (∀ w, Calls Tryd.prog 26 #[.agg #[.int .i64 t.a, .int .i64 t.b, .int .i64 t.c, .int .i64 t.d]] w fun e w' => ∃ n, e = .returned (.tuple #[.agg #[.int .i64 t.a, .int .i64 t.b, .int .i64 t.c, .int .i64 t.d, .bool false, .func (.func 41) #[] #[]], .bool true]) ∧ Asks w' n ∧ Below w.heap.size w w') := fun w => by
    have := named_any operations_any t w
    simpa [nmV, ho, doV] using this
  clear hF hT hr ho
  go_enter Tryd.func17, Tryd.ntmps17
  go_wp2_with (fail)
  go_at_call 12
  refine (hreg _ HX0.out.tr).mono ?_
  rintro e w1 ⟨rfl, hb⟩
  have HX1 : Hid _ := HX0.out.step hb
  clear hb HX0 hreg
  generalize w.heap.size + 1 = g at *
  have c0 := HX1.out.box.cell
  go_wp2_with (fail)
  go_at_call 26
  refine (HN.out _).mono ?_
  rintro e w2 ⟨n, rfl, hA, hb⟩
  have HX2 : Hid _ := HX1.out.step hb
  have HA : Hid (Asks w2 n) := hA
  clear hb HX1 HN hA c0
  have n0 := HX2.out.act.cell
  have n1 := HX2.out.act.frozen
  have n2 := HX2.out.act.lt
  have hgb : ¬ g = b := by have := HX2.out.new; have := HX2.out.old; omega
  have hn := HX2.out.new
  have hn2 : ¬ g = w2.heap.size := by omega
  go_wp2
  refine bodyPost_ret (v := .tuple #[.agg #[.int .i64 aZ.k, .int .i64 aZ.tk, .int .u32 (aZ.tva : Nat), .int .i64 (aZ.tas : Nat), .int .u32 (aZ.va : Nat), .bool aZ.us, .bool aZ.st], .int .i64 81]) (by simp [results, Tryd.results17, go_sem, n0, n1, n2, aZ]) rfl ⟨rfl, ?_, ?_⟩
  · refine Fi.below ?_ (below_new _ _)
    (repeat (with_reducible refine Fi.setO ?_ (Ne.symm hgb) _ _)); with_reducible exact HX2.out.fi
  · refine Turn.alloc ?_ _
    (repeat (with_reducible refine Turn.setCell ?_ (.inr (by simpa using hn)) _)); with_reducible exact Turn.below HX2.out.bel
set_option maxRecDepth 100000 in
set_option maxHeartbeats 4000000 in
theorem write_no2 (b x : Nat) (t : Tu) (F : List Nat) (w : World) (hF : Fi 63 w b F) (hT : TR w) (hx : x < 4294967296) (hr : regOf t = none) (ho : opOf t = some 2) :
    Calls Tryd.prog 17 #[.pointer (some ⟨b, 0, none⟩), .agg #[.int .i64 t.a, .int .i64 t.b, .int .i64 t.c, .int .i64 t.d], .bool false, .int .u32 (x : Int)] w fun e w' => e = .returned (.tuple #[.agg #[.int .i64 aZ.k, .int .i64 aZ.tk, .int .u32 (aZ.tva : Nat), .int .i64 (aZ.tas : Nat), .int .u32 (aZ.va : Nat), .bool aZ.us, .bool aZ.st], .int .i64 81]) ∧ Fi 63 w' b F ∧ Turn (· = b) w w' := by
  have HX0 : Hid _ := WX.start w b t F hF hT
  have hreg := fun w h => register_any t w h
  rw [hr] at hreg
  have HN : Hid (∀ w, Calls Tryd.prog 26 #[.agg #[.int .i64 t.a, .int .i64 t.b, .int .i64 t.c, .int .i64 t.d]] w fun e w' => ∃ n, e = .returned (.tuple #[.agg #[.int .i64 t.a, .int .i64 t.b, .int .i64 t.c, .int .i64 t.d, .bool false, .func (.func 42) #[] #[]], .bool true]) ∧ Asks w' n ∧ Below w.heap.size w w') := fun w => by
    have := named_any operations_any t w
    simpa [nmV, ho, doV] using this
  clear hF hT hr ho
  go_enter Tryd.func17, Tryd.ntmps17
  go_wp2_with (fail)
  go_at_call 12
  refine (hreg _ HX0.out.tr).mono ?_
  rintro e w1 ⟨rfl, hb⟩
  have HX1 : Hid _ := HX0.out.step hb
  clear hb HX0 hreg
  generalize w.heap.size + 1 = g at *
  have c0 := HX1.out.box.cell
  go_wp2_with (fail)
  go_at_call 26
  refine (HN.out _).mono ?_
  rintro e w2 ⟨n, rfl, hA, hb⟩
  have HX2 : Hid _ := HX1.out.step hb
  have HA : Hid (Asks w2 n) := hA
  clear hb HX1 HN hA c0
  have n0 := HX2.out.act.cell
  have n1 := HX2.out.act.frozen
  have n2 := HX2.out.act.lt
  have hgb : ¬ g = b := by have := HX2.out.new; have := HX2.out.old; omega
  have hn := HX2.out.new
  have hn2 : ¬ g = w2.heap.size := by omega
  go_wp2
  refine bodyPost_ret (v := .tuple #[.agg #[.int .i64 aZ.k, .int .i64 aZ.tk, .int .u32 (aZ.tva : Nat), .int .i64 (aZ.tas : Nat), .int .u32 (aZ.va : Nat), .bool aZ.us, .bool aZ.st], .int .i64 81]) (by simp [results, Tryd.results17, go_sem, n0, n1, n2, aZ]) rfl ⟨rfl, ?_, ?_⟩
  · refine Fi.below ?_ (below_new _ _)
    (repeat (with_reducible refine Fi.setO ?_ (Ne.symm hgb) _ _)); with_reducible exact HX2.out.fi
  · refine Turn.alloc ?_ _
    (repeat (with_reducible refine Turn.setCell ?_ (.inr (by simpa using hn)) _)); with_reducible exact Turn.below HX2.out.bel
set_option maxRecDepth 100000 in
set_option maxHeartbeats 4000000 in
theorem write_no3 (b x : Nat) (t : Tu) (F : List Nat) (w : World) (hF : Fi 63 w b F) (hT : TR w) (hx : x < 4294967296) (hr : regOf t = none) (ho : opOf t = some 3) :
    Calls Tryd.prog 17 #[.pointer (some ⟨b, 0, none⟩), .agg #[.int .i64 t.a, .int .i64 t.b, .int .i64 t.c, .int .i64 t.d], .bool false, .int .u32 (x : Int)] w fun e w' => e = .returned (.tuple #[.agg #[.int .i64 aZ.k, .int .i64 aZ.tk, .int .u32 (aZ.tva : Nat), .int .i64 (aZ.tas : Nat), .int .u32 (aZ.va : Nat), .bool aZ.us, .bool aZ.st], .int .i64 81]) ∧ Fi 63 w' b F ∧ Turn (· = b) w w' := by
  have HX0 : Hid _ := WX.start w b t F hF hT
  have hreg := fun w h => register_any t w h
  rw [hr] at hreg
  have HN : Hid (∀ w, Calls Tryd.prog 26 #[.agg #[.int .i64 t.a, .int .i64 t.b, .int .i64 t.c, .int .i64 t.d]] w fun e w' => ∃ n, e = .returned (.tuple #[.agg #[.int .i64 t.a, .int .i64 t.b, .int .i64 t.c, .int .i64 t.d, .bool false, .func (.func 43) #[] #[]], .bool true]) ∧ Asks w' n ∧ Below w.heap.size w w') := fun w => by
    have := named_any operations_any t w
    simpa [nmV, ho, doV] using this
  clear hF hT hr ho
  go_enter Tryd.func17, Tryd.ntmps17
  go_wp2_with (fail)
  go_at_call 12
  refine (hreg _ HX0.out.tr).mono ?_
  rintro e w1 ⟨rfl, hb⟩
  have HX1 : Hid _ := HX0.out.step hb
  clear hb HX0 hreg
  generalize w.heap.size + 1 = g at *
  have c0 := HX1.out.box.cell
  go_wp2_with (fail)
  go_at_call 26
  refine (HN.out _).mono ?_
  rintro e w2 ⟨n, rfl, hA, hb⟩
  have HX2 : Hid _ := HX1.out.step hb
  have HA : Hid (Asks w2 n) := hA
  clear hb HX1 HN hA c0
  have n0 := HX2.out.act.cell
  have n1 := HX2.out.act.frozen
  have n2 := HX2.out.act.lt
  have hgb : ¬ g = b := by have := HX2.out.new; have := HX2.out.old; omega
  have hn := HX2.out.new
  have hn2 : ¬ g = w2.heap.size := by omega
  go_wp2
  refine bodyPost_ret (v := .tuple #[.agg #[.int .i64 aZ.k, .int .i64 aZ.tk, .int .u32 (aZ.tva : Nat), .int .i64 (aZ.tas : Nat), .int .u32 (aZ.va : Nat), .bool aZ.us, .bool aZ.st], .int .i64 81]) (by simp [results, Tryd.results17, go_sem, n0, n1, n2, aZ]) rfl ⟨rfl, ?_, ?_⟩
  · refine Fi.below ?_ (below_new _ _)
    (repeat (with_reducible refine Fi.setO ?_ (Ne.symm hgb) _ _)); with_reducible exact HX2.out.fi
  · refine Turn.alloc ?_ _
    (repeat (with_reducible refine Turn.setCell ?_ (.inr (by simpa using hn)) _)); with_reducible exact Turn.below HX2.out.bel
set_option maxRecDepth 100000 in
set_option maxHeartbeats 4000000 in
theorem write_no4 (b x : Nat) (t : Tu) (F : List Nat) (w : World) (hF : Fi 63 w b F) (hT : TR w) (hx : x < 4294967296) (hr : regOf t = none) (ho : opOf t = some 4) :
    Calls Tryd.prog 17 #[.pointer (some ⟨b, 0, none⟩), .agg #[.int .i64 t.a, .int .i64 t.b, .int .i64 t.c, .int .i64 t.d], .bool false, .int .u32 (x : Int)] w fun e w' => e = .returned (.tuple #[.agg #[.int .i64 aZ.k, .int .i64 aZ.tk, .int .u32 (aZ.tva : Nat), .int .i64 (aZ.tas : Nat), .int .u32 (aZ.va : Nat), .bool aZ.us, .bool aZ.st], .int .i64 81]) ∧ Fi 63 w' b F ∧ Turn (· = b) w w' := by
  have HX0 : Hid _ := WX.start w b t F hF hT
  have hreg := fun w h => register_any t w h
  rw [hr] at hreg
  have HN : Hid (∀ w, Calls Tryd.prog 26 #[.agg #[.int .i64 t.a, .int .i64 t.b, .int .i64 t.c, .int .i64 t.d]] w fun e w' => ∃ n, e = .returned (.tuple #[.agg #[.int .i64 t.a, .int .i64 t.b, .int .i64 t.c, .int .i64 t.d, .bool false, .func (.func 48) #[] #[.pointer (some ⟨n + 1, 0, none⟩), .pointer (some ⟨n + 2, 0, none⟩)]], .bool true]) ∧ Asks w' n ∧ Below w.heap.size w w') := fun w => by
    have := named_any operations_any t w
    simpa [nmV, ho, doV] using this
  clear hF hT hr ho
  go_enter Tryd.func17, Tryd.ntmps17
  go_wp2_with (fail)
  go_at_call 12
  refine (hreg _ HX0.out.tr).mono ?_
  rintro e w1 ⟨rfl, hb⟩
  have HX1 : Hid _ := HX0.out.step hb
  clear hb HX0 hreg
  generalize w.heap.size + 1 = g at *
  have c0 := HX1.out.box.cell
  go_wp2_with (fail)
  go_at_call 26
  refine (HN.out _).mono ?_
  rintro e w2 ⟨n, rfl, hA, hb⟩
  have HX2 : Hid _ := HX1.out.step hb
  have HA : Hid (Asks w2 n) := hA
  clear hb HX1 HN hA c0
  have n0 := HX2.out.act.cell
  have n1 := HX2.out.act.frozen
  have n2 := HX2.out.act.lt
  have hgb : ¬ g = b := by have := HX2.out.new; have := HX2.out.old; omega
  have hn := HX2.out.new
  have hn2 : ¬ g = w2.heap.size := by omega
  go_wp2
  refine bodyPost_ret (v := .tuple #[.agg #[.int .i64 aZ.k, .int .i64 aZ.tk, .int .u32 (aZ.tva : Nat), .int .i64 (aZ.tas : Nat), .int .u32 (aZ.va : Nat), .bool aZ.us, .bool aZ.st], .int .i64 81]) (by simp [results, Tryd.results17, go_sem, n0, n1, n2, aZ]) rfl ⟨rfl, ?_, ?_⟩
  · refine Fi.below ?_ (below_new _ _)
    (repeat (with_reducible refine Fi.setO ?_ (Ne.symm hgb) _ _)); with_reducible exact HX2.out.fi
  · refine Turn.alloc ?_ _
    (repeat (with_reducible refine Turn.setCell ?_ (.inr (by simpa using hn)) _)); with_reducible exact Turn.below HX2.out.bel
set_option maxRecDepth 100000 in
set_option maxHeartbeats 4000000 in
theorem write_no5 (b x : Nat) (t : Tu) (F : List Nat) (w : World) (hF : Fi 63 w b F) (hT : TR w) (hx : x < 4294967296) (hr : regOf t = none) (ho : opOf t = some 5) :
    Calls Tryd.prog 17 #[.pointer (some ⟨b, 0, none⟩), .agg #[.int .i64 t.a, .int .i64 t.b, .int .i64 t.c, .int .i64 t.d], .bool false, .int .u32 (x : Int)] w fun e w' => e = .returned (.tuple #[.agg #[.int .i64 aZ.k, .int .i64 aZ.tk, .int .u32 (aZ.tva : Nat), .int .i64 (aZ.tas : Nat), .int .u32 (aZ.va : Nat), .bool aZ.us, .bool aZ.st], .int .i64 81]) ∧ Fi 63 w' b F ∧ Turn (· = b) w w' := by
  have HX0 : Hid _ := WX.start w b t F hF hT
  have hreg := fun w h => register_any t w h
  rw [hr] at hreg
  have HN : Hid (∀ w, Calls Tryd.prog 26 #[.agg #[.int .i64 t.a, .int .i64 t.b, .int .i64 t.c, .int .i64 t.d]] w fun e w' => ∃ n, e = .returned (.tuple #[.agg #[.int .i64 t.a, .int .i64 t.b, .int .i64 t.c, .int .i64 t.d, .bool false, .func (.func 48) #[] #[.pointer (some ⟨n + 3, 0, none⟩), .pointer (some ⟨n + 4, 0, none⟩)]], .bool true]) ∧ Asks w' n ∧ Below w.heap.size w w') := fun w => by
    have := named_any operations_any t w
    simpa [nmV, ho, doV] using this
  clear hF hT hr ho
  go_enter Tryd.func17, Tryd.ntmps17
  go_wp2_with (fail)
  go_at_call 12
  refine (hreg _ HX0.out.tr).mono ?_
  rintro e w1 ⟨rfl, hb⟩
  have HX1 : Hid _ := HX0.out.step hb
  clear hb HX0 hreg
  generalize w.heap.size + 1 = g at *
  have c0 := HX1.out.box.cell
  go_wp2_with (fail)
  go_at_call 26
  refine (HN.out _).mono ?_
  rintro e w2 ⟨n, rfl, hA, hb⟩
  have HX2 : Hid _ := HX1.out.step hb
  have HA : Hid (Asks w2 n) := hA
  clear hb HX1 HN hA c0
  have n0 := HX2.out.act.cell
  have n1 := HX2.out.act.frozen
  have n2 := HX2.out.act.lt
  have hgb : ¬ g = b := by have := HX2.out.new; have := HX2.out.old; omega
  have hn := HX2.out.new
  have hn2 : ¬ g = w2.heap.size := by omega
  go_wp2
  refine bodyPost_ret (v := .tuple #[.agg #[.int .i64 aZ.k, .int .i64 aZ.tk, .int .u32 (aZ.tva : Nat), .int .i64 (aZ.tas : Nat), .int .u32 (aZ.va : Nat), .bool aZ.us, .bool aZ.st], .int .i64 81]) (by simp [results, Tryd.results17, go_sem, n0, n1, n2, aZ]) rfl ⟨rfl, ?_, ?_⟩
  · refine Fi.below ?_ (below_new _ _)
    (repeat (with_reducible refine Fi.setO ?_ (Ne.symm hgb) _ _)); with_reducible exact HX2.out.fi
  · refine Turn.alloc ?_ _
    (repeat (with_reducible refine Turn.setCell ?_ (.inr (by simpa using hn)) _)); with_reducible exact Turn.below HX2.out.bel
set_option maxRecDepth 100000 in
set_option maxHeartbeats 4000000 in
theorem write_no6 (b x : Nat) (t : Tu) (F : List Nat) (w : World) (hF : Fi 63 w b F) (hT : TR w) (hx : x < 4294967296) (hr : regOf t = none) (ho : opOf t = some 6) :
    Calls Tryd.prog 17 #[.pointer (some ⟨b, 0, none⟩), .agg #[.int .i64 t.a, .int .i64 t.b, .int .i64 t.c, .int .i64 t.d], .bool false, .int .u32 (x : Int)] w fun e w' => e = .returned (.tuple #[.agg #[.int .i64 aZ.k, .int .i64 aZ.tk, .int .u32 (aZ.tva : Nat), .int .i64 (aZ.tas : Nat), .int .u32 (aZ.va : Nat), .bool aZ.us, .bool aZ.st], .int .i64 81]) ∧ Fi 63 w' b F ∧ Turn (· = b) w w' := by
  have HX0 : Hid _ := WX.start w b t F hF hT
  have hreg := fun w h => register_any t w h
  rw [hr] at hreg
  have HN : Hid (∀ w, Calls Tryd.prog 26 #[.agg #[.int .i64 t.a, .int .i64 t.b, .int .i64 t.c, .int .i64 t.d]] w fun e w' => ∃ n, e = .returned (.tuple #[.agg #[.int .i64 t.a, .int .i64 t.b, .int .i64 t.c, .int .i64 t.d, .bool false, .func (.func 48) #[] #[.pointer (some ⟨n + 5, 0, none⟩), .pointer (some ⟨n + 6, 0, none⟩)]], .bool true]) ∧ Asks w' n ∧ Below w.heap.size w w') := fun w => by
    have := named_any operations_any t w
    simpa [nmV, ho, doV] using this
  clear hF hT hr ho
  go_enter Tryd.func17, Tryd.ntmps17
  go_wp2_with (fail)
  go_at_call 12
  refine (hreg _ HX0.out.tr).mono ?_
  rintro e w1 ⟨rfl, hb⟩
  have HX1 : Hid _ := HX0.out.step hb
  clear hb HX0 hreg
  generalize w.heap.size + 1 = g at *
  have c0 := HX1.out.box.cell
  go_wp2_with (fail)
  go_at_call 26
  refine (HN.out _).mono ?_
  rintro e w2 ⟨n, rfl, hA, hb⟩
  have HX2 : Hid _ := HX1.out.step hb
  have HA : Hid (Asks w2 n) := hA
  clear hb HX1 HN hA c0
  have n0 := HX2.out.act.cell
  have n1 := HX2.out.act.frozen
  have n2 := HX2.out.act.lt
  have hgb : ¬ g = b := by have := HX2.out.new; have := HX2.out.old; omega
  have hn := HX2.out.new
  have hn2 : ¬ g = w2.heap.size := by omega
  go_wp2
  refine bodyPost_ret (v := .tuple #[.agg #[.int .i64 aZ.k, .int .i64 aZ.tk, .int .u32 (aZ.tva : Nat), .int .i64 (aZ.tas : Nat), .int .u32 (aZ.va : Nat), .bool aZ.us, .bool aZ.st], .int .i64 81]) (by simp [results, Tryd.results17, go_sem, n0, n1, n2, aZ]) rfl ⟨rfl, ?_, ?_⟩
  · refine Fi.below ?_ (below_new _ _)
    (repeat (with_reducible refine Fi.setO ?_ (Ne.symm hgb) _ _)); with_reducible exact HX2.out.fi
  · refine Turn.alloc ?_ _
    (repeat (with_reducible refine Turn.setCell ?_ (.inr (by simpa using hn)) _)); with_reducible exact Turn.below HX2.out.bel
set_option maxRecDepth 100000 in
set_option maxHeartbeats 4000000 in
theorem write_no7 (b x : Nat) (t : Tu) (F : List Nat) (w : World) (hF : Fi 63 w b F) (hT : TR w) (hx : x < 4294967296) (hr : regOf t = none) (ho : opOf t = some 7) :
    Calls Tryd.prog 17 #[.pointer (some ⟨b, 0, none⟩), .agg #[.int .i64 t.a, .int .i64 t.b, .int .i64 t.c, .int .i64 t.d], .bool false, .int .u32 (x : Int)] w fun e w' => e = .returned (.tuple #[.agg #[.int .i64 aZ.k, .int .i64 aZ.tk, .int .u32 (aZ.tva : Nat), .int .i64 (aZ.tas : Nat), .int .u32 (aZ.va : Nat), .bool aZ.us, .bool aZ.st], .int .i64 81]) ∧ Fi 63 w' b F ∧ Turn (· = b) w w' := by
  have HX0 : Hid _ := WX.start w b t F hF hT
  have hreg := fun w h => register_any t w h
  rw [hr] at hreg
  have HN : Hid (∀ w, Calls Tryd.prog 26 #[.agg #[.int .i64 t.a, .int .i64 t.b, .int .i64 t.c, .int .i64 t.d]] w fun e w' => ∃ n, e = .returned (.tuple #[.agg #[.int .i64 t.a, .int .i64 t.b, .int .i64 t.c, .int .i64 t.d, .bool false, .func (.func 48) #[] #[.pointer (some ⟨n + 7, 0, none⟩), .pointer (some ⟨n + 8, 0, none⟩)]], .bool true]) ∧ Asks w' n ∧ Below w.heap.size w w') := fun w => by
    have := named_any operations_any t w
    simpa [nmV, ho, doV] using this
  clear hF hT hr ho
  go_enter Tryd.func17, Tryd.ntmps17
  go_wp2_with (fail)
  go_at_call 12
  refine (hreg _ HX0.out.tr).mono ?_
  rintro e w1 ⟨rfl, hb⟩
  have HX1 : Hid _ := HX0.out.step hb
  clear hb HX0 hreg
  generalize w.heap.size + 1 = g at *
  have c0 := HX1.out.box.cell
  go_wp2_with (fail)
  go_at_call 26
  refine (HN.out _).mono ?_
  rintro e w2 ⟨n, rfl, hA, hb⟩
  have HX2 : Hid _ := HX1.out.step hb
  have HA : Hid (Asks w2 n) := hA
  clear hb HX1 HN hA c0
  have n0 := HX2.out.act.cell
  have n1 := HX2.out.act.frozen
  have n2 := HX2.out.act.lt
  have hgb : ¬ g = b := by have := HX2.out.new; have := HX2.out.old; omega
  have hn := HX2.out.new
  have hn2 : ¬ g = w2.heap.size := by omega
  go_wp2
  refine bodyPost_ret (v := .tuple #[.agg #[.int .i64 aZ.k, .int .i64 aZ.tk, .int .u32 (aZ.tva : Nat), .int .i64 (aZ.tas : Nat), .int .u32 (aZ.va : Nat), .bool aZ.us, .bool aZ.st], .int .i64 81]) (by simp [results, Tryd.results17, go_sem, n0, n1, n2, aZ]) rfl ⟨rfl, ?_, ?_⟩
  · refine Fi.below ?_ (below_new _ _)
    (repeat (with_reducible refine Fi.setO ?_ (Ne.symm hgb) _ _)); with_reducible exact HX2.out.fi
  · refine Turn.alloc ?_ _
    (repeat (with_reducible refine Turn.setCell ?_ (.inr (by simpa using hn)) _)); with_reducible exact Turn.below HX2.out.bel
end Go.Proofs.YtdinmhjdnnhhjaaDoor
