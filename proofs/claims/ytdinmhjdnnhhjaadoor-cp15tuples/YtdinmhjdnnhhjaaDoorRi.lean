import Derived.Test.YtdinmhjdnnhhjaaDoorRh
import Derived.Test.YtdinmhjdnnhhjaaDoorRf
import Derived.Test.YtdinmhjdnnhhjaaDoorPm
import Derived.Test.YtdinmhjdnnhhjaaDoorLe
namespace Go.Proofs.YtdinmhjdnnhhjaaDoor
open Go.RowKit
set_option linter.unusedVariables false
set_option linter.unusedSimpArgs false
theorem reg_op {t : Tu} {r : Nat} (h : regOf t = some r) : opOf t = none := by
  have h1 := regOf_tuple h
  have h2 := regOf_lt h
  subst h1
  rcases upto13 r h2 with rfl | rfl | rfl | rfl | rfl | rfl | rfl | rfl | rfl | rfl | rfl | rfl | rfl <;> rfl
structure RX (w wr : World) (g b : Nat) (t : Tu) (F : List Nat) : Prop where
  bel : Below w.heap.size w wr
  box : Bl wr w.heap.size 27 ([.int .i64 t.a, .int .i64 t.b, .int .i64 t.c, .int .i64 t.d])
  act : Bl wr g 36 ([.int .i64 aZ.k, .int .i64 aZ.tk, .int .u32 (aZ.tva : Nat), .int .i64 (aZ.tas : Nat), .int .u32 (aZ.va : Nat), .bool aZ.us, .bool aZ.st])
  fi : Fi 77 wr b F
  new : w.heap.size ≤ g
  old : b < w.heap.size
theorem RX.step {w wr wr' : World} {g b : Nat} {t : Tu} {F : List Nat} (h : RX w wr g b t F) (hb : Below wr.heap.size wr wr') : RX w wr' g b t F :=
  ⟨Below.step h.bel hb, h.box.below hb, h.act.below hb, h.fi.below hb, h.new, h.old⟩
theorem RX.start (w : World) (b : Nat) (t : Tu) (F : List Nat) (hF : Fi 77 w b F) : RX w ((w.alloc (.cells ([.int .i64 t.a, .int .i64 t.b, .int .i64 t.c, .int .i64 t.d]).toArray 27)).alloc (.cells ([.int .i64 aZ.k, .int .i64 aZ.tk, .int .u32 (aZ.tva : Nat), .int .i64 (aZ.tas : Nat), .int .u32 (aZ.va : Nat), .bool aZ.us, .bool aZ.st]).toArray 36)) (w.heap.size + 1) b t F := by
  have hb : Below w.heap.size w ((w.alloc (.cells ([.int .i64 t.a, .int .i64 t.b, .int .i64 t.c, .int .i64 t.d]).toArray 27)).alloc (.cells ([.int .i64 aZ.k, .int .i64 aZ.tk, .int .u32 (aZ.tva : Nat), .int .i64 (aZ.tas : Nat), .int .u32 (aZ.va : Nat), .bool aZ.us, .bool aZ.st]).toArray 36)) := (below_new _ _).alloc (by simp) _
  refine ⟨hb, (Bl.new _ _ _).below (below_new _ _), ?_, hF.below hb, by omega, hF.lt⟩
  have := Bl.new (w.alloc (.cells ([.int .i64 t.a, .int .i64 t.b, .int .i64 t.c, .int .i64 t.d]).toArray 27)) 36 ([.int .i64 aZ.k, .int .i64 aZ.tk, .int .u32 (aZ.tva : Nat), .int .i64 (aZ.tas : Nat), .int .u32 (aZ.va : Nat), .bool aZ.us, .bool aZ.st])
  simpa using this
set_option maxRecDepth 100000 in
set_option maxHeartbeats 4000000 in
theorem rwrite_none (b x : Nat) (t : Tu) (priv : Bool) (F : List Nat) (w : World) (hF : Fi 77 w b F) (hr : regOf t = none) (ho : opOf t = none) :
    Calls Tryd.prog 30 #[.pointer (some ⟨b, 0, none⟩), .agg #[.int .i64 t.a, .int .i64 t.b, .int .i64 t.c, .int .i64 t.d], .bool priv, .int .u32 (x : Int)] w fun e w' => e = .returned (.tuple #[.agg #[.int .i64 aZ.k, .int .i64 aZ.tk, .int .u32 (aZ.tva : Nat), .int .i64 (aZ.tas : Nat), .int .u32 (aZ.va : Nat), .bool aZ.us, .bool aZ.st], .int .i64 80]) ∧ Fi 77 w' b F ∧ Turn (· = b) w w' := by
  have HX0 : Hid _ := RX.start w b t F hF
  have hreg := rregister_any t
  rw [hr] at hreg
  have hop := roperation_any t
  obtain ⟨o1, o2, o3⟩ := op_none ho
  rw [o1, o2, o3] at hop
  clear hF hr ho o1 o2 o3
  go_enter Tryd.func30, Tryd.ntmps30
  go_wp2_with (fail)
  go_at_call 33
  refine (hreg _).mono ?_
  rintro e w1 ⟨rfl, hb⟩
  have HX1 : Hid _ := HX0.out.step hb
  clear hb HX0 hreg
  generalize w.heap.size + 1 = g at *
  have c0 := HX1.out.box.cell
  go_wp2_with (fail)
  go_at_call 35
  refine (hop _).mono ?_
  rintro e w2 ⟨rfl, hb⟩
  have HX2 : Hid _ := HX1.out.step hb
  clear hb HX1 hop c0
  have n0 := HX2.out.act.cell
  have n1 := HX2.out.act.frozen
  have n2 := HX2.out.act.lt
  have hgb : ¬ g = b := by have := HX2.out.new; have := HX2.out.old; omega
  have hn := HX2.out.new
  go_wp2
  refine bodyPost_ret (v := .tuple #[.agg #[.int .i64 aZ.k, .int .i64 aZ.tk, .int .u32 (aZ.tva : Nat), .int .i64 (aZ.tas : Nat), .int .u32 (aZ.va : Nat), .bool aZ.us, .bool aZ.st], .int .i64 80]) (by simp [results, Tryd.results30, go_sem, n0, n1, n2, aZ]) rfl ⟨rfl, ?_, ?_⟩
  · (repeat (with_reducible refine Fi.setO ?_ (Ne.symm hgb) _ _)); with_reducible exact HX2.out.fi
  · (repeat (with_reducible refine Turn.setCell ?_ (.inr (by simpa using hn)) _)); with_reducible exact Turn.below HX2.out.bel
set_option maxRecDepth 100000 in
set_option maxHeartbeats 4000000 in
theorem rwrite_no (b x c : Nat) (t : Tu) (F : List Nat) (w : World) (hF : Fi 77 w b F) (hr : regOf t = none) (ho : opOf t = some c) (hc : ¬ c = 8) :
    Calls Tryd.prog 30 #[.pointer (some ⟨b, 0, none⟩), .agg #[.int .i64 t.a, .int .i64 t.b, .int .i64 t.c, .int .i64 t.d], .bool false, .int .u32 (x : Int)] w fun e w' => e = .returned (.tuple #[.agg #[.int .i64 aZ.k, .int .i64 aZ.tk, .int .u32 (aZ.tva : Nat), .int .i64 (aZ.tas : Nat), .int .u32 (aZ.va : Nat), .bool aZ.us, .bool aZ.st], .int .i64 81]) ∧ Fi 77 w' b F ∧ Turn (· = b) w w' := by
  have HX0 : Hid _ := RX.start w b t F hF
  have hreg := rregister_any t
  rw [hr] at hreg
  have hop := roperation_any t
  have hbar := rbarrier_any t
  have hob : (barB t || (asB t || drB t)) = true ∧ barB t = false := by
    rcases op_mem ho with ⟨h, _⟩ | ⟨_, h1, h2, h3, _⟩ | ⟨_, _, h1, h2, h3, _⟩
    · exact absurd h hc
    · simp [h1, h2, h3]
    · simp [h1, h2, h3]
  rw [hob.1] at hop
  rw [hob.2] at hbar
  clear hF hr ho hob hc
  go_enter Tryd.func30, Tryd.ntmps30
  go_wp2_with (fail)
  go_at_call 33
  refine (hreg _).mono ?_
  rintro e w1 ⟨rfl, hb⟩
  have HX1 : Hid _ := HX0.out.step hb
  clear hb HX0 hreg
  generalize w.heap.size + 1 = g at *
  have c0 := HX1.out.box.cell
  go_wp2_with (fail)
  go_at_call 35
  refine (hop _).mono ?_
  rintro e w2 ⟨rfl, hb⟩
  have HX2 : Hid _ := HX1.out.step hb
  clear hb HX1 hop c0
  have c0 := HX2.out.box.cell
  go_wp2_with (fail)
  go_at_call 36
  refine (hbar _).mono ?_
  rintro e w3 ⟨rfl, hb⟩
  have HX3 : Hid _ := HX2.out.step hb
  clear hb HX2 hbar c0
  have n0 := HX3.out.act.cell
  have n1 := HX3.out.act.frozen
  have n2 := HX3.out.act.lt
  have hgb : ¬ g = b := by have := HX3.out.new; have := HX3.out.old; omega
  have hn := HX3.out.new
  go_wp2
  refine bodyPost_ret (v := .tuple #[.agg #[.int .i64 aZ.k, .int .i64 aZ.tk, .int .u32 (aZ.tva : Nat), .int .i64 (aZ.tas : Nat), .int .u32 (aZ.va : Nat), .bool aZ.us, .bool aZ.st], .int .i64 81]) (by simp [results, Tryd.results30, go_sem, n0, n1, n2, aZ]) rfl ⟨rfl, ?_, ?_⟩
  · (repeat (with_reducible refine Fi.setO ?_ (Ne.symm hgb) _ _)); with_reducible exact HX3.out.fi
  · (repeat (with_reducible refine Turn.setCell ?_ (.inr (by simpa using hn)) _)); with_reducible exact Turn.below HX3.out.bel
set_option maxRecDepth 100000 in
set_option maxHeartbeats 4000000 in
theorem rwrite_yes (b x c : Nat) (t : Tu) (priv : Bool) (F : List Nat) (w : World) (hF : Fi 77 w b F) (hx : x < 4294967296) (hr : regOf t = none) (ho : opOf t = some c) (hp : (priv || c == 8) = true) :
    Calls Tryd.prog 30 #[.pointer (some ⟨b, 0, none⟩), .agg #[.int .i64 t.a, .int .i64 t.b, .int .i64 t.c, .int .i64 t.d], .bool priv, .int .u32 (x : Int)] w fun e w' => e = .returned (.tuple #[.agg #[.int .i64 ((actD c x)).k, .int .i64 ((actD c x)).tk, .int .u32 (((actD c x)).tva : Nat), .int .i64 (((actD c x)).tas : Nat), .int .u32 (((actD c x)).va : Nat), .bool ((actD c x)).us, .bool ((actD c x)).st], .int .i64 0]) ∧ Fi 77 w' b F ∧ Turn (· = b) w w' := by
  have HX0 : Hid _ := RX.start w b t F hF
  have hreg := rregister_any t
  rw [hr] at hreg
  have hop := roperation_any t
  have hbar := rbarrier_any t
  have hob : (barB t || (asB t || drB t)) = true ∧ (priv = false → barB t = true) := by
    rcases op_mem ho with ⟨h, h1, h2, h3⟩ | ⟨h0, h1, h2, h3, _⟩ | ⟨h0, h00, h1, h2, h3, _⟩
    · simp [h1, h2, h3]
    · have : (c == 8) = false := by simp; omega
      simp [h1, h2, h3]; rw [this] at hp; simpa using hp
    · have : (c == 8) = false := by simp; omega
      simp [h1, h2, h3]; rw [this] at hp; simpa using hp
  rw [hob.1] at hop
  have hact := fun w => ract_any t x c w hx ho
  generalize hZ : actD c x = Z at *
  have HZ : Hid (actD c x = Z) := hZ
  clear hF hr ho hZ
  obtain ⟨z1, z2, z3, z4, z5, z6, z7⟩ := Z
  cases priv
  · rw [hob.2 rfl] at hbar
    clear hob hp
    go_enter Tryd.func30, Tryd.ntmps30
    go_wp2_with (fail)
    go_at_call 33
    refine (hreg _).mono ?_
    rintro e w1 ⟨rfl, hb⟩
    have HX1 : Hid _ := HX0.out.step hb
    clear hb HX0 hreg
    generalize w.heap.size + 1 = g at *
    have c0 := HX1.out.box.cell
    go_wp2_with (fail)
    go_at_call 35
    refine (hop _).mono ?_
    rintro e w2 ⟨rfl, hb⟩
    have HX2 : Hid _ := HX1.out.step hb
    clear hb HX1 hop c0
    have c0 := HX2.out.box.cell
    go_wp2_with (fail)
    go_at_call 36
    refine (hbar _).mono ?_
    rintro e w3 ⟨rfl, hb⟩
    have HX3 : Hid _ := HX2.out.step hb
    clear hb HX2 hbar c0
    have c0 := HX3.out.box.cell
    go_wp2_with (fail)
    go_at_call 37
    refine (hact _).mono ?_
    rintro e w4 ⟨rfl, hb⟩
    have HX4 : Hid _ := HX3.out.step hb
    clear hb HX3 hact c0
    have n0 := HX4.out.act.cell
    have n1 := HX4.out.act.frozen
    have n2 := HX4.out.act.lt
    have hgb : ¬ g = b := by have := HX4.out.new; have := HX4.out.old; omega
    have hn := HX4.out.new
    go_wp2
    refine bodyPost_ret (v := .tuple #[.agg #[.int .i64 z1, .int .i64 z2, .int .u32 (z3 : Nat), .int .i64 (z4 : Nat), .int .u32 (z5 : Nat), .bool z6, .bool z7], .int .i64 0]) (by simp [results, Tryd.results30, go_sem, n0, n1, n2]) rfl ⟨rfl, ?_, ?_⟩
    · (repeat (with_reducible refine Fi.setO ?_ (Ne.symm hgb) _ _)); with_reducible exact HX4.out.fi
    · (repeat (with_reducible refine Turn.setCell ?_ (.inr (by simpa using hn)) _)); with_reducible exact Turn.below HX4.out.bel
  · clear hob hp hbar
    go_enter Tryd.func30, Tryd.ntmps30
    go_wp2_with (fail)
    go_at_call 33
    refine (hreg _).mono ?_
    rintro e w1 ⟨rfl, hb⟩
    have HX1 : Hid _ := HX0.out.step hb
    clear hb HX0 hreg
    generalize w.heap.size + 1 = g at *
    have c0 := HX1.out.box.cell
    go_wp2_with (fail)
    go_at_call 35
    refine (hop _).mono ?_
    rintro e w2 ⟨rfl, hb⟩
    have HX2 : Hid _ := HX1.out.step hb
    clear hb HX1 hop c0
    have c0 := HX2.out.box.cell
    go_wp2_with (fail)
    go_at_call 37
    refine (hact _).mono ?_
    rintro e w4 ⟨rfl, hb⟩
    have HX4 : Hid _ := HX2.out.step hb
    clear hb HX2 hact c0
    have n0 := HX4.out.act.cell
    have n1 := HX4.out.act.frozen
    have n2 := HX4.out.act.lt
    have hgb : ¬ g = b := by have := HX4.out.new; have := HX4.out.old; omega
    have hn := HX4.out.new
    go_wp2
    refine bodyPost_ret (v := .tuple #[.agg #[.int .i64 z1, .int .i64 z2, .int .u32 (z3 : Nat), .int .i64 (z4 : Nat), .int .u32 (z5 : Nat), .bool z6, .bool z7], .int .i64 0]) (by simp [results, Tryd.results30, go_sem, n0, n1, n2]) rfl ⟨rfl, ?_, ?_⟩
    · (repeat (with_reducible refine Fi.setO ?_ (Ne.symm hgb) _ _)); with_reducible exact HX4.out.fi
    · (repeat (with_reducible refine Turn.setCell ?_ (.inr (by simpa using hn)) _)); with_reducible exact Turn.below HX4.out.bel
end Go.Proofs.YtdinmhjdnnhhjaaDoor
