import Derived.Test.YtdinmhjdnnhhjaaDoorPm
import Derived.Test.YtdinmhjdnnhhjaaDoorPr
import Derived.Test.YtdinmhjdnnhhjaaDoorLa
namespace Go.Proofs.YtdinmhjdnnhhjaaDoor
open Go.RowKit
set_option linter.unusedVariables false
set_option linter.unusedSimpArgs false
/-- A call of a script. -/
structure Opr where
  k : Int
  t : Tu
  priv : Bool
  w : Nat
  reg : Int
def dsF (F : List Nat) (o : Opr) : Ac × Nat × List Nat :=
  if o.k = 1 then (aZ, (rdF F o.t o.priv).2, F) else if o.k = 2 then wrF F o.t o.priv o.w else if o.k = 4 then (aZ, ptE o.reg, ptF F o.reg o.w) else (aZ, 0, F)
structure DX (w wr : World) (g b : Nat) (o : Opr) (F : List Nat) : Prop where
  bel : Below w.heap.size w wr
  box : Bl wr w.heap.size 30 ([.int .i64 o.k, .int .i64 o.t.a, .int .i64 o.t.b, .int .i64 o.t.c, .int .i64 o.t.d, .bool o.priv, .int .u32 (o.w : Nat), .int .i64 o.reg])
  act : Bl wr g 36 ([.int .i64 aZ.k, .int .i64 aZ.tk, .int .u32 (aZ.tva : Nat), .int .i64 (aZ.tas : Nat), .int .u32 (aZ.va : Nat), .bool aZ.us, .bool aZ.st])
  fi : Fi 63 wr b F
  tr : TR wr
  new : w.heap.size ≤ g
  old : b < w.heap.size
theorem DX.step {w wr wr' : World} {g b : Nat} {o : Opr} {F : List Nat} (h : DX w wr g b o F) (hb : Below wr.heap.size wr wr') : DX w wr' g b o F :=
  ⟨Below.step h.bel hb, h.box.below hb, h.act.below hb, h.fi.below hb, h.tr.below hb, h.new, h.old⟩
theorem DX.start (w : World) (b : Nat) (o : Opr) (F : List Nat) (hF : Fi 63 w b F) (hT : TR w) : DX w ((w.alloc (.cells ([.int .i64 o.k, .int .i64 o.t.a, .int .i64 o.t.b, .int .i64 o.t.c, .int .i64 o.t.d, .bool o.priv, .int .u32 (o.w : Nat), .int .i64 o.reg]).toArray 30)).alloc (.cells ([.int .i64 aZ.k, .int .i64 aZ.tk, .int .u32 (aZ.tva : Nat), .int .i64 (aZ.tas : Nat), .int .u32 (aZ.va : Nat), .bool aZ.us, .bool aZ.st]).toArray 36)) (w.heap.size + 1) b o F := by
  have hb : Below w.heap.size w ((w.alloc (.cells ([.int .i64 o.k, .int .i64 o.t.a, .int .i64 o.t.b, .int .i64 o.t.c, .int .i64 o.t.d, .bool o.priv, .int .u32 (o.w : Nat), .int .i64 o.reg]).toArray 30)).alloc (.cells ([.int .i64 aZ.k, .int .i64 aZ.tk, .int .u32 (aZ.tva : Nat), .int .i64 (aZ.tas : Nat), .int .u32 (aZ.va : Nat), .bool aZ.us, .bool aZ.st]).toArray 36)) := (below_new _ _).alloc (by simp) _
  refine ⟨hb, (Bl.new _ _ _).below (below_new _ _), ?_, hF.below hb, hT.below hb, by omega, hF.lt⟩
  have := Bl.new (w.alloc (.cells ([.int .i64 o.k, .int .i64 o.t.a, .int .i64 o.t.b, .int .i64 o.t.c, .int .i64 o.t.d, .bool o.priv, .int .u32 (o.w : Nat), .int .i64 o.reg]).toArray 30)) 36 ([.int .i64 aZ.k, .int .i64 aZ.tk, .int .u32 (aZ.tva : Nat), .int .i64 (aZ.tas : Nat), .int .u32 (aZ.va : Nat), .bool aZ.us, .bool aZ.st])
  simpa using this
set_option maxRecDepth 100000 in
set_option maxHeartbeats 4000000 in
theorem does_any (b : Nat) (o : Opr) (F : List Nat) (w : World) (hF : Fi 63 w b F) (hT : TR w) (hx : o.w < 4294967296) :
    Calls Tryd.prog 11 #[.pointer (some ⟨b, 0, none⟩), .agg #[.int .i64 o.k, .int .i64 o.t.a, .int .i64 o.t.b, .int .i64 o.t.c, .int .i64 o.t.d, .bool o.priv, .int .u32 (o.w : Nat), .int .i64 o.reg]] w fun e w' => e = .returned (.tuple #[.agg #[.int .i64 ((dsF F o).1).k, .int .i64 ((dsF F o).1).tk, .int .u32 (((dsF F o).1).tva : Nat), .int .i64 (((dsF F o).1).tas : Nat), .int .u32 (((dsF F o).1).va : Nat), .bool ((dsF F o).1).us, .bool ((dsF F o).1).st], .int .i64 ((dsF F o).2.1 : Nat)]) ∧ Fi 63 w' b (dsF F o).2.2 ∧ Turn (· = b) w w' := by
  have HX0 : Hid _ := DX.start w b o F hF hT
  have HR : Hid (∀ w, Fi 63 w b F → TR w → Calls Tryd.prog 18 #[.pointer (some ⟨b, 0, none⟩), .agg #[.int .i64 (o.t).a, .int .i64 (o.t).b, .int .i64 (o.t).c, .int .i64 (o.t).d], .bool o.priv] w fun e w' => e = .returned (.tuple #[.int .u32 ((rdF F o.t o.priv).1 : Nat), .int .i64 ((rdF F o.t o.priv).2 : Nat)]) ∧ Below w.heap.size w w') := fun w h1 h2 => read_any b o.t o.priv F w h1 h2
  have HW : Hid (∀ w, Fi 63 w b F → TR w → Calls Tryd.prog 17 #[.pointer (some ⟨b, 0, none⟩), .agg #[.int .i64 (o.t).a, .int .i64 (o.t).b, .int .i64 (o.t).c, .int .i64 (o.t).d], .bool o.priv, .int .u32 (o.w : Nat)] w fun e w' => e = .returned (.tuple #[.agg #[.int .i64 ((wrF F o.t o.priv o.w).1).k, .int .i64 ((wrF F o.t o.priv o.w).1).tk, .int .u32 (((wrF F o.t o.priv o.w).1).tva : Nat), .int .i64 (((wrF F o.t o.priv o.w).1).tas : Nat), .int .u32 (((wrF F o.t o.priv o.w).1).va : Nat), .bool ((wrF F o.t o.priv o.w).1).us, .bool ((wrF F o.t o.priv o.w).1).st], .int .i64 ((wrF F o.t o.priv o.w).2.1 : Nat)]) ∧ Fi 63 w' b (wrF F o.t o.priv o.w).2.2 ∧ Turn (· = b) w w') := fun w h1 h2 => write_any b o.w o.t o.priv F w h1 h2 hx
  have HP : Hid (∀ w, Fi 63 w b F → TR w → Calls Tryd.prog 14 #[.pointer (some ⟨b, 0, none⟩), .int .i64 o.reg, .int .u32 (o.w : Nat)] w fun e w' => e = .returned (.int .i64 (ptE o.reg : Nat)) ∧ Fi 63 w' b (ptF F o.reg o.w) ∧ Turn (· = b) w w') := fun w h1 h2 => put_any b F o.reg o.w w h1 h2 hx
  clear hF hT hx
  by_cases k1 : o.k = 1
  · have HD : Hid (dsF F o = (aZ, (rdF F o.t o.priv).2, F)) := by show _ = _; simp [dsF, k1]
    rw [HD.out]
    clear HD HW HP
    obtain ⟨k, ⟨a1, a2, a3, a4⟩, priv, x, reg⟩ := o
    dsimp only at *
    subst k1
    generalize rdF F ⟨a1, a2, a3, a4⟩ priv = Z at *
    obtain ⟨z1, z2⟩ := Z
    go_enter Tryd.func11, Tryd.ntmps11
    go_wp2_with (fail)
    go_at_call 18
    refine (HR.out _ HX0.out.fi HX0.out.tr).mono ?_
    rintro e w1 ⟨rfl, hb⟩
    have HX1 : Hid _ := HX0.out.step hb
    clear hb HX0 HR
    generalize w.heap.size + 1 = g at *
    have n0 := HX1.out.act.cell
    have n1 := HX1.out.act.frozen
    have n2 := HX1.out.act.lt
    have hgb : ¬ g = b := by have := HX1.out.new; have := HX1.out.old; omega
    have hn := HX1.out.new
    go_wp2
    refine bodyPost_ret (v := .tuple #[.agg #[.int .i64 aZ.k, .int .i64 aZ.tk, .int .u32 (aZ.tva : Nat), .int .i64 (aZ.tas : Nat), .int .u32 (aZ.va : Nat), .bool aZ.us, .bool aZ.st], .int .i64 (z2 : Nat)]) (by simp [results, Tryd.results11, go_sem, n0, n1, n2, aZ]) rfl ⟨rfl, ?_, ?_⟩
    · (repeat (with_reducible refine Fi.setO ?_ (Ne.symm hgb) _ _)); with_reducible exact HX1.out.fi
    · (repeat (with_reducible refine Turn.setCell ?_ (.inr (by simpa using hn)) _)); with_reducible exact Turn.below HX1.out.bel
  · by_cases k2 : o.k = 2
    · have HD : Hid (dsF F o = wrF F o.t o.priv o.w) := by show _ = _; simp [dsF, k2]
      rw [HD.out]
      clear HD HR HP k1
      obtain ⟨k, ⟨a1, a2, a3, a4⟩, priv, x, reg⟩ := o
      dsimp only at *
      subst k2
      generalize wrF F ⟨a1, a2, a3, a4⟩ priv x = Z at *
      obtain ⟨⟨z1, z2, z3, z4, z5, z6, z7⟩, z8, G⟩ := Z
      go_enter Tryd.func11, Tryd.ntmps11
      go_wp2_with (fail)
      go_at_call 17
      refine (HW.out _ HX0.out.fi HX0.out.tr).mono ?_
      rintro e w2 ⟨rfl, hA, hB⟩
      generalize w.heap.size + 1 = g at *
      have hgb : ¬ g = b := by have := HX0.out.new; have := HX0.out.old; omega
      have hact := HX0.out.act.turn hB hgb
      have n0 := hact.cell
      have n1 := hact.frozen
      have n2 := hact.lt
      have HA : Hid (Fi 63 w2 b G) := hA
      have HB : Hid (Turn (· = b) w w2) := (Turn.below HX0.out.bel).then hB
      have hn := HX0.out.new
      clear hA hB hact HW HX0
      go_wp2
      refine bodyPost_ret (v := .tuple #[.agg #[.int .i64 z1, .int .i64 z2, .int .u32 (z3 : Nat), .int .i64 (z4 : Nat), .int .u32 (z5 : Nat), .bool z6, .bool z7], .int .i64 (z8 : Nat)]) (by simp [results, Tryd.results11, go_sem, n0, n1, n2]) rfl ⟨rfl, ?_, ?_⟩
      · (repeat (with_reducible refine Fi.setO ?_ (Ne.symm hgb) _ _)); with_reducible exact HA.out
      · (repeat (with_reducible refine Turn.setCell ?_ (.inr (by simpa using hn)) _)); with_reducible exact HB.out
    · by_cases k4 : o.k = 4
      · have HD : Hid (dsF F o = (aZ, ptE o.reg, ptF F o.reg o.w)) := by show _ = _; simp [dsF, k4]
        rw [HD.out]
        clear HD HR HW k1 k2
        obtain ⟨k, ⟨a1, a2, a3, a4⟩, priv, x, reg⟩ := o
        dsimp only at *
        subst k4
        generalize ptF F reg x = G at *
        generalize ptE reg = z8 at *
        go_enter Tryd.func11, Tryd.ntmps11
        go_wp2_with (fail)
        go_at_call 14
        refine (HP.out _ HX0.out.fi HX0.out.tr).mono ?_
        rintro e w2 ⟨rfl, hA, hB⟩
        generalize w.heap.size + 1 = g at *
        have hgb : ¬ g = b := by have := HX0.out.new; have := HX0.out.old; omega
        have hact := HX0.out.act.turn hB hgb
        have n0 := hact.cell
        have n1 := hact.frozen
        have n2 := hact.lt
        have HA : Hid (Fi 63 w2 b G) := hA
        have HB : Hid (Turn (· = b) w w2) := (Turn.below HX0.out.bel).then hB
        have hn := HX0.out.new
        clear hA hB hact HP HX0
        go_wp2
        refine bodyPost_ret (v := .tuple #[.agg #[.int .i64 aZ.k, .int .i64 aZ.tk, .int .u32 (aZ.tva : Nat), .int .i64 (aZ.tas : Nat), .int .u32 (aZ.va : Nat), .bool aZ.us, .bool aZ.st], .int .i64 (z8 : Nat)]) (by simp [results, Tryd.results11, go_sem, n0, n1, n2, aZ]) rfl ⟨rfl, ?_, ?_⟩
        · (repeat (with_reducible refine Fi.setO ?_ (Ne.symm hgb) _ _)); with_reducible exact HA.out
        · (repeat (with_reducible refine Turn.setCell ?_ (.inr (by simpa using hn)) _)); with_reducible exact HB.out
      · have HD : Hid (dsF F o = (aZ, 0, F)) := by show _ = _; simp [dsF, k1, k2, k4]
        rw [HD.out]
        clear HD HR HW HP
        obtain ⟨k, ⟨a1, a2, a3, a4⟩, priv, x, reg⟩ := o
        dsimp only at *
        have j1 : (k == 1) = false := by simp [k1]
        have j2 : (k == 2) = false := by simp [k2]
        have j4 : (k == 4) = false := by simp [k4]
        have hf := HX0.out.fi
        have hbl := HX0.out.bel
        have hlt : b < w.heap.size := HX0.out.old
        clear k1 k2 k4
        go_enter Tryd.func11, Tryd.ntmps11
        go_wp2
        refine bodyPost_ret (v := .tuple #[.agg #[.int .i64 aZ.k, .int .i64 aZ.tk, .int .u32 (aZ.tva : Nat), .int .i64 (aZ.tas : Nat), .int .u32 (aZ.va : Nat), .bool aZ.us, .bool aZ.st], .int .i64 0]) (by simp [results, Tryd.results11, go_sem, aZ]) rfl ⟨rfl, ?_, ?_⟩
        · exact hf
        · exact Turn.below hbl
end Go.Proofs.YtdinmhjdnnhhjaaDoor
