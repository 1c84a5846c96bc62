import Derived.Test.YtnjlajjjcmhfgaaGreatDoorQA22
namespace Go.Proofs.YtnjlajjjcmhfgaaGreatDoor
open Go.RowKit
open Mm (Turn)
set_option linter.unusedVariables false
set_option linter.unusedSimpArgs false
/-- Look: the result's box, what was found. -/
structure LX (W wr : World) (A B p g : Nat) (L : List Slo) (b : Blo) : Prop where
  bel : Below W.heap.size W wr
  pt : PT 133 wr p g L
  res : Bl wr A 45 [.int .i64 0, .int .i64 0, .int .u32 0, .int .u64 0, .int .i64 0, .int .i64 0, .int .u32 0, .bool false, .bool false]
  fnd : Bl wr B 45 ([.int .i64 b.asid, .int .i64 b.t.size, .int .u32 b.t.va, .int .u64 b.t.pa, .int .i64 b.t.dom, .int .i64 b.t.ap, .int .u32 b.t.bits, .bool b.t.ng, .bool b.t.xn])
  hA : W.heap.size ≤ A
  hB : W.heap.size ≤ B
  ne : A ≠ B
section
variable {W wr w' : World} {A B p g : Nat} {L : List Slo} {b : Blo}
theorem LX.step (h : LX W wr A B p g L b) (hb : Below wr.heap.size wr w') : LX W w' A B p g L b := ⟨Below.step h.bel hb, h.pt.below hb, h.res.below hb, h.fnd.below hb, h.hA, h.hB, h.ne⟩
theorem LX.start (h : PT 133 W p g L) : LX W ((W.alloc (.cells ([.int .i64 0, .int .i64 0, .int .u32 0, .int .u64 0, .int .i64 0, .int .i64 0, .int .u32 0, .bool false, .bool false]).toArray 45)).alloc (.cells ([.int .i64 0, .int .i64 0, .int .u32 0, .int .u64 0, .int .i64 0, .int .i64 0, .int .u32 0, .bool false, .bool false]).toArray 45)) W.heap.size (W.heap.size + 1) p g L bZ := by
  have h1 := below_new W (.cells ([.int .i64 0, .int .i64 0, .int .u32 0, .int .u64 0, .int .i64 0, .int .i64 0, .int .u32 0, .bool false, .bool false]).toArray 45)
  have h2 := below_new (W.alloc (.cells ([.int .i64 0, .int .i64 0, .int .u32 0, .int .u64 0, .int .i64 0, .int .i64 0, .int .u32 0, .bool false, .bool false]).toArray 45)) (.cells ([.int .i64 0, .int .i64 0, .int .u32 0, .int .u64 0, .int .i64 0, .int .i64 0, .int .u32 0, .bool false, .bool false]).toArray 45)
  have h3 := Bl.new (W.alloc (.cells ([.int .i64 0, .int .i64 0, .int .u32 0, .int .u64 0, .int .i64 0, .int .i64 0, .int .u32 0, .bool false, .bool false]).toArray 45)) 45 [.int .i64 0, .int .i64 0, .int .u32 0, .int .u64 0, .int .i64 0, .int .i64 0, .int .u32 0, .bool false, .bool false]
  rw [show (W.alloc (.cells ([.int .i64 0, .int .i64 0, .int .u32 0, .int .u64 0, .int .i64 0, .int .i64 0, .int .u32 0, .bool false, .bool false]).toArray 45)).heap.size = W.heap.size + 1 by simp] at h3
  exact ⟨Below.step h1 h2, (h.below h1).below h2, (Bl.new _ _ _).below h2, h3, Nat.le_refl _, by omega, by omega⟩
theorem LX.put (h : LX W wr A B p g L b) (c : Blo) : LX W (((((((((wr.setCell ⟨B, 0, none⟩ (.int .i64 c.asid)).setCell ⟨B, 1, none⟩ (.int .i64 c.t.size)).setCell ⟨B, 2, none⟩ (.int .u32 c.t.va)).setCell ⟨B, 3, none⟩ (.int .u64 c.t.pa)).setCell ⟨B, 4, none⟩ (.int .i64 c.t.dom)).setCell ⟨B, 5, none⟩ (.int .i64 c.t.ap)).setCell ⟨B, 6, none⟩ (.int .u32 c.t.bits)).setCell ⟨B, 7, none⟩ (.bool c.t.ng)).setCell ⟨B, 8, none⟩ (.bool c.t.xn)) A B p g L c := by
  have hpl := h.pt.box.lt
  have hgl := h.pt.row.lt
  have hB := h.hB
  have hn : A ≠ B := h.ne
  have hT : Turn (fun x => x = B) wr (((((((((wr.setCell ⟨B, 0, none⟩ (.int .i64 c.asid)).setCell ⟨B, 1, none⟩ (.int .i64 c.t.size)).setCell ⟨B, 2, none⟩ (.int .u32 c.t.va)).setCell ⟨B, 3, none⟩ (.int .u64 c.t.pa)).setCell ⟨B, 4, none⟩ (.int .i64 c.t.dom)).setCell ⟨B, 5, none⟩ (.int .i64 c.t.ap)).setCell ⟨B, 6, none⟩ (.int .u32 c.t.bits)).setCell ⟨B, 7, none⟩ (.bool c.t.ng)).setCell ⟨B, 8, none⟩ (.bool c.t.xn)) := (((((((((Turn.refl (fun x => x = B) wr).setCell (p := ⟨B, 0, none⟩) (.inl rfl) _).setCell (p := ⟨B, 1, none⟩) (.inl rfl) _).setCell (p := ⟨B, 2, none⟩) (.inl rfl) _).setCell (p := ⟨B, 3, none⟩) (.inl rfl) _).setCell (p := ⟨B, 4, none⟩) (.inl rfl) _).setCell (p := ⟨B, 5, none⟩) (.inl rfl) _).setCell (p := ⟨B, 6, none⟩) (.inl rfl) _).setCell (p := ⟨B, 7, none⟩) (.inl rfl) _).setCell (p := ⟨B, 8, none⟩) (.inl rfl) _
  have hf := (((((((((h.fnd.set 0 (.int .i64 c.asid)).set 1 (.int .i64 c.t.size)).set 2 (.int .u32 c.t.va)).set 3 (.int .u64 c.t.pa)).set 4 (.int .i64 c.t.dom)).set 5 (.int .i64 c.t.ap)).set 6 (.int .u32 c.t.bits)).set 7 (.bool c.t.ng)).set 8 (.bool c.t.xn))
  have hp : p ≠ B := h.pt.box.ne h.fnd (by decide)
  have hg : g ≠ B := h.pt.row.ne h.fnd (by decide)
  refine ⟨?_, h.pt.turn hT hp hg, h.res.turn hT hn, hf, h.hA, h.hB, h.ne⟩
  exact ((Turn.below (S := fun x => x = B) h.bel).trans hT (fun x hx => .inl hx)).to (fun x hx => by rw [hx]; exact hB) (Nat.le_refl _)
end
set_option maxRecDepth 100000 in
set_option maxHeartbeats 8000000 in
theorem look_any (W : World) (p g : Nat) (L : List Slo) (va asid : Int) (hP : PT 133 W p g L) (ht : TB W) (hv : 0 ≤ va ∧ va < 4294967296) :
    Calls Tryz.prog 31 #[.pointer (some ⟨p, 0, none⟩), .int .u32 va, .int .i64 asid] W fun e w' => e = .returned (.tuple #[.agg #[.int .i64 ((lkF L va asid).1).asid, .int .i64 ((lkF L va asid).1).t.size, .int .u32 ((lkF L va asid).1).t.va, .int .u64 ((lkF L va asid).1).t.pa, .int .i64 ((lkF L va asid).1).t.dom, .int .i64 ((lkF L va asid).1).t.ap, .int .u32 ((lkF L va asid).1).t.bits, .bool ((lkF L va asid).1).t.ng, .bool ((lkF L va asid).1).t.xn], .int .i64 ((lkF L va asid).2 : Nat)]) ∧ Below W.heap.size W w' := by
  have HX0 : Hid _ := hidW (LX.start hP)
  have c0 := HX0.out.pt.cell
  have hn := hP.hi
  have HM : Hid (∀ b w, BOk b → Below W.heap.size W w → Calls Tryz.prog 59 #[.agg #[.int .i64 b.asid, .int .i64 b.t.size, .int .u32 b.t.va, .int .u64 b.t.pa, .int .i64 b.t.dom, .int .i64 b.t.ap, .int .u32 b.t.bits, .bool b.t.ng, .bool b.t.xn], .int .u32 va, .int .i64 asid] w fun e w' => e = .returned (.bool (maF b va asid)) ∧ Below w.heap.size w w') := fun b w h1 h2 => match_any b va asid w (ht.below h2) h1 hv
  clear hP ht
  generalize hl : L.length = n at *
  have HN : Hid (L.length = n) := hl
  clear hl
  go_enter Tryz.func31, Tryz.ntmps31
  go_wp2
  generalize World.alloc _ _ = w0 at *
  generalize hA : W.heap.size = A at HX0 ⊢
  generalize hB : A + 1 = B at HX0 ⊢
  clear hA hB c0
  go_loopw [9, 17] (fun c i wr => ∃ k : Nat, k ≤ n ∧ c = .int .i64 (((lkP (L.take k) va asid).2 : Nat) : Int) ∧ i = .int .i64 k ∧ LX W wr A B p g L (lkP (L.take k) va asid).1) (fun _ i _ => n - (intOf i).toNat)
  case atStart => exact ⟨0, by omega, rfl, rfl, HX0.out⟩
  case round =>
    obtain ⟨k, hk, rfl, rfl, hX⟩ := hrel
    have HX := hidW hX
    clear hX HX0
    have hc : (lkP (L.take k) va asid).2 ≤ k := by
      have h1 := lkP_le va asid (L.take k)
      rw [List.length_take] at h1
      omega
    by_cases hlt : k < n
    · obtain ⟨s, hs, hok, e0, e1, e2, e3, e4, e5, e6, e7, e8, e9⟩ := HX.out.pt.at (k := k) (by rw [HN.out]; exact hlt)
      have HQ := hidW (lkP_take hs va asid)
      have HS := hidW hok
      have HAl := fun o => hidW (HX.out.step (below_new _ o))
      clear HX hs hok
      generalize lkP (L.take k) va asid = r at *
      obtain ⟨rb, rn⟩ := r
      obtain ⟨fu, sb⟩ := s
      dsimp only at *
      cases fu
      · have HQ2 : Hid (lkP (L.take (k + 1)) va asid = (rb, rn)) := HQ.out
        clear HQ HS HM
        go_wp2
        go_roundw
        case rel => exact ⟨k + 1, by omega, by rw [HQ2.out], by go_num, by rw [HQ2.out]; exact (HAl _).out⟩
        case measure => simp [intOf]; omega
      · have hr : bR sb = true := HS.out.yes rfl
        have ho := HS.out.ok
        have hov : ovF sb va asid = maF sb va asid := by simp [ovF, hr]
        have HQ1 : Hid (lkP (L.take (k + 1)) va asid = if maF sb va asid = true then (sb, rn + 1) else (rb, rn)) := by
          have := HQ.out
          simp only [lkS, hov, Bool.true_and] at this
          exact this
        have HO := hidW ho
        clear HQ HS hr hov ho
        go_wp2_with (fail)
        go_at_call 59
        refine (HM.out sb _ HO.out (HAl _).out.bel).mono ?_
        rintro e w2 ⟨rfl, hb⟩
        have HX2 := hidW ((HAl _).out.step hb)
        have hz : wr.heap.size < w2.heap.size := by have := hb.size; simp at this; omega
        have HS2 : Hid (Bl w2 wr.heap.size 135 (.bool true :: [.int .i64 sb.asid, .int .i64 sb.t.size, .int .u32 sb.t.va, .int .u64 sb.t.pa, .int .i64 sb.t.dom, .int .i64 sb.t.ap, .int .u32 sb.t.bits, .bool sb.t.ng, .bool sb.t.xn])) := (Bl.new wr 135 (.bool true :: [.int .i64 sb.asid, .int .i64 sb.t.size, .int .u32 sb.t.va, .int .u64 sb.t.pa, .int .i64 sb.t.dom, .int .i64 sb.t.ap, .int .u32 sb.t.bits, .bool sb.t.ng, .bool sb.t.xn])).below hb
        clear hb HAl HM e0 e1 e2 e3 e4 e5 e6 e7 e8 e9
        generalize wr.heap.size = C at *
        cases hm : maF sb va asid
        · have HQ2 : Hid (lkP (L.take (k + 1)) va asid = (rb, rn)) := by rw [hm] at HQ1; exact HQ1.out
          clear HQ1 hm
          go_wp2
          go_roundw
          case rel => exact ⟨k + 1, by omega, by rw [HQ2.out], by go_num, by rw [HQ2.out]; exact HX2.out⟩
          case measure => simp [intOf]; omega
        · have HQ2 : Hid (lkP (L.take (k + 1)) va asid = (sb, rn + 1)) := by rw [hm] at HQ1; exact HQ1.out
          have c1 := HS2.out.cell
          have c2 := HX2.out.fnd.cell
          have f2 := HX2.out.fnd.frozen
          have l2 := HX2.out.fnd.lt
          clear HQ1 hm HO
          go_wp2
          go_roundw
          case rel => exact ⟨k + 1, by omega, by rw [HQ2.out]; go_num, by go_num, by rw [HQ2.out]; exact HX2.out.put sb⟩
          case measure => simp [intOf]; omega
    · obtain rfl : k = n := by omega
      have HR : Hid (lkF L va asid = if (lkP (L.take k) va asid).2 = 1 then lkP (L.take k) va asid else (bZ, (lkP (L.take k) va asid).2)) := by
        rw [← HN.out, List.take_length]
        exact hidW rfl
      generalize lkP (L.take k) va asid = r at *
      obtain ⟨rb, rn⟩ := r
      have r1 := HX.out.res.cell
      have r2 := HX.out.res.frozen
      have r3 := HX.out.res.lt
      have c1 := HX.out.fnd.cell
      have hAn := HX.out.hA
      dsimp only at *
      by_cases h1 : rn = 1
      · have HR2 : Hid (lkF L va asid = (rb, rn)) := by rw [if_pos h1] at HR; exact HR.out
        have hz : (rn : Int) = 1 := by omega
        clear HR
        subst h1
        go_wp2
        refine bodyPost_ret (v := .tuple #[.agg #[.int .i64 rb.asid, .int .i64 rb.t.size, .int .u32 rb.t.va, .int .u64 rb.t.pa, .int .i64 rb.t.dom, .int .i64 rb.t.ap, .int .u32 rb.t.bits, .bool rb.t.ng, .bool rb.t.xn], .int .i64 1]) (by simp [results, Tryz.results31, go_sem, r1, r2, r3]) rfl ⟨by rw [HR2.out]; rfl, ?_⟩
        (repeat (with_reducible refine Below.setCell ?_ hAn _)); exact HX.out.bel
      · have HR2 : Hid (lkF L va asid = (bZ, rn)) := by rw [if_neg h1] at HR; exact HR.out
        have hz : ¬ (rn : Int) = 1 := by omega
        clear HR
        go_wp2
        refine bodyPost_ret (v := .tuple #[.agg #[.int .i64 0, .int .i64 0, .int .u32 0, .int .u64 0, .int .i64 0, .int .i64 0, .int .u32 0, .bool false, .bool false], .int .i64 rn]) (by simp [results, Tryz.results31, go_sem, r1, r2, r3]) rfl ⟨by rw [HR2.out]; rfl, ?_⟩
        (repeat (with_reducible refine Below.setCell ?_ hAn _)); exact HX.out.bel
end Go.Proofs.YtnjlajjjcmhfgaaGreatDoor
namespace Go.Proofs.YtnjlajjjcmhfgaaGreatDoor
open Go.RowKit
open Mm (Turn)
set_option linter.unusedVariables false
set_option linter.unusedSimpArgs false
theorem ix_split {L : List Slo} {k : Nat} {s : Slo} (hs : L[k]? = some s) : L = L.take k ++ s :: L.drop (k + 1) := by
  have hk := (List.getElem?_eq_some_iff.1 hs).1
  have he := (List.getElem?_eq_some_iff.1 hs).2
  conv => lhs; rw [← List.take_append_drop k L, List.drop_eq_getElem_cons hk, he]
theorem ix_yes {L : List Slo} {k : Nat} {s v : Slo} (hs : L[k]? = some s) (hn : ixF (L.take k) v = none) (h : s.same v = true) : ixF L v = some k := by
  have hk := (List.getElem?_eq_some_iff.1 hs).1
  unfold ixF at *
  rw [ix_split hs, List.findIdx?_append, hn, List.findIdx?_cons, h]
  simp
  omega
theorem ix_no {L : List Slo} {k : Nat} {s v : Slo} (hs : L[k]? = some s) (hn : ixF (L.take k) v = none) (h : s.same v = false) : ixF (L.take (k + 1)) v = none := by
  unfold ixF at *
  rw [List.take_add_one, hs, List.findIdx?_append, hn]
  simp [List.findIdx?_cons, h]
def ixI (L : List Slo) (v : Slo) : Int := match ixF L v with | some i => (i : Int) | none => -1
theorem ixF_lt {L : List Slo} {v : Slo} {i : Nat} (h : ixF L v = some i) : i < L.length := by
  unfold ixF at h
  obtain ⟨hi, _⟩ := List.findIdx?_eq_some_iff_getElem.1 h
  exact hi
set_option maxRecDepth 100000 in
theorem eqB (a b : Blo) (w : World) : (Op.equalIn 10000 45 (.agg #[.int .i64 a.asid, .int .i64 a.t.size, .int .u32 a.t.va, .int .u64 a.t.pa, .int .i64 a.t.dom, .int .i64 a.t.ap, .int .u32 a.t.bits, .bool a.t.ng, .bool a.t.xn]) (.agg #[.int .i64 b.asid, .int .i64 b.t.size, .int .u32 b.t.va, .int .u64 b.t.pa, .int .i64 b.t.dom, .int .i64 b.t.ap, .int .u32 b.t.bits, .bool b.t.ng, .bool b.t.xn])).run Tryz.prog w = .ok (a.same b) w := by
  obtain ⟨a0, a1, a2, a3, a4, a5, a6, a7, a8⟩ := a
  obtain ⟨b0, b1, b2, b3, b4, b5, b6, b7, b8⟩ := b
  go_simp
  simp only [Blo.same, Tra.same]
  repeat' split
  all_goals simp_all
set_option maxRecDepth 100000 in
theorem eqS (a b : Slo) (w : World) : (Op.equalIn 10000 135 (.agg #[.bool a.full, .int .i64 a.b.asid, .int .i64 a.b.t.size, .int .u32 a.b.t.va, .int .u64 a.b.t.pa, .int .i64 a.b.t.dom, .int .i64 a.b.t.ap, .int .u32 a.b.t.bits, .bool a.b.t.ng, .bool a.b.t.xn]) (.agg #[.bool b.full, .int .i64 b.b.asid, .int .i64 b.b.t.size, .int .u32 b.b.t.va, .int .u64 b.b.t.pa, .int .i64 b.b.t.dom, .int .i64 b.b.t.ap, .int .u32 b.b.t.bits, .bool b.b.t.ng, .bool b.b.t.xn])).run Tryz.prog w = .ok (a.same b) w := by
  obtain ⟨af, a0, a1, a2, a3, a4, a5, a6, a7, a8⟩ := a
  obtain ⟨bf, b0, b1, b2, b3, b4, b5, b6, b7, b8⟩ := b
  go_simp
  simp only [Slo.same, Blo.same, Tra.same]
  repeat' split
  all_goals simp_all
/-- Index: the box of what is sought, the row. -/
structure IX (W wr : World) (g : Nat) (L : List Slo) (v : Slo) : Prop where
  bel : Below W.heap.size W wr
  row : Bl wr g 135 (rowS L)
  box : Bl wr W.heap.size 135 ([.bool v.full, .int .i64 v.b.asid, .int .i64 v.b.t.size, .int .u32 v.b.t.va, .int .u64 v.b.t.pa, .int .i64 v.b.t.dom, .int .i64 v.b.t.ap, .int .u32 v.b.t.bits, .bool v.b.t.ng, .bool v.b.t.xn])
theorem IX.drewN {W wr : World} {g : Nat} {L : List Slo} {v : Slo} (h : IX W wr g L v) (q : Nat) : IX W (wr.drewN q) g L v := ⟨below_drewN h.bel q, h.row.drewN q, h.box.drewN q⟩
set_option maxRecDepth 100000 in
set_option maxHeartbeats 4000000 in
theorem index_any (W : World) (g : Nat) (L : List Slo) (v : Slo) (hR : Bl W g 135 (rowS L)) (hn : L.length ≤ 64) : Calls Tryz.prog 57 #[.slice (some ⟨g, 0, none⟩) L.length L.length, .agg #[.bool v.full, .int .i64 v.b.asid, .int .i64 v.b.t.size, .int .u32 v.b.t.va, .int .u64 v.b.t.pa, .int .i64 v.b.t.dom, .int .i64 v.b.t.ap, .int .u32 v.b.t.bits, .bool v.b.t.ng, .bool v.b.t.xn]] W fun e w' => e = .returned (.int .i64 (ixI L v)) ∧ Below W.heap.size W w' := by
  have HX0 : Hid (IX W (W.alloc (.cells ([.bool v.full, .int .i64 v.b.asid, .int .i64 v.b.t.size, .int .u32 v.b.t.va, .int .u64 v.b.t.pa, .int .i64 v.b.t.dom, .int .i64 v.b.t.ap, .int .u32 v.b.t.bits, .bool v.b.t.ng, .bool v.b.t.xn]).toArray 135)) g L v) := hidW ⟨below_new _ _, hR.below (below_new _ _), Bl.new _ _ _⟩
  clear hR
  generalize hl : L.length = n at *
  have HN : Hid (L.length = n) := hl
  clear hl
  go_enter Tryz.func57, Tryz.ntmps57
  go_wp2
  generalize World.alloc _ _ = w0 at *
  go_loopw [8] (fun i wr => ∃ k : Nat, k ≤ n ∧ i = .int .i64 k ∧ ixF (L.take k) v = none ∧ IX W wr g L v) (fun i _ => n - (intOf i).toNat)
  case atStart => exact ⟨0, by omega, rfl, rfl, HX0.out⟩
  case round =>
    obtain ⟨k, hk, rfl, hq, hX⟩ := hrel
    have HX := hidW hX
    have HQ := hidW hq
    clear hX hq HX0
    by_cases hlt : k < n
    · obtain ⟨s, hs⟩ : ∃ s, L[k]? = some s := ⟨_, List.getElem?_eq_getElem (by rw [HN.out]; exact hlt)⟩
      obtain ⟨e0, e1, e2, e3, e4, e5, e6, e7, e8, e9⟩ := rowS_cells HX.out.row hs
      have c0 := HX.out.box.cell
      have HS := hidW hs
      have he := eqS v s
      rw [Slo.same_comm] at he
      have HD := fun q => hidW (HX.out.drewN q)
      clear HX hs
      cases hm : s.same v
      · rw [hm] at he
        have HQ2 := hidW (ix_no HS.out HQ.out hm)
        clear HQ HS hm
        go_wp2
        go_quiet (fail)
        go_wp2
        go_roundw
        case rel => exact ⟨k + 1, by omega, by go_num, HQ2.out, (HD _).out⟩
        case measure => simp [intOf]; omega
      · rw [hm] at he
        have HQ2 := hidW (ix_yes HS.out HQ.out hm)
        clear HQ HS hm
        go_wp2
        go_quiet (fail)
        go_wp2
        go_ret
        exact ⟨by unfold ixI; rw [HQ2.out]; rfl, (HD _).out.bel⟩
    · obtain rfl : k = n := by omega
      have HQ2 : Hid (ixF L v = none) := by
        have := HQ.out
        rw [← HN.out, List.take_length] at this
        exact hidW this
      clear HQ
      go_wp2
      go_ret
      exact ⟨by unfold ixI; rw [HQ2.out]; rfl, HX.out.bel⟩
theorem tmod_rest (x : Int) (n : Nat) (h : 1 ≤ n) : -(n : Int) < x.tmod n ∧ x.tmod n < n ∧ x % n = (if x.tmod n < 0 then x.tmod n + n else x.tmod n) := by
  have hn : (n : Int) ≠ 0 := by omega
  by_cases h0 : 0 ≤ x
  · have e := Int.tmod_eq_emod_of_nonneg h0 (b := (n : Int))
    have h1 := Int.emod_nonneg x hn
    have h2 := Int.emod_lt_of_pos x (show (0 : Int) < n by omega)
    rw [e]
    refine ⟨by omega, by omega, ?_⟩
    rw [if_neg (by omega)]
  · have e : x.tmod n = -((-x) % n) := by
      have e1 := Int.neg_tmod (-x) (n : Int)
      rw [Int.neg_neg] at e1
      rw [e1, Int.tmod_eq_emod_of_nonneg (by omega)]
    have h1 := Int.emod_nonneg (-x) hn
    have h2 := Int.emod_lt_of_pos (-x) (show (0 : Int) < n by omega)
    have h3 := Int.emod_nonneg x hn
    have h4 := Int.emod_lt_of_pos x (show (0 : Int) < n by omega)
    have h5 := Int.mul_ediv_add_emod x n
    have h6 := Int.mul_ediv_add_emod (-x) n
    rw [e]
    refine ⟨by omega, by omega, ?_⟩
    have h7 : (n : Int) * (x / n + -x / n) = -(x % n + -x % n) := by rw [Int.mul_add]; omega
    have h8 : x / n + -x / n = 0 ∨ x / n + -x / n = -1 := by
      generalize x / (n : Int) + -x / n = z at h7
      have a1 : z < 1 := by
        by_cases hz : z < 1
        · exact hz
        · exfalso
          have : (n : Int) * 1 ≤ n * z := Int.mul_le_mul_of_nonneg_left (by omega) (by omega)
          omega
      have a2 : -2 < z := by
        by_cases hz : -2 < z
        · exact hz
        · exfalso
          have : (n : Int) * z ≤ n * (-2) := Int.mul_le_mul_of_nonneg_left (by omega) (by omega)
          omega
      omega
    rcases h8 with h8 | h8 <;> rw [h8] at h7 <;> split <;> omega
set_option maxRecDepth 100000 in
theorem rest_any (x : Int) (n : Nat) (w : World) (h1 : 1 ≤ n) (h2 : n ≤ 64) : Calls Tryz.prog 58 #[.int .i64 x, .int .i64 n] w fun e w' => e = .returned (.int .i64 (x % n)) ∧ w = w' := by
  obtain ⟨a1, a2, a3⟩ := tmod_rest x n h1
  rw [a3]
  have hn : ¬ (n : Int) = 0 := by omega
  have hw : IntKind.i64.wrap (x.tmod n) = x.tmod n := by rw [IntKind.wrap_i64]; omega
  have hw2 : IntKind.i64.wrap (x.tmod n + n) = x.tmod n + n := by rw [IntKind.wrap_i64]; omega
  clear a3
  by_cases h : x.tmod n < 0
  · rw [if_pos h]
    go_enter Tryz.func58, Tryz.ntmps58
    go_wp2
    go_ret
    exact ⟨rfl, rfl⟩
  · rw [if_neg h]
    go_enter Tryz.func58, Tryz.ntmps58
    go_wp2
    go_ret
    exact ⟨rfl, rfl⟩
end Go.Proofs.YtnjlajjjcmhfgaaGreatDoor
