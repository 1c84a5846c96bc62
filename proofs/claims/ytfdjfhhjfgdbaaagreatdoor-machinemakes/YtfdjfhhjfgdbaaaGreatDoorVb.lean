import Derived.Test.YtfdjfhhjfgdbaaaGreatDoorHf
import Derived.Laws.AppendOwn
import Derived.Laws.OwnMore
import Derived.Deep.AppendSrc
namespace Go.Proofs.YtfdjfhhjfgdbaaaGreatDoor
open Go.RowKit
set_option linter.unusedVariables false
set_option linter.unusedSimpArgs false
section
variable {P : Program}
/-- A block of plain cells. -/
def RowAt (W : World) (g : Nat) (e : TypeId) (cur : List Value) : Prop := W.heap[g]? = some (.cells cur.toArray e (0, 0))
theorem grownBy_trans {W W1 W2 : World} {r : Option Nat} (h : W.grownBy W1 r) (h2 : W1.grownBy W2 r) : W.grownBy W2 r :=
  ⟨h2.os.trans h.os, h2.tape.trans h.tape, h2.output.trans h.output, Nat.le_trans h.size h2.size, fun k hk hne => (h2.block k (Nat.lt_of_lt_of_le hk h.size) hne).trans (h.block k hk hne)⟩
theorem grownBy_drew (W : World) (r : Option Nat) : W.grownBy W.drew r := ⟨rfl, rfl, rfl, Nat.le_refl _, fun _ _ _ => rfl⟩
theorem zeroCells_list (z : Array Value) (n : Nat) : (Builtin.zeroCells z n).toList.length = n * z.size := by
  rw [Array.length_toList, size_zeroCells]

/-- append without room: a new row. -/
theorem append_away (w : World) (t e : TypeId) (i : TypeInfo) (z : Value) (ht : P.underlying t = some (.slice e)) (hi : P.info? e = some i) (hz : i.zero = some z) (hzs : z.cells.size = i.size)
    (base : Option Addr) (sLen sCap : Nat) (olds : List Value) (hol : olds.length = sLen * i.size) (hold : (Builtin.firstCells i.size sLen (.slice base sLen sCap)).run P w.drew = .ok olds.toArray w.drew)
    (x : Value) (m : Nat) (news : List Value) (hs : Src P i.size t x m news w) (hroom : sCap < sLen + m) (h63 : sLen + m ≤ maxLen) (hby : (sLen + m) * i.bytes ≤ 140737488355328) :
    ∃ w' cap rest, (∀ ty, (Builtin.append_ #[t, t] ty #[.slice base sLen sCap, x]).run P w = .ok (.slice (some ⟨w.heap.size, 0, none⟩) (sLen + m) cap) w') ∧
      RowAt w' w.heap.size e (olds ++ news ++ rest) ∧ rest.length = (cap - (sLen + m)) * i.size ∧ sLen + m ≤ cap ∧ cap ≤ maxLen ∧ w.grownBy w' none ∧ w'.heap.size = w.heap.size + 1 := by
  have hr := fun ty => run_append_grow_src (P := P) w t t ty e i z ht hi hz base sLen sCap olds hold x m news hs hroom (by unfold maxLen at h63; omega) (growslice_fits hroom hby)
  refine ⟨_, _, (Builtin.zeroCells z.cells (grownCap w (sLen + m) sCap e - (sLen + m))).toList, hr, ?_, ?_, grownCap_ge _ _ _ _, grownCap_le_maxLen _ _ _ _ h63, ?_, ?_⟩
  · show _ = _
    have := heap_alloc_new w.drew (.cells ((olds ++ news).toArray ++ Builtin.zeroCells z.cells (grownCap w (sLen + m) sCap e - (sLen + m))) e)
    rw [show w.heap.size = w.drew.heap.size from rfl, this]
    congr 2
    apply Array.ext'
    simp
  · rw [zeroCells_list, hzs]
  · exact grownBy_trans (grownBy_drew w none) (World.grownBy_alloc _ _ _)
  · simp

end
theorem wpList_append_eq {P : Program} {w : World} {ops : Array Oper} {rest : List Oper} {o : Oper} {a : Act} {Q : Exit → Act → World → Prop} (hgd : o.guard = none) (s x : Operand) (t : TypeId)
    (ho : o.op = .call { callee := .builtin .append, args := #[s, x], argTypes := #[t, t] }) (v u : Value) (hs : a.eval s = v) (hx : a.eval x = u) {v' : Value} {w' : World} (hr : (Builtin.append_ #[t, t] o.type #[v, u]).run P w = .ok v' w')
    (h : wpList P ops Q rest (a.put o.dst v') w') : wpList P ops Q (o :: rest) a w :=
  wpList_plain hgd fun _ hK => by
    unfold Oper.wp execOp
    simp only [ho, resolve, invoke, builtin, Sem.run_bind, Sem.run_pure, Result.andThen_ok, List.map_toArray, List.map_cons, List.map_nil, hs, hx, hr]
    exact hK _ _ h

theorem below_grown {w w' : World} (h : w.grownBy w' none) : Below w.heap.size w w' := ⟨h.os, h.tape, h.output, h.size, fun i hi => h.block i hi (by simp)⟩
/-- append where there is no room: a new row. -/
theorem app_new (w : World) (gd gs : Nat) (olds news : List Slo) (nd m : Nat) (hd : Bl w gd 116 (rowS olds)) (hs : Bl w gs 116 (rowS news)) (h1 : olds.length = nd) (h2 : news.length = m) (hm : 1 ≤ m) (hn : nd ≤ 64) (hm2 : m ≤ 64) :
    ∃ w' cap rest, (∀ ty, (Builtin.append_ #[66, 66] ty #[.slice (some ⟨gd, 0, none⟩) nd nd, .slice (some ⟨gs, 0, none⟩) m m]).run Tryz.prog w = .ok (.slice (some ⟨w.heap.size, 0, none⟩) (nd + m) cap) w') ∧ Bl w' w.heap.size 116 (rowS (olds ++ news) ++ rest) ∧ nd + m ≤ cap ∧ Below w.heap.size w w' := by
  obtain ⟨i, hi, hz, hz1, hz2⟩ := info_parts infoS
  have hc : rowS (olds ++ news) = rowS olds ++ rowS news := by simp [rowS]
  obtain ⟨w', cap, rest, r1, r2, r3, r4, r5, r6, r7⟩ := append_away (P := Tryz.prog) w 66 116 i _ Tryz.underlying66 hi hz (by rw [hz1]; rfl) (some ⟨gd, 0, none⟩) nd nd (rowS olds) (by rw [rowS_len, h1, hz1])
    (run_firstCells_some (P := Tryz.prog) w.drew i.size nd ⟨gd, 0, none⟩ nd nd (rowS olds) (by rw [rowS_len, h1, hz1]) (fun j u hj => by rw [Addr.add_lit, Nat.zero_add]; exact (hd.cell j).trans hj))
    (.slice (some ⟨gs, 0, none⟩) m m) m (rowS news) (by rw [hz1]; exact Src.ofSlice _ Tryz.underlying66 ⟨gs, 0, none⟩ m m _ (by rw [rowS_len, h2]) (fun j u hj => by rw [Addr.add_lit, Nat.zero_add]; exact (hs.cell j).trans hj) (rowS_one news)) (by omega) (by unfold maxLen; omega) (by rw [hz2]; omega)
  exact ⟨w', cap, rest, r1, by rw [hc]; exact r2, r4, below_grown r6⟩
/-- append onto nothing. -/
theorem app_nil (w : World) (gs : Nat) (news : List Slo) (m : Nat) (hs : Bl w gs 116 (rowS news)) (h2 : news.length = m) (hm : 1 ≤ m) (hm2 : m ≤ 64) :
    ∃ w' cap rest, (∀ ty, (Builtin.append_ #[66, 66] ty #[.slice none 0 0, .slice (some ⟨gs, 0, none⟩) m m]).run Tryz.prog w = .ok (.slice (some ⟨w.heap.size, 0, none⟩) m cap) w') ∧ Bl w' w.heap.size 116 (rowS news ++ rest) ∧ m ≤ cap ∧ Below w.heap.size w w' := by
  obtain ⟨i, hi, hz, hz1, hz2⟩ := info_parts infoS
  obtain ⟨w', cap, rest, r1, r2, r3, r4, r5, r6, r7⟩ := append_away (P := Tryz.prog) w 66 116 i _ Tryz.underlying66 hi hz (by rw [hz1]; rfl) none 0 0 [] (by simp)
    (by simp [Builtin.firstCells])
    (.slice (some ⟨gs, 0, none⟩) m m) m (rowS news) (by rw [hz1]; exact Src.ofSlice _ Tryz.underlying66 ⟨gs, 0, none⟩ m m _ (by rw [rowS_len, h2]) (fun j u hj => by rw [Addr.add_lit, Nat.zero_add]; exact (hs.cell j).trans hj) (rowS_one news)) (by omega) (by unfold maxLen; omega) (by rw [hz2]; omega)
  simp only [Nat.zero_add, List.nil_append] at r1 r2 r4
  exact ⟨w', cap, rest, r1, r2, r4, below_grown r6⟩
set_option maxRecDepth 100000 in
set_option maxHeartbeats 4000000 in
theorem vplaces_1 (W : World) (A : Ad) (X : Hi) (h : PH 122 118 [.pointer none] W A X) :
    Calls Tryz.prog 18 #[.pointer (some ⟨A.h, 0, none⟩), .int .i64 1] W fun e w' => ∃ g cap rest, e = .returned (.slice (some ⟨g, 0, none⟩) X.i.length cap) ∧ Bl w' g 116 (rowS X.i ++ rest) ∧ Below W.heap.size W w' := by
  have c0 := h.box.cell 1
  have c1 := h.ti.cell
  obtain ⟨w2, cap, rest, hr, hrow, hcap, hb⟩ := app_nil W A.gi X.i X.i.length h.ti.row rfl h.ti.lo h.ti.hi
  have HR := hidW hr
  have HP := hidW hrow
  have HB := hidW hb
  clear h hrow hcap hb hr
  generalize X.i.length = n at *
  go_enter Tryz.func18, Tryz.ntmps18
  go_wp2_with (first | (at_builtin; refine wpList_append_eq rfl (.tmp 12) (.tmp 21) 66 rfl _ _ rfl rfl (HR.out _) ?_; clear HR))
  go_ret
  exact ⟨_, _, _, rfl, HP.out, HB.out⟩
set_option maxRecDepth 100000 in
set_option maxHeartbeats 4000000 in
theorem vplaces_2 (W : World) (A : Ad) (X : Hi) (h : PH 122 118 [.pointer none] W A X) :
    Calls Tryz.prog 18 #[.pointer (some ⟨A.h, 0, none⟩), .int .i64 2] W fun e w' => ∃ g cap rest, e = .returned (.slice (some ⟨g, 0, none⟩) X.d.length cap) ∧ Bl w' g 116 (rowS X.d ++ rest) ∧ Below W.heap.size W w' := by
  have c0 := h.box.cell 2
  have c1 := h.td.cell
  obtain ⟨w2, cap, rest, hr, hrow, hcap, hb⟩ := app_nil W A.gd X.d X.d.length h.td.row rfl h.td.lo h.td.hi
  have HR := hidW hr
  have HP := hidW hrow
  have HB := hidW hb
  clear h hrow hcap hb hr
  generalize X.d.length = n at *
  go_enter Tryz.func18, Tryz.ntmps18
  go_wp2_with (first | (at_builtin; refine wpList_append_eq rfl (.tmp 12) (.tmp 21) 66 rfl _ _ rfl rfl (HR.out _) ?_; clear HR))
  go_ret
  exact ⟨_, _, _, rfl, HP.out, HB.out⟩
set_option maxRecDepth 100000 in
set_option maxHeartbeats 4000000 in
theorem vplaces_3 (W : World) (A : Ad) (X : Hi) (h : PH 122 118 [.pointer none] W A X) :
    Calls Tryz.prog 18 #[.pointer (some ⟨A.h, 0, none⟩), .int .i64 3] W fun e w' => ∃ g cap rest, e = .returned (.slice (some ⟨g, 0, none⟩) X.m.length cap) ∧ Bl w' g 116 (rowS X.m ++ rest) ∧ Below W.heap.size W w' := by
  have c0 := h.box.cell 3
  have c1 := h.tm.cell
  obtain ⟨w2, cap, rest, hr, hrow, hcap, hb⟩ := app_nil W A.gm X.m X.m.length h.tm.row rfl h.tm.lo h.tm.hi
  have HR := hidW hr
  have HP := hidW hrow
  have HB := hidW hb
  clear h hrow hcap hb hr
  generalize X.m.length = n at *
  go_enter Tryz.func18, Tryz.ntmps18
  go_wp2_with (first | (at_builtin; refine wpList_append_eq rfl (.tmp 12) (.tmp 21) 66 rfl _ _ rfl rfl (HR.out _) ?_; clear HR))
  go_ret
  exact ⟨_, _, _, rfl, HP.out, HB.out⟩
set_option maxRecDepth 100000 in
set_option maxHeartbeats 4000000 in
theorem vplaces_no (W : World) (p : Option Addr) (which : Int) (h : which < 1 ∨ 3 < which) :
    Calls Tryz.prog 18 #[.pointer p, .int .i64 which] W fun e w' => e = .returned (.slice none 0 0) ∧ W = w' := by
  by_cases h1 : which < 1
  · go_enter Tryz.func18, Tryz.ntmps18
    go_wp2
    go_ret
    exact ⟨rfl, rfl⟩
  · have h2 : 3 < which := by omega
    go_enter Tryz.func18, Tryz.ntmps18
    go_wp2
    go_ret
    exact ⟨rfl, rfl⟩
/-- A slice of places with room behind it. -/
def Sw (w : World) (a : Option Addr) (L : List Slo) : Prop := L = [] ∨ ∃ g rest, a = some ⟨g, 0, none⟩ ∧ Bl w g 116 (rowS L ++ rest)
theorem vplaces_any (W : World) (A : Ad) (X : Hi) (which : Int) (h : PH 122 118 [.pointer none] W A X) :
    Calls Tryz.prog 18 #[.pointer (some ⟨A.h, 0, none⟩), .int .i64 which] W fun e w' => ∃ a cap, e = .returned (.slice a (plH X which).length cap) ∧ Sw w' a (plH X which) ∧ Below W.heap.size W w' := by
  unfold plH
  by_cases k1 : which = 1
  · subst k1; exact (vplaces_1 W A X h).mono fun e w' ⟨g, cap, rest, q1, q2, q3⟩ => ⟨_, _, q1, .inr ⟨g, rest, rfl, q2⟩, q3⟩
  by_cases k2 : which = 2
  · subst k2; exact (vplaces_2 W A X h).mono fun e w' ⟨g, cap, rest, q1, q2, q3⟩ => ⟨_, _, q1, .inr ⟨g, rest, rfl, q2⟩, q3⟩
  by_cases k3 : which = 3
  · subst k3; exact (vplaces_3 W A X h).mono fun e w' ⟨g, cap, rest, q1, q2, q3⟩ => ⟨_, _, q1, .inr ⟨g, rest, rfl, q2⟩, q3⟩
  rw [if_neg k1, if_neg k2, if_neg k3]
  refine (vplaces_no W _ which (by omega)).mono ?_
  rintro e w' ⟨h1, rfl⟩
  exact ⟨_, _, h1, .inl rfl, Below.refl _ _⟩
/-- New: the boxes. -/
structure NW (W wr : World) (h B : Nat) (i d m : Int) (c : List Value) : Prop where
  bel : Below W.heap.size W wr
  box : Bl wr h 122 c
  arr : Bl wr B 155 [.int .i64 0, .int .i64 i, .int .i64 d, .int .i64 m]
  hh : W.heap.size ≤ h
section
variable {W wr w' : World} {h B : Nat} {i d m : Int} {c : List Value}
theorem NW.step (x : NW W wr h B i d m c) (hb : Below wr.heap.size wr w') : NW W w' h B i d m c := ⟨Below.step x.bel hb, x.box.below hb, x.arr.below hb, x.hh⟩
theorem NW.put (x : NW W wr h B i d m c) (j : Nat) (v : Value) : NW W (wr.setCell ⟨h, j, none⟩ v) h B i d m (c.set j v) := by
  have hh := x.hh
  exact ⟨Below.setCell x.bel hh _, x.box.set j v, x.arr.setO (x.arr.ne x.box (by decide)) j v, x.hh⟩
theorem NW.start (W : World) (i d m : Int) : NW W ((W.alloc (.cells #[.pointer none, .pointer none, .pointer none, .pointer none] 122)).alloc (.cells #[.int .i64 0, .int .i64 i, .int .i64 d, .int .i64 m] 155)) W.heap.size (W.heap.size + 1) i d m [.pointer none, .pointer none, .pointer none, .pointer none] := by
  have b1 := below_new W (.cells #[.pointer none, .pointer none, .pointer none, .pointer none] 122)
  have b2 := below_new (W.alloc (.cells #[.pointer none, .pointer none, .pointer none, .pointer none] 122)) (.cells #[.int .i64 0, .int .i64 i, .int .i64 d, .int .i64 m] 155)
  have l1 := Bl.new W 122 [.pointer none, .pointer none, .pointer none, .pointer none]
  have l2 := Bl.new (W.alloc (.cells #[.pointer none, .pointer none, .pointer none, .pointer none] 122)) 155 [.int .i64 0, .int .i64 i, .int .i64 d, .int .i64 m]
  rw [show (W.alloc (.cells #[.pointer none, .pointer none, .pointer none, .pointer none] 122)).heap.size = W.heap.size + 1 by simp] at l2
  exact ⟨Below.step b1 b2, l1.below b2, l2, Nat.le_refl _⟩
end
theorem PT.setH {w : World} {p g h : Nat} {L : List Slo} {c : List Value} (x : PT 118 w p g L) (hx : Bl w h 122 c) (j : Nat) (v : Value) : PT 118 (w.setCell ⟨h, j, none⟩ v) p g L :=
  ⟨x.box.setO (x.box.ne hx (by decide)) j v, x.row.setO (x.row.ne hx (by decide)) j v, x.ok, x.lo, x.hi, x.ne⟩
theorem unew_yes' (n : Int) (W : World) (h : Okn n) : Calls Tryz.prog 53 #[.int .i64 n] W fun e w' => e = .returned (.tuple #[.pointer (some ⟨W.heap.size + 1, 0, none⟩), .int .i64 0]) ∧ PT 118 w' (W.heap.size + 1) W.heap.size (List.replicate n.toNat sZ) ∧ Below W.heap.size W w' := by
  unfold Okn at h
  obtain ⟨k, rfl⟩ := Int.eq_ofNat_of_zero_le (show 0 ≤ n by omega)
  exact unew_yes k W (by omega) (by omega)
theorem unew_no' (n : Int) (W : World) (h : ¬ Okn n) : Calls Tryz.prog 53 #[.int .i64 n] W fun e w' => e = .returned (.tuple #[.pointer none, .int .i64 100]) ∧ Below W.heap.size W w' := by
  refine (unew_no n W (by unfold Okn at h; omega)).mono ?_
  rintro e w' ⟨rfl, rfl⟩
  exact ⟨rfl, Below.refl _ _⟩
set_option maxRecDepth 100000 in
set_option maxHeartbeats 8000000 in
theorem vnew_yes (i d m : Int) (W : World) (h : Okn i ∧ Okn d ∧ Okn m) : Calls Tryz.prog 35 #[.int .i64 i, .int .i64 d, .int .i64 m] W fun e w' => ∃ A : Ad, e = .returned (.tuple #[.pointer (some ⟨A.h, 0, none⟩), .int .i64 0]) ∧ PH 122 118 [.pointer none] w' A (zH i d m) ∧ Below W.heap.size W w' ∧ (∀ x, A.S x → W.heap.size ≤ x) := by
  have H1 := fun w => hidW (unew_yes' i w h.1)
  have H2 := fun w => hidW (unew_yes' d w h.2.1)
  have H3 := fun w => hidW (unew_yes' m w h.2.2)
  have HX0 := hidW (NW.start W i d m)
  clear h
  unfold zH
  generalize List.replicate i.toNat sZ = L1 at *
  generalize List.replicate d.toNat sZ = L2 at *
  generalize List.replicate m.toNat sZ = L3 at *
  go_enter Tryz.func35, Tryz.ntmps35
  go_wp2
  generalize World.alloc _ _ = w0 at *
  generalize hh : W.heap.size = h at HX0 ⊢
  generalize h + 1 = B at *
  clear hh
  go_loopw [10] (fun k wr => (k = .int .i64 1 ∧ NW W wr h B i d m [.pointer none, .pointer none, .pointer none, .pointer none]) ∨ (k = .int .i64 2 ∧ ∃ p1 g1, NW W wr h B i d m [.pointer none, .pointer (some ⟨p1, 0, none⟩), .pointer none, .pointer none] ∧ PT 118 wr p1 g1 L1 ∧ W.heap.size ≤ g1) ∨ (k = .int .i64 3 ∧ ∃ p1 g1 p2 g2, NW W wr h B i d m [.pointer none, .pointer (some ⟨p1, 0, none⟩), .pointer (some ⟨p2, 0, none⟩), .pointer none] ∧ PT 118 wr p1 g1 L1 ∧ W.heap.size ≤ g1 ∧ PT 118 wr p2 g2 L2 ∧ g1 < g2) ∨ (k = .int .i64 4 ∧ ∃ p1 g1 p2 g2 p3 g3, NW W wr h B i d m [.pointer none, .pointer (some ⟨p1, 0, none⟩), .pointer (some ⟨p2, 0, none⟩), .pointer (some ⟨p3, 0, none⟩)] ∧ PT 118 wr p1 g1 L1 ∧ W.heap.size ≤ g1 ∧ PT 118 wr p2 g2 L2 ∧ g1 < g2 ∧ PT 118 wr p3 g3 L3 ∧ g2 < g3)) (fun k _ => (4 - intOf k).toNat)
  case atStart => exact .inl ⟨rfl, HX0.out⟩
  case round =>
    clear HX0
    rcases hrel with ⟨rfl, hX⟩ | ⟨rfl, p1, g1, hX, hp1, hg1⟩ | ⟨rfl, p1, g1, p2, g2, hX, hp1, hg1, hp2, hg2⟩ | ⟨rfl, p1, g1, p2, g2, p3, g3, hX, hp1, hg1, hp2, hg2, hp3, hg3⟩
    · have HX := hidW hX
      have hws : W.heap.size ≤ wr.heap.size := hX.bel.size
      clear hX
      have c1 := HX.out.arr.cell
      go_wp2_with (fail)
      go_at_call 53
      refine (H1 _).out.mono ?_
      rintro e w1 ⟨rfl, hp, hb⟩
      replace HX := hidW (HX.out.step hb)
      have HP := hidW hp
      have HG : Hid (W.heap.size ≤ wr.heap.size) := hidW hws
      clear hp hb c1
      generalize wr.heap.size + 1 = p at *
      generalize wr.heap.size = g at *
      have c2 := HX.out.box.cell
      have f2 := HX.out.box.frozen
      have l2 := HX.out.box.lt
      replace HP := hidW (HP.out.setH HX.out.box 1 (.pointer (some ⟨p, 0, none⟩)))
      replace HX := hidW (HX.out.put 1 (.pointer (some ⟨p, 0, none⟩)))
      go_wp2
      go_roundw
      case rel => exact .inr (.inl ⟨by go_num, p, g, HX.out, HP.out, HG.out⟩)
      case measure => simp [intOf]
    · have HX := hidW hX
      have HP1 := hidW hp1
      have HPL1 := hidW hp1.row.lt
      clear hX hp1
      have c1 := HX.out.arr.cell
      go_wp2_with (fail)
      go_at_call 53
      refine (H2 _).out.mono ?_
      rintro e w1 ⟨rfl, hp, hb⟩
      replace HX := hidW (HX.out.step hb)
      replace HP1 := hidW (HP1.out.below hb)
      have HP := hidW hp
      have HG : Hid (g1 < wr.heap.size) := HPL1
      clear hp hb c1
      generalize wr.heap.size + 1 = p at *
      generalize wr.heap.size = g at *
      have c2 := HX.out.box.cell
      have f2 := HX.out.box.frozen
      have l2 := HX.out.box.lt
      replace HP1 := hidW (HP1.out.setH HX.out.box 2 (.pointer (some ⟨p, 0, none⟩)))
      replace HP := hidW (HP.out.setH HX.out.box 2 (.pointer (some ⟨p, 0, none⟩)))
      replace HX := hidW (HX.out.put 2 (.pointer (some ⟨p, 0, none⟩)))
      go_wp2
      go_roundw
      case rel => exact .inr (.inr (.inl ⟨by go_num, p1, g1, p, g, HX.out, HP1.out, hg1, HP.out, HG.out⟩))
      case measure => simp [intOf]
    · have HX := hidW hX
      have HP1 := hidW hp1
      have HP2 := hidW hp2
      have HPL2 := hidW hp2.row.lt
      clear hX hp1 hp2
      have c1 := HX.out.arr.cell
      go_wp2_with (fail)
      go_at_call 53
      refine (H3 _).out.mono ?_
      rintro e w1 ⟨rfl, hp, hb⟩
      replace HX := hidW (HX.out.step hb)
      replace HP1 := hidW (HP1.out.below hb)
      replace HP2 := hidW (HP2.out.below hb)
      have HP := hidW hp
      have HG : Hid (g2 < wr.heap.size) := HPL2
      clear hp hb c1
      generalize wr.heap.size + 1 = p at *
      generalize wr.heap.size = g at *
      have c2 := HX.out.box.cell
      have f2 := HX.out.box.frozen
      have l2 := HX.out.box.lt
      replace HP1 := hidW (HP1.out.setH HX.out.box 3 (.pointer (some ⟨p, 0, none⟩)))
      replace HP2 := hidW (HP2.out.setH HX.out.box 3 (.pointer (some ⟨p, 0, none⟩)))
      replace HP := hidW (HP.out.setH HX.out.box 3 (.pointer (some ⟨p, 0, none⟩)))
      replace HX := hidW (HX.out.put 3 (.pointer (some ⟨p, 0, none⟩)))
      go_wp2
      go_roundw
      case rel => exact .inr (.inr (.inr ⟨by go_num, p1, g1, p2, g2, p, g, HX.out, HP1.out, hg1, HP2.out, hg2, HP.out, HG.out⟩))
      case measure => simp [intOf]
    · have HX := hidW hX
      have HP1 := hidW hp1
      have HP2 := hidW hp2
      have HP3 := hidW hp3
      clear hX hp1 hp2 hp3
      go_wp2
      go_ret2
      refine ⟨⟨h, p1, g1, p2, g2, p3, g3⟩, rfl, ⟨HX.out.box, HP1.out, HP2.out, HP3.out, Nat.ne_of_lt hg2, by show g1 ≠ g3; omega, Nat.ne_of_lt hg3, by decide⟩, HX.out.bel, ?_⟩
      rintro x (hx | hx | hx)
      · have hx : x = g1 := hx
        omega
      · have hx : x = g2 := hx
        omega
      · have hx : x = g3 := hx
        omega
set_option maxRecDepth 100000 in
set_option maxHeartbeats 8000000 in
theorem vnew_no (i d m : Int) (W : World) (h : ¬ (Okn i ∧ Okn d ∧ Okn m)) : Calls Tryz.prog 35 #[.int .i64 i, .int .i64 d, .int .i64 m] W fun e w' => e = .returned (.tuple #[.pointer none, .int .i64 100]) ∧ Below W.heap.size W w' := by
  have HH := hidW h
  have HX0 := hidW (NW.start W i d m)
  clear h
  go_enter Tryz.func35, Tryz.ntmps35
  go_wp2
  generalize World.alloc _ _ = w0 at *
  generalize hh : W.heap.size = h at HX0 ⊢
  generalize h + 1 = B at *
  clear hh
  go_loopw [10] (fun k wr => (k = .int .i64 1 ∧ NW W wr h B i d m [.pointer none, .pointer none, .pointer none, .pointer none]) ∨ (k = .int .i64 2 ∧ Hid (Okn i) ∧ ∃ p1, NW W wr h B i d m [.pointer none, .pointer (some ⟨p1, 0, none⟩), .pointer none, .pointer none]) ∨ (k = .int .i64 3 ∧ Hid (Okn i ∧ Okn d) ∧ ∃ p1 p2, NW W wr h B i d m [.pointer none, .pointer (some ⟨p1, 0, none⟩), .pointer (some ⟨p2, 0, none⟩), .pointer none])) (fun k _ => (4 - intOf k).toNat)
  case atStart => exact .inl ⟨rfl, HX0.out⟩
  case round =>
    clear HX0
    rcases hrel with ⟨rfl, hX⟩ | ⟨rfl, HO, p1, hX⟩ | ⟨rfl, HO, p1, p2, hX⟩
    · have HX := hidW hX
      clear hX
      by_cases hk : Okn i
      · have hk := hidW hk
        have c1 := HX.out.arr.cell
        go_wp2_with (fail)
        go_at_call 53
        refine (unew_yes' _ _ hk.out).mono ?_
        rintro e w1 ⟨rfl, _, hb⟩
        replace HX := hidW (HX.out.step hb)
        clear hb c1
        generalize wr.heap.size + 1 = p at *
        have c2 := HX.out.box.cell
        have f2 := HX.out.box.frozen
        have l2 := HX.out.box.lt
        replace HX := hidW (HX.out.put 1 (.pointer (some ⟨p, 0, none⟩)))
        go_wp2
        go_roundw
        case rel => exact .inr (.inl ⟨by go_num, hk, p, HX.out⟩)
        case measure => simp [intOf]
      · have hk := hidW hk
        have c1 := HX.out.arr.cell
        go_wp2_with (fail)
        go_at_call 53
        refine (unew_no' _ _ hk.out).mono ?_
        rintro e w1 ⟨rfl, hb⟩
        replace HX := hidW (HX.out.step hb)
        clear hb c1
        go_wp2
        go_ret2
        exact ⟨rfl, HX.out.bel⟩
    · have HX := hidW hX
      clear hX
      by_cases hk : Okn d
      · have hk := hidW hk
        have c1 := HX.out.arr.cell
        go_wp2_with (fail)
        go_at_call 53
        refine (unew_yes' _ _ hk.out).mono ?_
        rintro e w1 ⟨rfl, _, hb⟩
        replace HX := hidW (HX.out.step hb)
        clear hb c1
        generalize wr.heap.size + 1 = p at *
        have c2 := HX.out.box.cell
        have f2 := HX.out.box.frozen
        have l2 := HX.out.box.lt
        replace HX := hidW (HX.out.put 2 (.pointer (some ⟨p, 0, none⟩)))
        go_wp2
        go_roundw
        case rel => exact .inr (.inr ⟨by go_num, hidW ⟨HO.out, hk.out⟩, p1, p, HX.out⟩)
        case measure => simp [intOf]
      · have hk := hidW hk
        have c1 := HX.out.arr.cell
        go_wp2_with (fail)
        go_at_call 53
        refine (unew_no' _ _ hk.out).mono ?_
        rintro e w1 ⟨rfl, hb⟩
        replace HX := hidW (HX.out.step hb)
        clear hb c1
        go_wp2
        go_ret2
        exact ⟨rfl, HX.out.bel⟩
    · have HX := hidW hX
      clear hX
      have hk : Hid (¬ Okn m) := hidW (fun hk => HH.out ⟨HO.out.1, HO.out.2, hk⟩)
      have c1 := HX.out.arr.cell
      go_wp2_with (fail)
      go_at_call 53
      refine (unew_no' _ _ hk.out).mono ?_
      rintro e w1 ⟨rfl, hb⟩
      replace HX := hidW (HX.out.step hb)
      clear hb c1
      go_wp2
      go_ret2
      exact ⟨rfl, HX.out.bel⟩
end Go.Proofs.YtfdjfhhjfgdbaaaGreatDoor
