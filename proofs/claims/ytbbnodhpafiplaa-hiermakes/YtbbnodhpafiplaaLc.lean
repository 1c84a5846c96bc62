import Derived.Test.YtbbnodhpafiplaaVb
namespace Go.Proofs.Ytbbnodhpafiplaa
open Go.RowKit
set_option linter.unusedVariables false
set_option linter.unusedSimpArgs false
/-- A row of places lies from a block's beginning on. -/
def Rs (w : World) (g : Nat) (L : List Slo) : Prop := ∀ i v, (rowS L)[i]? = some v → w.cell? ⟨g, i, none⟩ = some v
theorem Bl.rs {w : World} {g : Nat} {t : TypeId} {L : List Slo} {rest : List Value} (h : Bl w g t (rowS L ++ rest)) : Rs w g L := fun i v hv => by
  rw [h.cell, List.getElem?_append_left (List.getElem?_eq_some_iff.1 hv).1]
  exact hv
theorem Bl.rs0 {w : World} {g : Nat} {t : TypeId} {L : List Slo} (h : Bl w g t (rowS L)) : Rs w g L := fun i v hv => by rw [h.cell]; exact hv
theorem Rs.drewN {w : World} {g : Nat} {L : List Slo} (h : Rs w g L) (q : Nat) : Rs (w.drewN q) g L := fun i v hv => h i v hv
theorem Rs.below {w w' : World} {g : Nat} {L : List Slo} (h : Rs w g L) (hb : Below w.heap.size w w') : Rs w' g L := fun i v hv => (hb.cell (cell_lt (h i v hv))).trans (h i v hv)
theorem Rs.cells {w : World} {g : Nat} {l : List Slo} (h : Rs w g l) {k : Nat} {x : Slo} (hx : l[k]? = some x) :
    w.cell? ⟨g, k * 10, none⟩ = some (.bool x.full) ∧ w.cell? ⟨g, k * 10 + 1, none⟩ = some (.int .i64 x.b.asid) ∧ w.cell? ⟨g, k * 10 + 2, none⟩ = some (.int .i64 x.b.t.size) ∧ w.cell? ⟨g, k * 10 + 3, none⟩ = some (.int .u32 x.b.t.va) ∧ w.cell? ⟨g, k * 10 + 4, none⟩ = some (.int .u64 x.b.t.pa) ∧ w.cell? ⟨g, k * 10 + 5, none⟩ = some (.int .i64 x.b.t.dom) ∧ w.cell? ⟨g, k * 10 + 6, none⟩ = some (.int .i64 x.b.t.ap) ∧ w.cell? ⟨g, k * 10 + 7, none⟩ = some (.int .u32 x.b.t.bits) ∧ w.cell? ⟨g, k * 10 + 8, none⟩ = some (.bool x.b.t.ng) ∧ w.cell? ⟨g, k * 10 + 9, none⟩ = some (.bool x.b.t.xn) := by
  have e : ∀ j v, (encS x)[j]? = some v → w.cell? ⟨g, k * 10 + j, none⟩ = some v := fun j v hv => by
    refine h _ _ ?_
    have hj : j < 10 := (List.getElem?_eq_some_iff.1 hv).1
    rw [rowS_at hx j hj]
    exact hv
  exact ⟨e 0 _ rfl, e 1 _ rfl, e 2 _ rfl, e 3 _ rfl, e 4 _ rfl, e 5 _ rfl, e 6 _ rfl, e 7 _ rfl, e 8 _ rfl, e 9 _ rfl⟩
/-- A slice of places, whatever lies behind it. -/
def Rv (w : World) (a : Option Addr) (L : List Slo) : Prop := L = [] ∨ ∃ g, a = some ⟨g, 0, none⟩ ∧ Rs w g L
theorem Sv.rv {w : World} {a : Option Addr} {L : List Slo} (h : Sv w a L) : Rv w a L := by
  rcases h with h | ⟨g, h1, h2⟩
  · exact .inl h
  · exact .inr ⟨g, h1, h2.rs0⟩
theorem Sw.rv {w : World} {a : Option Addr} {L : List Slo} (h : Sw w a L) : Rv w a L := by
  rcases h with h | ⟨g, rest, h1, h2⟩
  · exact .inl h
  · exact .inr ⟨g, h1, h2.rs⟩
theorem Rv.below {w w' : World} {a : Option Addr} {L : List Slo} (h : Rv w a L) (hb : Below w.heap.size w w') : Rv w' a L := by
  rcases h with h | ⟨g, h1, h2⟩
  · exact .inl h
  · exact .inr ⟨g, h1, h2.below hb⟩
theorem Rv.nil (w : World) (a : Option Addr) : Rv w a [] := .inl rfl
structure SLX (W wr : World) (g h : Nat) (L : List Slo) : Prop where
  bel : Below W.heap.size W wr
  ra : Rs wr g L
  rb : Rs wr h L
theorem SLX.drewN {W wr : World} {g h : Nat} {L : List Slo} (x : SLX W wr g h L) (q : Nat) : SLX W (wr.drewN q) g h L := ⟨below_drewN x.bel q, x.ra.drewN q, x.rb.drewN q⟩
set_option maxRecDepth 100000 in
set_option maxHeartbeats 4000000 in
theorem slots_nil (W : World) (a b : Option Addr) (ca cb : Nat) : Calls Try.prog 5 #[.slice a 0 ca, .slice b 0 cb] W fun e w' => e = .returned (.bool true) ∧ Below W.heap.size W w' := by
  go_enter Try.func5, Try.ntmps5
  go_wp2
  go_loopw [5] (fun i wr => i = .int .i64 0 ∧ W = wr) (fun i _ => 0)
  case atStart => exact ⟨rfl, rfl⟩
  case round =>
    obtain ⟨rfl, rfl⟩ := hrel
    go_wp2
    go_ret
    exact ⟨rfl, Below.refl _ _⟩
set_option maxRecDepth 100000 in
set_option maxHeartbeats 4000000 in
theorem slots_row (W : World) (g h ca cb n : Nat) (L : List Slo) (ha : Rs W g L) (hb : Rs W h L) (hn : n ≤ 64) (hl : L.length = n) :
    Calls Try.prog 5 #[.slice (some ⟨g, 0, none⟩) n ca, .slice (some ⟨h, 0, none⟩) n cb] W fun e w' => e = .returned (.bool true) ∧ Below W.heap.size W w' := by
  have HX0 : Hid (SLX W W g h L) := hidW ⟨Below.refl _ _, ha, hb⟩
  have HN : Hid (L.length = n) := hl
  clear hl ha hb
  go_enter Try.func5, Try.ntmps5
  go_wp2
  go_loopw [5] (fun i wr => ∃ k : Nat, k ≤ n ∧ i = .int .i64 k ∧ SLX W wr g h L) (fun i _ => n - (intOf i).toNat)
  case atStart => exact ⟨0, by omega, rfl, HX0.out⟩
  case round =>
    obtain ⟨k, hk, rfl, hX⟩ := hrel
    have HX := hidW hX
    clear hX HX0
    by_cases hlt : k < n
    · obtain ⟨s, hs⟩ : ∃ s, L[k]? = some s := ⟨_, List.getElem?_eq_getElem (by rw [HN.out]; exact hlt)⟩
      obtain ⟨e0, e1, e2, e3, e4, e5, e6, e7, e8, e9⟩ := HX.out.ra.cells hs
      obtain ⟨x0, x1, x2, x3, x4, x5, x6, x7, x8, x9⟩ := HX.out.rb.cells hs
      have he := eqS s s
      rw [Slo.same_self] at he
      have HD := fun q => hidW (HX.out.drewN q)
      clear HX hs
      obtain ⟨fu, sb⟩ := s
      dsimp only at *
      go_wp2
      go_quiet (fail)
      go_wp2
      go_roundw
      case rel => exact ⟨k + 1, by omega, by go_num, (HD _).out⟩
      case measure => simp [intOf]; omega
    · obtain rfl : k = n := by omega
      go_wp2
      go_ret
      exact ⟨rfl, HX.out.bel⟩
theorem slots_yes (W : World) (a b : Option Addr) (ca cb : Nat) (L : List Slo) (ha : Rv W a L) (hb : Rv W b L) (hn : L.length ≤ 64) :
    Calls Try.prog 5 #[.slice a L.length ca, .slice b L.length cb] W fun e w' => e = .returned (.bool true) ∧ Below W.heap.size W w' := by
  rcases ha with h | ⟨g, rfl, ha⟩
  · subst h; exact slots_nil W a b ca cb
  · rcases hb with h | ⟨k, rfl, hb⟩
    · subst h; exact slots_nil W _ b ca cb
    · exact slots_row W g k ca cb L.length L ha hb hn rfl
theorem plH_le {TH T : TypeId} {z : List Value} {w : World} {A : Ad} {X : Hi} (h : PH TH T z w A X) (k : Int) : (plH X k).length ≤ 64 := by
  unfold plH
  split
  · exact h.ti.hi
  · split
    · exact h.td.hi
    · split
      · exact h.tm.hi
      · simp
/-- Both, all their own. -/
structure T2 (W wr : World) (A B : Ad) (X : Hi) : Prop where
  bel : Below W.heap.size W wr
  pa : PH 50 64 [] wr A X
  pb : PH 57 53 [.pointer none] wr B X
  dis : ∀ x, A.S x → ¬ B.S x
  na : ∀ x, A.S x → W.heap.size ≤ x
  nb : ∀ x, B.S x → W.heap.size ≤ x
section
variable {W wr w' : World} {A B : Ad} {X Y : Hi}
theorem T2.step (h : T2 W wr A B X) (hb : Below wr.heap.size wr w') : T2 W w' A B X := ⟨Below.step h.bel hb, h.pa.below hb, h.pb.below hb, h.dis, h.na, h.nb⟩
theorem T2.drew (h : T2 W wr A B X) : T2 W wr.drew A B X := h.step (below_drew (Below.refl _ _))
end
set_option maxRecDepth 100000 in
set_option maxHeartbeats 4000000 in
theorem both_no (i d m : Int) (W : World) (h : ¬ (Okn i ∧ Okn d ∧ Okn m)) : Calls Try.prog 4 #[.int .i64 i, .int .i64 d, .int .i64 m] W fun e w' => e = .returned (.tuple #[.pointer none, .pointer none, .bool true]) ∧ Below W.heap.size W w' := by
  have H1 := fun w => hidW (hnew_no i d m w h)
  have H2 := fun w => hidW (vnew_no i d m w h)
  clear h
  go_enter Try.func4, Try.ntmps4
  go_wp2_with (fail)
  go_at_call 8
  refine (H1 _).out.mono ?_
  rintro e w1 ⟨rfl, hb⟩
  have HB := hidW hb
  clear hb
  go_wp2_with (fail)
  go_at_call 9
  refine (H2 _).out.mono ?_
  rintro e w2 ⟨rfl, hb⟩
  replace HB := hidW (Below.step HB.out hb)
  clear hb
  go_wp2
  exact bodyPost_ret (v := .tuple #[.pointer none, .pointer none, .bool true]) (by simp [results, Try.results4, go_sem]) rfl ⟨rfl, HB.out⟩
set_option maxRecDepth 100000 in
set_option maxHeartbeats 4000000 in
theorem both_yes (i d m : Int) (W : World) (h : Okn i ∧ Okn d ∧ Okn m) : Calls Try.prog 4 #[.int .i64 i, .int .i64 d, .int .i64 m] W fun e w' => ∃ A B : Ad, e = .returned (.tuple #[.pointer (some ⟨A.h, 0, none⟩), .pointer (some ⟨B.h, 0, none⟩), .bool true]) ∧ T2 W w' A B (zH i d m) := by
  have H1 := fun w => hidW (hnew_yes i d m w h)
  have H2 := fun w => hidW (vnew_yes i d m w h)
  clear h
  go_enter Try.func4, Try.ntmps4
  go_wp2_with (fail)
  go_at_call 8
  refine (H1 _).out.mono ?_
  rintro e w1 ⟨A, rfl, hp, hb, hn⟩
  have HA : Hid (PH 50 64 [] w1 A (zH i d m) ∧ Below W.heap.size W w1 ∧ ∀ x, A.S x → W.heap.size ≤ x) := hidW ⟨hp, hb, hn⟩
  clear hp hb hn
  go_wp2_with (fail)
  go_at_call 9
  refine (H2 _).out.mono ?_
  rintro e w2 ⟨B, rfl, hp, hb, hn⟩
  have HX : Hid (T2 W w2 A B (zH i d m)) := hidW ⟨Below.step HA.out.2.1 hb, HA.out.1.below hb, hp, fun x hx hy => by have h1 := HA.out.1.lt x hx; have h2 := hn x hy; omega, HA.out.2.2, fun x hx => Nat.le_trans HA.out.2.1.size (hn x hx)⟩
  clear hp hb hn HA
  go_wp2
  refine bodyPost_ret (v := .tuple #[.pointer (some ⟨A.h, 0, none⟩), .pointer (some ⟨B.h, 0, none⟩), .bool true]) (by simp [results, Try.results4, go_sem]) rfl ?_
  exact ⟨A, B, rfl, HX.out⟩
/-- What is asked of both behind a call. -/
theorem pair_hp {W w : World} {A B : Ad} {X : Hi} (k : Int) (h : T2 W w A B X) : Calls Try.prog 6 #[.pointer (some ⟨A.h, 0, none⟩), .int .i64 k] w fun e w' => ∃ a, e = .returned (.slice a (plH X k).length (plH X k).length) ∧ Rv w' a (plH X k) ∧ Below w.heap.size w w' :=
  (hplaces_any w A X k h.pa).mono fun e w' ⟨a, h1, h2, h3⟩ => ⟨a, h1, h2.rv, h3⟩
theorem pair_vp {W w : World} {A B : Ad} {X : Hi} (k : Int) (h : T2 W w A B X) : Calls Try.prog 7 #[.pointer (some ⟨B.h, 0, none⟩), .int .i64 k] w fun e w' => ∃ a cap, e = .returned (.slice a (plH X k).length cap) ∧ Rv w' a (plH X k) ∧ Below w.heap.size w w' :=
  (vplaces_any w B X k h.pb).mono fun e w' ⟨a, cap, h1, h2, h3⟩ => ⟨a, cap, h1, h2.rv, h3⟩
set_option maxRecDepth 100000 in
set_option maxHeartbeats 8000000 in
theorem makes_no (W : World) (i d m : Int) (h : ¬ (Okn i ∧ Okn d ∧ Okn m)) :
    Calls Try.prog 3 #[.int .i64 i, .int .i64 d, .int .i64 m] W fun e w' => e = .returned (.bool true) ∧ Below W.heap.size W w' := by
  have HB := hidW (both_no i d m W h)
  clear h
  go_enter Try.func3, Try.ntmps3
  go_wp2_with (fail)
  go_at_call 4
  refine HB.out.mono ?_
  rintro e w1 ⟨rfl, hb⟩
  have HX := hidW hb
  clear hb HB
  go_wp2
  go_ret
  exact ⟨rfl, HX.out⟩
set_option maxRecDepth 100000 in
set_option maxHeartbeats 8000000 in
theorem makes_yes (W : World) (i d m : Int) (h : Okn i ∧ Okn d ∧ Okn m) :
    Calls Try.prog 3 #[.int .i64 i, .int .i64 d, .int .i64 m] W fun e w' => e = .returned (.bool true) ∧ Below W.heap.size W w' := by
  have HB := hidW (both_yes i d m W h)
  have HQ : Hid (∀ (w : World) (a b : Option Addr) (ca cb : Nat) (L : List Slo), Rv w a L → Rv w b L → L.length ≤ 64 → Calls Try.prog 5 #[.slice a L.length ca, .slice b L.length cb] w fun e w' => e = .returned (.bool true) ∧ Below w.heap.size w w') := fun w a b ca cb L k1 k2 k3 => slots_yes w a b ca cb L k1 k2 k3
  clear h
  generalize zH i d m = Y at *
  go_enter Try.func3, Try.ntmps3
  go_wp2_with (fail)
  go_at_call 4
  refine HB.out.mono ?_
  rintro e w1 ⟨A, B, rfl, hX⟩
  have HX := hidW hX
  clear hX HB
  go_wp2
  go_loopw [10] (fun i wr => T2 W wr A B Y ∧ (i = .int .i64 0 ∨ i = .int .i64 1 ∨ i = .int .i64 2 ∨ i = .int .i64 3 ∨ i = .int .i64 4 ∨ i = .int .i64 5)) (fun i _ => (5 - intOf i).toNat)
  case atStart => exact ⟨HX.out, .inl rfl⟩
  case round =>
    clear HX
    obtain ⟨hX, hj⟩ := hrel
    have HX := hidW hX
    clear hX
    rcases hj with rfl | rfl | rfl | rfl | rfl | rfl
    · have H1 := hidW (fun w => pair_hp (W := W) (w := w) (A := A) (B := B) (X := Y) 0)
      have H2 := hidW (fun w => pair_vp (W := W) (w := w) (A := A) (B := B) (X := Y) 0)
      have HL := hidW (plH_le HX.out.pa 0)
      generalize plH Y 0 = L at *
      have HQL := hidW (fun w a b ca cb k1 k2 => HQ.out w a b ca cb L k1 k2 HL.out)
      clear HL
      generalize L.length = l at *
      go_wp2_with (fail)
      go_at_call 6
      refine (H1.out _ HX.out).mono ?_
      rintro e w4 ⟨a4, rfl, hv, hb⟩
      replace HX := hidW (HX.out.step hb)
      have HV := hidW hv
      clear hb hv H1
      go_wp2_with (fail)
      go_at_call 7
      refine (H2.out _ HX.out).mono ?_
      rintro e w5 ⟨a5, cap5, rfl, hv, hb⟩
      replace HX := hidW (HX.out.step hb)
      replace HV := hidW (HV.out.below hb)
      have HU := hidW hv
      clear hb hv H2
      go_wp2_with (fail)
      go_at_call 5
      refine (HQL.out _ _ _ _ _ HV.out HU.out).mono ?_
      rintro e w6 ⟨rfl, hb⟩
      replace HX := hidW (HX.out.step hb)
      clear hb HV HU HQL
      go_wp2
      go_roundw
      case rel => exact ⟨HX.out, by simp⟩
      case measure => simp [intOf]
    · have H1 := hidW (fun w => pair_hp (W := W) (w := w) (A := A) (B := B) (X := Y) 1)
      have H2 := hidW (fun w => pair_vp (W := W) (w := w) (A := A) (B := B) (X := Y) 1)
      have HL := hidW (plH_le HX.out.pa 1)
      generalize plH Y 1 = L at *
      have HQL := hidW (fun w a b ca cb k1 k2 => HQ.out w a b ca cb L k1 k2 HL.out)
      clear HL
      generalize L.length = l at *
      go_wp2_with (fail)
      go_at_call 6
      refine (H1.out _ HX.out).mono ?_
      rintro e w4 ⟨a4, rfl, hv, hb⟩
      replace HX := hidW (HX.out.step hb)
      have HV := hidW hv
      clear hb hv H1
      go_wp2_with (fail)
      go_at_call 7
      refine (H2.out _ HX.out).mono ?_
      rintro e w5 ⟨a5, cap5, rfl, hv, hb⟩
      replace HX := hidW (HX.out.step hb)
      replace HV := hidW (HV.out.below hb)
      have HU := hidW hv
      clear hb hv H2
      go_wp2_with (fail)
      go_at_call 5
      refine (HQL.out _ _ _ _ _ HV.out HU.out).mono ?_
      rintro e w6 ⟨rfl, hb⟩
      replace HX := hidW (HX.out.step hb)
      clear hb HV HU HQL
      go_wp2
      go_roundw
      case rel => exact ⟨HX.out, by simp⟩
      case measure => simp [intOf]
    · have H1 := hidW (fun w => pair_hp (W := W) (w := w) (A := A) (B := B) (X := Y) 2)
      have H2 := hidW (fun w => pair_vp (W := W) (w := w) (A := A) (B := B) (X := Y) 2)
      have HL := hidW (plH_le HX.out.pa 2)
      generalize plH Y 2 = L at *
      have HQL := hidW (fun w a b ca cb k1 k2 => HQ.out w a b ca cb L k1 k2 HL.out)
      clear HL
      generalize L.length = l at *
      go_wp2_with (fail)
      go_at_call 6
      refine (H1.out _ HX.out).mono ?_
      rintro e w4 ⟨a4, rfl, hv, hb⟩
      replace HX := hidW (HX.out.step hb)
      have HV := hidW hv
      clear hb hv H1
      go_wp2_with (fail)
      go_at_call 7
      refine (H2.out _ HX.out).mono ?_
      rintro e w5 ⟨a5, cap5, rfl, hv, hb⟩
      replace HX := hidW (HX.out.step hb)
      replace HV := hidW (HV.out.below hb)
      have HU := hidW hv
      clear hb hv H2
      go_wp2_with (fail)
      go_at_call 5
      refine (HQL.out _ _ _ _ _ HV.out HU.out).mono ?_
      rintro e w6 ⟨rfl, hb⟩
      replace HX := hidW (HX.out.step hb)
      clear hb HV HU HQL
      go_wp2
      go_roundw
      case rel => exact ⟨HX.out, by simp⟩
      case measure => simp [intOf]
    · have H1 := hidW (fun w => pair_hp (W := W) (w := w) (A := A) (B := B) (X := Y) 3)
      have H2 := hidW (fun w => pair_vp (W := W) (w := w) (A := A) (B := B) (X := Y) 3)
      have HL := hidW (plH_le HX.out.pa 3)
      generalize plH Y 3 = L at *
      have HQL := hidW (fun w a b ca cb k1 k2 => HQ.out w a b ca cb L k1 k2 HL.out)
      clear HL
      generalize L.length = l at *
      go_wp2_with (fail)
      go_at_call 6
      refine (H1.out _ HX.out).mono ?_
      rintro e w4 ⟨a4, rfl, hv, hb⟩
      replace HX := hidW (HX.out.step hb)
      have HV := hidW hv
      clear hb hv H1
      go_wp2_with (fail)
      go_at_call 7
      refine (H2.out _ HX.out).mono ?_
      rintro e w5 ⟨a5, cap5, rfl, hv, hb⟩
      replace HX := hidW (HX.out.step hb)
      replace HV := hidW (HV.out.below hb)
      have HU := hidW hv
      clear hb hv H2
      go_wp2_with (fail)
      go_at_call 5
      refine (HQL.out _ _ _ _ _ HV.out HU.out).mono ?_
      rintro e w6 ⟨rfl, hb⟩
      replace HX := hidW (HX.out.step hb)
      clear hb HV HU HQL
      go_wp2
      go_roundw
      case rel => exact ⟨HX.out, by simp⟩
      case measure => simp [intOf]
    · have H1 := hidW (fun w => pair_hp (W := W) (w := w) (A := A) (B := B) (X := Y) 4)
      have H2 := hidW (fun w => pair_vp (W := W) (w := w) (A := A) (B := B) (X := Y) 4)
      have HL := hidW (plH_le HX.out.pa 4)
      generalize plH Y 4 = L at *
      have HQL := hidW (fun w a b ca cb k1 k2 => HQ.out w a b ca cb L k1 k2 HL.out)
      clear HL
      generalize L.length = l at *
      go_wp2_with (fail)
      go_at_call 6
      refine (H1.out _ HX.out).mono ?_
      rintro e w4 ⟨a4, rfl, hv, hb⟩
      replace HX := hidW (HX.out.step hb)
      have HV := hidW hv
      clear hb hv H1
      go_wp2_with (fail)
      go_at_call 7
      refine (H2.out _ HX.out).mono ?_
      rintro e w5 ⟨a5, cap5, rfl, hv, hb⟩
      replace HX := hidW (HX.out.step hb)
      replace HV := hidW (HV.out.below hb)
      have HU := hidW hv
      clear hb hv H2
      go_wp2_with (fail)
      go_at_call 5
      refine (HQL.out _ _ _ _ _ HV.out HU.out).mono ?_
      rintro e w6 ⟨rfl, hb⟩
      replace HX := hidW (HX.out.step hb)
      clear hb HV HU HQL
      go_wp2
      go_roundw
      case rel => exact ⟨HX.out, by simp⟩
      case measure => simp [intOf]
    · go_wp2
      go_ret
      exact ⟨rfl, HX.out.bel⟩
theorem law_makes (W : World) (i d m : Int) :
    Calls Try.prog 3 #[.int .i64 i, .int .i64 d, .int .i64 m] W fun e w' => e = .returned (.bool true) ∧ Below W.heap.size W w' := by
  by_cases h : Okn i ∧ Okn d ∧ Okn m
  · exact makes_yes W i d m h
  · exact makes_no W i d m h
end Go.Proofs.Ytbbnodhpafiplaa
