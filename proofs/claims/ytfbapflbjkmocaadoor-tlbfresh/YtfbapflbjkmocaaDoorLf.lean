import Derived.Test.YtfbapflbjkmocaaDoorLg
namespace Go.Proofs.YtfbapflbjkmocaaDoor
open Go.RowKit
set_option linter.unusedVariables false
set_option linter.unusedSimpArgs false
/-- A marked place. -/
def sm (k : Int) : Slo := ⟨true, k, 1, 0, 20480, 1, 3, 14, true, false⟩
def frA (L : List Slo) (k : Nat) (s : Slo) : List Slo := List.replicate k s ++ L.drop k
theorem frA_set {L : List Slo} {k : Nat} (hk : k < L.length) (s : Slo) : (frA L k s).set k s = frA L (k + 1) s := by
  unfold frA
  rw [List.set_append_right _ _ (by simp), List.drop_eq_getElem_cons hk, List.length_replicate, Nat.sub_self, List.set_cons_zero, List.replicate_succ', List.append_assoc]
  rfl
theorem frA_len {L : List Slo} {k : Nat} (hk : k ≤ L.length) (s : Slo) : (frA L k s).length = L.length := by
  simp [frA]; omega
theorem frA_end (L : List Slo) (s : Slo) : frA L L.length s = List.replicate L.length s := by simp [frA]
/-- The lists: a, b, was, x, y. -/
structure FY (W wr : World) (p g a b c x y : Nat) (L A B : List Slo) (rc rx ry : List Value) : Prop where
  lv : LV W wr p g L
  ra : Bl wr a 49 (rowS A)
  rb : Bl wr b 49 (rowS B)
  rw : Bl wr c 49 (rowS L ++ rc)
  rx : Bl wr x 49 (rowS (L ++ [sm 1]) ++ rx)
  ry : Bl wr y 49 (rowS (L ++ [sm 2]) ++ ry)
  ga : g < a
  ab : a < b
  bc : b < c
  cx : c < x
  xy : x < y
  tw : TR W
section
variable {W wr w' : World} {p g a b c x y : Nat} {L A B : List Slo} {rc rx ry : List Value}
theorem FY.step (h : FY W wr p g a b c x y L A B rc rx ry) (hb : Below wr.heap.size wr w') : FY W w' p g a b c x y L A B rc rx ry :=
  ⟨h.lv.step hb, h.ra.below hb, h.rb.below hb, h.rw.below hb, h.rx.below hb, h.ry.below hb, h.ga, h.ab, h.bc, h.cx, h.xy, h.tw⟩
theorem FY.putA (h : FY W wr p g a b c x y L A B rc rx ry) (k : Nat) (hk : k < A.length) (z : Int) : FY W ((((((((((wr.setCell ⟨a, k * 10, none⟩ (.bool true)).setCell ⟨a, k * 10 + 1, none⟩ (.int .i64 z)).setCell ⟨a, k * 10 + 2, none⟩ (.int .i64 1)).setCell ⟨a, k * 10 + 3, none⟩ (.int .u32 0)).setCell ⟨a, k * 10 + 4, none⟩ (.int .u64 20480)).setCell ⟨a, k * 10 + 5, none⟩ (.int .i64 1)).setCell ⟨a, k * 10 + 6, none⟩ (.int .i64 3)).setCell ⟨a, k * 10 + 7, none⟩ (.int .u32 14)).setCell ⟨a, k * 10 + 8, none⟩ (.bool true)).setCell ⟨a, k * 10 + 9, none⟩ (.bool false)) p g a b c x y L (A.set k (sm z)) B rc rx ry := by
  have hga := h.ga
  have hab := h.ab
  have hbc := h.bc
  have hcx := h.cx
  have hxy := h.xy
  have hn := h.lv.new
  have hT : Turn (fun x => x = a) wr ((((((((((wr.setCell ⟨a, k * 10, none⟩ (.bool true)).setCell ⟨a, k * 10 + 1, none⟩ (.int .i64 z)).setCell ⟨a, k * 10 + 2, none⟩ (.int .i64 1)).setCell ⟨a, k * 10 + 3, none⟩ (.int .u32 0)).setCell ⟨a, k * 10 + 4, none⟩ (.int .u64 20480)).setCell ⟨a, k * 10 + 5, none⟩ (.int .i64 1)).setCell ⟨a, k * 10 + 6, none⟩ (.int .i64 3)).setCell ⟨a, k * 10 + 7, none⟩ (.int .u32 14)).setCell ⟨a, k * 10 + 8, none⟩ (.bool true)).setCell ⟨a, k * 10 + 9, none⟩ (.bool false)) := turn_put (S := fun x => x = a) h.ra.lt rfl k (sm z)
  have hbel : Below W.heap.size W ((((((((((wr.setCell ⟨a, k * 10, none⟩ (.bool true)).setCell ⟨a, k * 10 + 1, none⟩ (.int .i64 z)).setCell ⟨a, k * 10 + 2, none⟩ (.int .i64 1)).setCell ⟨a, k * 10 + 3, none⟩ (.int .u32 0)).setCell ⟨a, k * 10 + 4, none⟩ (.int .u64 20480)).setCell ⟨a, k * 10 + 5, none⟩ (.int .i64 1)).setCell ⟨a, k * 10 + 6, none⟩ (.int .i64 3)).setCell ⟨a, k * 10 + 7, none⟩ (.int .u32 14)).setCell ⟨a, k * 10 + 8, none⟩ (.bool true)).setCell ⟨a, k * 10 + 9, none⟩ (.bool false)) := ((Turn.below (S := fun x => x = a) h.lv.bel).trans hT (fun x hx => .inl hx)).to (fun x hx => by rw [hx]; omega) (Nat.le_refl _)
  have hp : p ≠ a := h.lv.pt.box.ne h.ra (by decide)
  exact ⟨⟨hbel, h.lv.pt.turn hT hp (fun e => by have e : g = a := e; omega), h.tw.below hbel, h.lv.new⟩, rowS_put h.ra k (sm z) hk, h.rb.turn hT (fun e => by have e : b = a := e; omega), h.rw.turn hT (fun e => by have e : c = a := e; omega), h.rx.turn hT (fun e => by have e : x = a := e; omega), h.ry.turn hT (fun e => by have e : y = a := e; omega), h.ga, h.ab, h.bc, h.cx, h.xy, h.tw⟩
theorem FY.putB (h : FY W wr p g a b c x y L A B rc rx ry) (k : Nat) (hk : k < B.length) (z : Int) : FY W ((((((((((wr.setCell ⟨b, k * 10, none⟩ (.bool true)).setCell ⟨b, k * 10 + 1, none⟩ (.int .i64 z)).setCell ⟨b, k * 10 + 2, none⟩ (.int .i64 1)).setCell ⟨b, k * 10 + 3, none⟩ (.int .u32 0)).setCell ⟨b, k * 10 + 4, none⟩ (.int .u64 20480)).setCell ⟨b, k * 10 + 5, none⟩ (.int .i64 1)).setCell ⟨b, k * 10 + 6, none⟩ (.int .i64 3)).setCell ⟨b, k * 10 + 7, none⟩ (.int .u32 14)).setCell ⟨b, k * 10 + 8, none⟩ (.bool true)).setCell ⟨b, k * 10 + 9, none⟩ (.bool false)) p g a b c x y L A (B.set k (sm z)) rc rx ry := by
  have hga := h.ga
  have hab := h.ab
  have hbc := h.bc
  have hcx := h.cx
  have hxy := h.xy
  have hn := h.lv.new
  have hT : Turn (fun x => x = b) wr ((((((((((wr.setCell ⟨b, k * 10, none⟩ (.bool true)).setCell ⟨b, k * 10 + 1, none⟩ (.int .i64 z)).setCell ⟨b, k * 10 + 2, none⟩ (.int .i64 1)).setCell ⟨b, k * 10 + 3, none⟩ (.int .u32 0)).setCell ⟨b, k * 10 + 4, none⟩ (.int .u64 20480)).setCell ⟨b, k * 10 + 5, none⟩ (.int .i64 1)).setCell ⟨b, k * 10 + 6, none⟩ (.int .i64 3)).setCell ⟨b, k * 10 + 7, none⟩ (.int .u32 14)).setCell ⟨b, k * 10 + 8, none⟩ (.bool true)).setCell ⟨b, k * 10 + 9, none⟩ (.bool false)) := turn_put (S := fun x => x = b) h.rb.lt rfl k (sm z)
  have hbel : Below W.heap.size W ((((((((((wr.setCell ⟨b, k * 10, none⟩ (.bool true)).setCell ⟨b, k * 10 + 1, none⟩ (.int .i64 z)).setCell ⟨b, k * 10 + 2, none⟩ (.int .i64 1)).setCell ⟨b, k * 10 + 3, none⟩ (.int .u32 0)).setCell ⟨b, k * 10 + 4, none⟩ (.int .u64 20480)).setCell ⟨b, k * 10 + 5, none⟩ (.int .i64 1)).setCell ⟨b, k * 10 + 6, none⟩ (.int .i64 3)).setCell ⟨b, k * 10 + 7, none⟩ (.int .u32 14)).setCell ⟨b, k * 10 + 8, none⟩ (.bool true)).setCell ⟨b, k * 10 + 9, none⟩ (.bool false)) := ((Turn.below (S := fun x => x = b) h.lv.bel).trans hT (fun x hx => .inl hx)).to (fun x hx => by rw [hx]; omega) (Nat.le_refl _)
  have hp : p ≠ b := h.lv.pt.box.ne h.rb (by decide)
  exact ⟨⟨hbel, h.lv.pt.turn hT hp (fun e => by have e : g = b := e; omega), h.tw.below hbel, h.lv.new⟩, h.ra.turn hT (fun e => by have e : a = b := e; omega), rowS_put h.rb k (sm z) hk, h.rw.turn hT (fun e => by have e : c = b := e; omega), h.rx.turn hT (fun e => by have e : x = b := e; omega), h.ry.turn hT (fun e => by have e : y = b := e; omega), h.ga, h.ab, h.bc, h.cx, h.xy, h.tw⟩
end
theorem mark_at {w : World} {g : Nat} {t : TypeId} {L : List Slo} {n : Nat} {z : Int} {rest : List Value} (h : Bl w g t (rowS (L ++ [sm z]) ++ rest)) (hl : L.length = n) : w.cell? ⟨g, n * 10 + 1, none⟩ = some (.int .i64 z) := by
  have h1 : (L ++ [sm z])[n]? = some (sm z) := by rw [List.getElem?_append_right (by omega), hl, Nat.sub_self]; rfl
  exact (h.rs.cells h1).2.1
set_option maxRecDepth 100000 in
set_option maxHeartbeats 16000000 in
theorem law_fresh (W : World) (x : Int) (sa : Option Addr) (cap : Nat) (ops : List Opr) (hS : Scr W sa ops) (hT : TR W) (hl : ops.length ≤ maxLen) :
    Calls Tryd.prog 6 #[.int .i64 x, .slice sa ops.length cap] W fun e w' => e = .returned (.bool true) ∧ Below W.heap.size W w' := by
  unfold maxLen at hl
  have HT : Hid (TR W) := hT
  have HS0 : Hid (Scr W sa ops) := hS
  have HP := hidW (pressed_any x W)
  have hpn := prN_le x
  have hsm := small_any
  generalize hn : ops.length = m at *
  have HM : Hid (ops.length = m) := hn
  clear hT hS hn
  generalize prN x = n at *
  go_enter Tryd.func6, Tryd.ntmps6
  go_wp2_with (fail)
  go_at_call 13
  refine HP.out.mono ?_
  rintro e w1 ⟨rfl, hp, hb⟩
  have HX : Hid (LV W w1 (W.heap.size + 1) W.heap.size (List.replicate n sZ)) := hidW ⟨hb, hp, HT.out.below hb, Nat.le_refl _⟩
  clear hp hb HP
  generalize hPp : W.heap.size + 1 = p at HX ⊢
  generalize hG : W.heap.size = g at HX ⊢
  clear hPp hG
  go_wp2_with (fail)
  go_at_call 9
  refine (live_any _ HX.out.tr).mono ?_
  rintro e w2 ⟨rfl, hb⟩
  replace HX := hidW (HX.out.step hb)
  clear hb
  go_wp2
  go_loopw [7] (fun i wr => ∃ (k : Nat) (L : List Slo), k ≤ m ∧ i = .int .i64 k ∧ L.length = n ∧ LV W wr p g L) (fun i _ => m - (intOf i).toNat)
  case atStart => exact ⟨0, _, by omega, rfl, zeros_len n, HX.out⟩
  case round =>
    clear HX
    obtain ⟨k, L, hk, rfl, hln, hX⟩ := hrel
    have HX := hidW hX
    have HN := hidW hln
    clear hX hln
    by_cases hlt : k < m
    · obtain ⟨o, b, off, hok, rfl, hoo, e0, e1, e2, e3, e4, e5, e6, e7, e8, e9, e10, e11, e12, e13, e14⟩ := HS0.out.at HX.out.bel (k := k) (by rw [HM.out]; exact hlt)
      have HD : Hid (∀ w, PT 77 w p g L → TR w → Calls Tryd.prog 14 #[.pointer (some ⟨p, 0, none⟩), .agg #[.int .i64 o.kind, .int .u32 o.va, .int .i64 o.n, .int .i64 o.b.asid, .int .i64 o.b.t.size, .int .u32 o.b.t.va, .int .u64 o.b.t.pa, .int .i64 o.b.t.dom, .int .i64 o.b.t.ap, .int .u32 o.b.t.bits, .bool o.b.t.ng, .bool o.b.t.xn, .int .i64 o.d.kind, .int .u32 o.d.va, .int .i64 o.d.asid]] w fun e w' => e = .returned (.tuple #[.int .i64 (dsI L o : Nat), .bool (dsB L o)]) ∧ PT 77 w' p g (opF L o) ∧ Turn (· = g) w w') := fun w h1 h2 => does_any w p g L o h1 h2 hoo
      clear hok hoo
      obtain ⟨ok, ova, on, ob, od⟩ := o
      dsimp only at *
      go_wp2_with (fail)
      go_at_call 14
      refine (HD.out _ HX.out.pt HX.out.tr).mono ?_
      rintro e w3 ⟨rfl, hp, hT⟩
      replace HX := hidW (HX.out.turn hp hT)
      have HN2 := hidW ((opF_len L ⟨ok, ova, on, ob, od⟩).trans HN.out)
      clear hp hT HD
      go_wp2
      go_roundw
      case rel => exact ⟨k + 1, _, by omega, by go_num, HN2.out, HX.out⟩
      case measure => simp [intOf]; omega
    · obtain rfl : k = m := by omega
      clear HS0 HM hlt
      go_wp2_with (fail)
      go_at_call 15
      refine (places_any _ _ _ _ HX.out.pt).mono ?_
      rintro e w3 ⟨rfl, hrow, hb⟩
      rw [HN.out]
      have hga : g < wr.heap.size := HX.out.pt.row.lt
      replace HX := hidW (HX.out.step hb)
      have HA := hidW hrow
      clear hb hrow
      generalize wr.heap.size = a at *
      go_wp2_with (fail)
      go_at_call 15
      refine (places_any _ _ _ _ HX.out.pt).mono ?_
      rintro e w4 ⟨rfl, hrow, hb⟩
      rw [HN.out]
      have hab : a < w3.heap.size := HA.out.lt
      replace HX := hidW (HX.out.step hb)
      replace HA := hidW (HA.out.below hb)
      have HB := hidW hrow
      clear hb hrow
      generalize w3.heap.size = b at *
      go_wp2_with (fail)
      go_at_call 18
      refine (same_yes _ _ _ _ _ _ _ HA.out.rs0 HB.out.rs0 (by omega) HN.out).mono ?_
      rintro e w5 ⟨rfl, hb⟩
      replace HX := hidW (HX.out.step hb)
      replace HA := hidW (HA.out.below hb)
      replace HB := hidW (HB.out.below hb)
      clear hb
      have hb0 := below_new w5 (.cells #[] 49)
      have hbc : b < (w5.alloc (.cells #[] 49)).heap.size := (HB.out.below hb0).lt
      obtain ⟨w6, capc, rc, hr, hrow, hcap, hb1⟩ := app_new (w5.alloc (.cells #[] 49)) w5.heap.size a [] L 0 n (Bl.new _ _ []) (HA.out.below hb0) rfl HN.out (by omega) (by omega) (by omega)
      have hb2 := Below.step hb0 hb1
      replace HX := hidW (HX.out.step hb2)
      replace HA := hidW (HA.out.below hb2)
      replace HB := hidW (HB.out.below hb2)
      have HC : Hid (Bl w6 _ 49 (rowS L ++ rc)) := hidW hrow
      rw [Nat.zero_add] at hr
      have HR := hidW hr
      clear hb0 hb1 hb2 hrow hr
      generalize hcc : (w5.alloc (.cells #[] 49)).heap.size = c at HC HR hbc
      clear hcc
      go_wp2_with (first | (at_builtin; refine wpList_append_eq rfl (.tmp 52) (.tmp 53) 46 rfl _ _ rfl rfl (HR.out _) ?_; clear HR))
      go_at_call 19
      refine (hsm _ _ _).mono ?_
      rintro e w7 ⟨rfl, hb⟩
      replace HX := hidW (HX.out.step hb)
      replace HA := hidW (HA.out.below hb)
      replace HB := hidW (HB.out.below hb)
      replace HC := hidW (HC.out.below hb)
      clear hb
      have hb0 := below_new w7 (.cells ([.bool true, .int .i64 1, .int .i64 1, .int .u32 0, .int .u64 20480, .int .i64 1, .int .i64 3, .int .u32 14, .bool true, .bool false]).toArray 49)
      have hcx : c < (w7.alloc (.cells ([.bool true, .int .i64 1, .int .i64 1, .int .u32 0, .int .u64 20480, .int .i64 1, .int .i64 3, .int .u32 14, .bool true, .bool false]).toArray 49)).heap.size := (HC.out.below hb0).lt
      obtain ⟨w8, capx, rx, hr, hrow, hcap2, hb1⟩ := app_new (w7.alloc (.cells ([.bool true, .int .i64 1, .int .i64 1, .int .u32 0, .int .u64 20480, .int .i64 1, .int .i64 3, .int .u32 14, .bool true, .bool false]).toArray 49)) a w7.heap.size L [sm 1] n 1 (HA.out.below hb0) (Bl.new _ _ _) HN.out rfl (by omega) (by omega) (by omega)
      have hb2 := Below.step hb0 hb1
      replace HX := hidW (HX.out.step hb2)
      replace HA := hidW (HA.out.below hb2)
      replace HB := hidW (HB.out.below hb2)
      replace HC := hidW (HC.out.below hb2)
      have HD := hidW hrow
      have HR := hidW hr
      clear hb0 hb1 hb2 hrow hr
      generalize hcc : (w7.alloc (.cells ([.bool true, .int .i64 1, .int .i64 1, .int .u32 0, .int .u64 20480, .int .i64 1, .int .i64 3, .int .u32 14, .bool true, .bool false]).toArray 49)).heap.size = x at HD HR hcx
      clear hcc
      go_wp2_with (first | (at_builtin; refine wpList_append_eq rfl (.tmp 55) (.tmp 58) 46 rfl _ _ rfl rfl (HR.out _) ?_; clear HR))
      go_at_call 19
      refine (hsm _ _ _).mono ?_
      rintro e w9 ⟨rfl, hb⟩
      replace HX := hidW (HX.out.step hb)
      replace HA := hidW (HA.out.below hb)
      replace HB := hidW (HB.out.below hb)
      replace HC := hidW (HC.out.below hb)
      replace HD := hidW (HD.out.below hb)
      clear hb
      have hb0 := below_new w9 (.cells ([.bool true, .int .i64 2, .int .i64 1, .int .u32 0, .int .u64 20480, .int .i64 1, .int .i64 3, .int .u32 14, .bool true, .bool false]).toArray 49)
      have hxy : x < (w9.alloc (.cells ([.bool true, .int .i64 2, .int .i64 1, .int .u32 0, .int .u64 20480, .int .i64 1, .int .i64 3, .int .u32 14, .bool true, .bool false]).toArray 49)).heap.size := (HD.out.below hb0).lt
      obtain ⟨w10, capy, ry, hr, hrow, hcap3, hb1⟩ := app_new (w9.alloc (.cells ([.bool true, .int .i64 2, .int .i64 1, .int .u32 0, .int .u64 20480, .int .i64 1, .int .i64 3, .int .u32 14, .bool true, .bool false]).toArray 49)) b w9.heap.size L [sm 2] n 1 (HB.out.below hb0) (Bl.new _ _ _) HN.out rfl (by omega) (by omega) (by omega)
      have hb2 := Below.step hb0 hb1
      have HY : Hid (FY W w10 p g a b c x (w9.alloc (.cells ([.bool true, .int .i64 2, .int .i64 1, .int .u32 0, .int .u64 20480, .int .i64 1, .int .i64 3, .int .u32 14, .bool true, .bool false]).toArray 49)).heap.size L (frA L 0 (sm 3)) (frA L 0 (sm 4)) rc rx ry) := hidW ⟨HX.out.step hb2, HA.out.below hb2, HB.out.below hb2, HC.out.below hb2, HD.out.below hb2, hrow, hga, hab, hbc, hcx, hxy, HT.out⟩
      have HR := hidW hr
      clear hb0 hb1 hb2 hrow hr HX HA HB HC HD HT hga hab hbc hcx
      generalize hcc : (w9.alloc (.cells ([.bool true, .int .i64 2, .int .i64 1, .int .u32 0, .int .u64 20480, .int .i64 1, .int .i64 3, .int .u32 14, .bool true, .bool false]).toArray 49)).heap.size = y at HY HR
      clear hcc hxy
      go_wp2_with (first | (at_builtin; refine wpList_append_eq rfl (.tmp 60) (.tmp 63) 46 rfl _ _ rfl rfl (HR.out _) ?_; clear HR))
      generalize wr = wz at *
      go_loopw [13] (fun i wr => ∃ j : Nat, j ≤ n ∧ i = .int .i64 j ∧ FY W wr p g a b c x y L (frA L j (sm 3)) (frA L j (sm 4)) rc rx ry) (fun i _ => n - (intOf i).toNat)
      case atStart => exact ⟨0, by omega, rfl, HY.out⟩
      case round =>
        clear HY
        obtain ⟨j, hj, rfl, hX⟩ := hrel
        have HY := hidW hX
        clear hX
        by_cases hlj : j < n
        · have hlL : j < L.length := by rw [HN.out]; exact hlj
          have HLa : Hid ((frA L j (sm 3)).length = n) := hidW (by rw [frA_len (by omega)]; exact HN.out)
          have HLb : Hid ((frA L j (sm 4)).length = n) := hidW (by rw [frA_len (by omega)]; exact HN.out)
          have HSa := hidW (frA_set hlL (sm 3))
          have HSb := hidW (frA_set hlL (sm 4))
          obtain ⟨ya, hya⟩ : ∃ s, (frA L j (sm 3))[j]? = some s := ⟨_, List.getElem?_eq_getElem (by rw [HLa.out]; exact hlj)⟩
          obtain ⟨yb, hyb⟩ : ∃ s, (frA L j (sm 4))[j]? = some s := ⟨_, List.getElem?_eq_getElem (by rw [HLb.out]; exact hlj)⟩
          have HYA := hidW hya
          have HYB := hidW hyb
          clear hlL hya hyb
          generalize frA L j (sm 3) = A at *
          generalize frA L j (sm 4) = B at *
          go_wp2_with (fail)
          go_at_call 19
          refine (hsm _ _ _).mono ?_
          rintro e w11 ⟨rfl, hb⟩
          replace HY := hidW (HY.out.step hb)
          clear hb
          obtain ⟨x0, x1, x2, x3, x4, x5, x6, x7, x8, x9⟩ := rowS_cells HY.out.ra HYA.out
          have f0 := HY.out.ra.frozen
          have l0 := HY.out.ra.lt
          replace HY := hidW (HY.out.putA j (by rw [HLa.out]; exact hlj) 3)
          go_wp2_with (fail)
          go_at_call 19
          generalize World.setCell _ _ _ = w12 at *
          refine (hsm _ _ _).mono ?_
          rintro e w13 ⟨rfl, hb⟩
          replace HY := hidW (HY.out.step hb)
          clear hb x0 x1 x2 x3 x4 x5 x6 x7 x8 x9 f0 l0
          obtain ⟨x0, x1, x2, x3, x4, x5, x6, x7, x8, x9⟩ := rowS_cells HY.out.rb HYB.out
          have f0 := HY.out.rb.frozen
          have l0 := HY.out.rb.lt
          replace HY := hidW (HY.out.putB j (by rw [HLb.out]; exact hlj) 4)
          go_wp2
          go_roundw
          case rel => exact ⟨j + 1, by omega, by go_num, by rw [← HSa.out, ← HSb.out]; exact HY.out⟩
          case measure => simp [intOf]; omega
        · obtain rfl : j = n := by omega
          have HFa : Hid (frA L j (sm 3) = List.replicate j (sm 3)) := hidW (by have := frA_end L (sm 3); rw [HN.out] at this; exact this)
          have HFb : Hid (frA L j (sm 4) = List.replicate j (sm 4)) := hidW (by have := frA_end L (sm 4); rw [HN.out] at this; exact this)
          rw [HFa.out, HFb.out] at HY
          clear HFa HFb hlj
          go_wp2
          generalize wr = wy at *
          go_loopw [14] (fun i wr => ∃ i0 : Nat, i0 ≤ j ∧ i = .int .i64 i0 ∧ wr = wy) (fun i _ => j - (intOf i).toNat)
          case atStart => exact ⟨0, by omega, rfl, rfl⟩
          case round =>
            obtain ⟨i, hi, rfl, hww⟩ := hrel
            subst hww
            by_cases hli : i < j
            · have h3 : (List.replicate j (sm 3))[i]? = some (sm 3) := by rw [List.getElem?_replicate, if_pos hli]
              have h4 : (List.replicate j (sm 4))[i]? = some (sm 4) := by rw [List.getElem?_replicate, if_pos hli]
              have c3 : wr.cell? ⟨a, i * 10 + 1, none⟩ = some (.int .i64 3) := (rowS_cells HY.out.ra h3).2.1
              have c4 : wr.cell? ⟨b, i * 10 + 1, none⟩ = some (.int .i64 4) := (rowS_cells HY.out.rb h4).2.1
              clear h3 h4
              go_wp2
              go_roundw
              case rel => exact ⟨i + 1, by omega, by go_num, (by first | rfl | trivial)⟩
              case measure => simp [intOf]; omega
            · obtain rfl : i = j := by omega
              have c3 := mark_at HY.out.rx HN.out
              have c4 := mark_at HY.out.ry HN.out
              go_wp2_with (fail)
              go_at_call 15
              refine (places_any _ _ _ _ HY.out.lv.pt).mono ?_
              rintro e w14 ⟨rfl, hrow, hb⟩
              rw [HN.out]
              replace HY := hidW (HY.out.step hb)
              have HRw := hidW hrow.rs0
              clear hb hrow c3 c4
              generalize wr.heap.size = P at *
              go_wp2_with (fail)
              go_at_call 18
              refine (same_yes _ _ _ _ _ _ _ HRw.out HY.out.rw.rs (by omega) HN.out).mono ?_
              rintro e w15 ⟨rfl, hb⟩
              replace HY := hidW (HY.out.step hb)
              clear hb HRw
              go_wp2
              go_ret
              exact ⟨rfl, HY.out.lv.bel⟩
end Go.Proofs.YtfbapflbjkmocaaDoor
