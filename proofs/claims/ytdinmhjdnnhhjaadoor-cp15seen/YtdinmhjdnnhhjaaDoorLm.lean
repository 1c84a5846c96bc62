import Derived.Test.YtdinmhjdnnhhjaaDoorLd
import Derived.Test.YtdinmhjdnnhhjaaDoorLf
import Derived.Test.YtdinmhjdnnhhjaaDoorPr
namespace Go.Proofs.YtdinmhjdnnhhjaaDoor
open Go.RowKit
set_option linter.unusedVariables false
set_option linter.unusedSimpArgs false
/-- Two files of one's own. -/
structure Tw (w wr : World) (p q : Nat) (F G : List Nat) : Prop where
  bel : Below w.heap.size w wr
  f : Fi 63 wr p F
  g : Fi 63 wr q G
  tr : TR wr
  np : w.heap.size ≤ p
  nq : w.heap.size ≤ q
  ne : p ≠ q
section
variable {w wr wr' : World} {p q : Nat} {F G H : List Nat}
theorem Tw.step (h : Tw w wr p q F G) (hb : Below wr.heap.size wr wr') : Tw w wr' p q F G := ⟨Below.step h.bel hb, h.f.below hb, h.g.below hb, h.tr.below hb, h.np, h.nq, h.ne⟩
theorem Tw.turnF (h : Tw w wr p q F G) (hf : Fi 63 wr' p H) (hb : Turn (· = p) wr wr') : Tw w wr' p q H G := by
  refine ⟨?_, hf, h.g.turn hb (fun e => h.ne e.symm), h.tr.turn hb (fun e => (h.tr.ne h.f) e.symm), h.np, h.nq, h.ne⟩
  have := h.np
  exact ((Turn.below (S := (· = p)) h.bel).trans hb (fun x hx => .inl hx)).to (fun x hx => by rw [hx]; exact this) (Nat.le_refl _)
theorem Tw.turnG (h : Tw w wr p q F G) (hf : Fi 63 wr' q H) (hb : Turn (· = q) wr wr') : Tw w wr' p q F H := by
  refine ⟨?_, h.f.turn hb h.ne, hf, h.tr.turn hb (fun e => (h.tr.ne h.g) e.symm), h.np, h.nq, h.ne⟩
  have := h.nq
  exact ((Turn.below (S := (· = q)) h.bel).trans hb (fun x hx => .inl hx)).to (fun x hx => by rw [hx]; exact this) (Nat.le_refl _)
end
theorem Tw.start {w w1 w2 : World} (hT : TR w) (h1 : Fi 63 w1 w.heap.size fZ) (b1 : Below w.heap.size w w1) (h2 : Fi 63 w2 w1.heap.size fZ) (b2 : Below w1.heap.size w1 w2) : Tw w w2 w.heap.size w1.heap.size fZ fZ :=
  ⟨Below.step b1 b2, h1.below b2, h2, (hT.below b1).below b2, Nat.le_refl _, b1.size, by have := h1.lt; omega⟩
theorem fZ_len : fZ.length = 13 := rfl
set_option maxRecDepth 100000 in
set_option maxHeartbeats 8000000 in
theorem mask_no (W : World) (r : Int) (x : Nat) (hT : TR W) (hr : isR r = false) (hx : x < 4294967296) :
    Calls Tryd.prog 4 #[.int .i64 r, .int .u32 (x : Int)] W fun e W' => e = .returned (.bool true) ∧ Below W.heap.size W W' := by
  have hno := no_any
  have HE : Hid (∀ w, (Op.equalIn 10000 31 (.agg (encF fZ).toArray) (.agg (encF fZ).toArray)).run Tryd.prog w = .ok true w) := fun w => eqH fZ fZ_len w
  have HT : Hid (TR W) := hT
  have HG : Hid (∀ (b : Nat) (w : World), Fi 63 w b fZ → Calls Tryd.prog 15 #[.pointer (some ⟨b, 0, none⟩), .int .i64 r] w fun e w' => e = .returned (.tuple #[.int .u32 0, .int .i64 1]) ∧ w = w') := fun b w h => by
    have := get_any b fZ r w h
    rwa [gt_no fZ r hr] at this
  have HP : Hid (∀ (b : Nat) (w : World), Fi 63 w b fZ → TR w → Calls Tryd.prog 14 #[.pointer (some ⟨b, 0, none⟩), .int .i64 r, .int .u32 (x : Int)] w fun e w' => e = .returned (.int .i64 1) ∧ Fi 63 w' b fZ ∧ Turn (· = b) w w') := fun b w h1 h2 => by
    have := put_any b fZ r x w h1 h2 hx
    rwa [(pt_no fZ r x hr).1, (pt_no fZ r x hr).2] at this
  have h2 : decide (r < 0) = true ∨ (decide (r < 0) = false ∧ decide (12 < r) = true) := by
    have : ¬ (0 ≤ r ∧ r < 13) := fun h => by rw [(isR_iff r).2 h] at hr; cases hr
    by_cases h : r < 0
    · exact .inl (by simp [h])
    · exact .inr ⟨by simp [h], by simp; omega⟩
  clear hT hr
  rcases h2 with h2 | ⟨h2, h3⟩
  all_goals
    go_enter Tryd.func4, Tryd.ntmps4
    go_wp2_with (fail)
    go_at_call 8
    refine (new_any W HT.out).mono ?_
    rintro e w1 ⟨rfl, hf1, hb1⟩
    have H1 : Hid (Fi 63 w1 W.heap.size fZ ∧ Below W.heap.size W w1 ∧ TR w1) := ⟨hf1, hb1, HT.out.below hb1⟩
    clear hf1 hb1
    go_wp2_with (fail)
    go_at_call 8
    refine (new_any w1 H1.out.2.2).mono ?_
    rintro e w2 ⟨rfl, hf1, hb1⟩
    have HS : Hid _ := Tw.start HT.out H1.out.1 H1.out.2.1 hf1 hb1
    clear hf1 hb1 H1 HT
    go_wp2_with (fail)
    go_at_call 9
    refine (live_any w2 HS.out.tr).mono ?_
    rintro e w3 ⟨rfl, hb⟩
    have HS : Hid _ := HS.out.step hb
    clear hb
    go_wp2_with (go_at_call 13; refine (hno _ _).mono ?_; rintro e w' ⟨rfl, rfl⟩)
    go_at_call 15
    refine (HG.out _ _ HS.out.f).mono ?_
    rintro e w' ⟨rfl, rfl⟩
    go_wp2_with (go_at_call 13; refine (hno _ _).mono ?_; rintro e w' ⟨rfl, rfl⟩)
    go_at_call 14
    refine (HP.out _ _ HS.out.f HS.out.tr).mono ?_
    rintro e w4 ⟨rfl, hf, hb⟩
    have HS : Hid _ := HS.out.turnF hf hb
    clear hf hb
    go_wp2_with (go_at_call 13; refine (hno _ _).mono ?_; rintro e w' ⟨rfl, rfl⟩)
    go_at_call 10
    refine (held_any _ _ _ HS.out.f).mono ?_
    rintro e w5 ⟨rfl, hb⟩
    have HS : Hid _ := HS.out.step hb
    clear hb
    go_wp2_with (fail)
    go_at_call 10
    refine (held_any _ _ _ HS.out.g).mono ?_
    rintro e w6 ⟨rfl, hb⟩
    have HS : Hid _ := HS.out.step hb
    clear hb
    have he := HE.out
    generalize encF fZ = L at *
    go_wp2
    go_ret
    exact ⟨rfl, HS.out.bel⟩
theorem ctx_seen (r : Nat) (h : r < 13) : (rg r).ctx = (decide (r ≤ 4) || decide (10 ≤ r)) := by
  rcases upto13 r h with rfl | rfl | rfl | rfl | rfl | rfl | rfl | rfl | rfl | rfl | rfl | rfl | rfl <;> rfl
set_option maxRecDepth 100000 in
set_option maxHeartbeats 8000000 in
theorem mask_yes (W : World) (r x : Nat) (hT : TR W) (hr : r < 13) (hx : x < 4294967296) :
    Calls Tryd.prog 4 #[.int .i64 (r : Int), .int .u32 (x : Int)] W fun e W' => e = .returned (.bool true) ∧ Below W.heap.size W W' := by
  have hno := no_any
  have HT : Hid (TR W) := hT
  have hd0 : decide ((r : Int) < 0) = false := by simp
  have hd1 : decide (12 < (r : Int)) = false := by simp; omega
  have hlen : ∀ v, (fZ.set r v).length = 13 := fun v => by rw [List.length_set]; rfl
  have hset : ∀ a c, (fZ.set r a).set r c = fZ.set r c := fun a c => List.set_set _
  have hget : ∀ v, (fZ.set r v).getD r 0 = v := fun v => by simp [List.getD, fZ_len, hr]
  have HPA : Hid (∀ (b : Nat) (w : World), Fi 63 w b fZ → TR w → Calls Tryd.prog 14 #[.pointer (some ⟨b, 0, none⟩), .int .i64 (r : Int), .int .u32 4294967295] w fun e w' => e = .returned (.int .i64 0) ∧ Fi 63 w' b (fZ.set r (rg r).kept) ∧ Turn (· = b) w w') := fun b w h1 h2 => by
    have := put_any b fZ r 4294967295 w h1 h2 (by decide)
    rw [(pt_yes fZ r 0 hr).1, (pt_yes fZ r _ hr).2, keepW_all] at this
    exact this
  have HPX : Hid (∀ (b : Nat) (w : World), Fi 63 w b (fZ.set r (rg r).kept) → TR w → Calls Tryd.prog 14 #[.pointer (some ⟨b, 0, none⟩), .int .i64 (r : Int), .int .u32 (x : Int)] w fun e w' => e = .returned (.int .i64 0) ∧ Fi 63 w' b (fZ.set r (keepW r x)) ∧ Turn (· = b) w w') := fun b w h1 h2 => by
    have := put_any b _ r x w h1 h2 hx
    rw [(pt_yes fZ r 0 hr).1, (pt_yes _ r _ hr).2, hset] at this
    exact this
  have HPZ : Hid (∀ (b : Nat) (w : World), Fi 63 w b fZ → TR w → Calls Tryd.prog 14 #[.pointer (some ⟨b, 0, none⟩), .int .i64 (r : Int), .int .u32 0] w fun e w' => e = .returned (.int .i64 0) ∧ Fi 63 w' b (fZ.set r 0) ∧ Turn (· = b) w w') := fun b w h1 h2 => by
    have := put_any b _ r 0 w h1 h2 (by decide)
    rw [(pt_yes fZ r 0 hr).1, (pt_yes _ r _ hr).2, keepW_zero] at this
    exact this
  have HG : Hid (∀ (b v : Nat) (w : World), Fi 63 w b (fZ.set r v) → Calls Tryd.prog 15 #[.pointer (some ⟨b, 0, none⟩), .int .i64 (r : Int)] w fun e w' => e = .returned (.tuple #[.int .u32 (v : Int), .int .i64 0]) ∧ w = w') := fun b v w h => by
    have := get_any b _ r w h
    rw [gt_yes _ r hr, hget] at this
    exact this
  have HN : Hid (∀ (w : World), TR w → Calls Tryd.prog 16 #[.int .i64 (r : Int)] w fun e w' => e = .returned (.tuple #[.agg #[.int .i64 ((rg r).t).a, .int .i64 ((rg r).t).b, .int .i64 ((rg r).t).c, .int .i64 ((rg r).t).d], .int .i64 1]) ∧ Below w.heap.size w w') := fun w h => lnamed_any r w h hr
  have HW : Hid (∀ (b : Nat) (w : World), Fi 63 w b (fZ.set r 0) → TR w → Calls Tryd.prog 17 #[.pointer (some ⟨b, 0, none⟩), .agg #[.int .i64 ((rg r).t).a, .int .i64 ((rg r).t).b, .int .i64 ((rg r).t).c, .int .i64 ((rg r).t).d], .bool true, .int .u32 (x : Int)] w fun e w' => e = .returned (.tuple #[.agg #[.int .i64 (if (rg r).ctx then 1 else 0), .int .i64 0, .int .u32 0, .int .i64 0, .int .u32 0, .bool false, .bool false], .int .i64 0]) ∧ Fi 63 w' b (fZ.set r (keepW r x)) ∧ Turn (· = b) w w') := fun b w h1 h2 => by
    have := write_any b x (rg r).t true (fZ.set r 0) w h1 h2 hx
    rw [wr_reg true x (regOf_self r hr)] at this
    cases hc : (rg r).ctx
    · simpa [setF, hc, aZ, hset] using this
    · simpa [setF, hc, aReg, hset] using this
  have HR : Hid (∀ (b : Nat) (w : World), Fi 63 w b (fZ.set r (keepW r x)) → TR w → Calls Tryd.prog 18 #[.pointer (some ⟨b, 0, none⟩), .agg #[.int .i64 ((rg r).t).a, .int .i64 ((rg r).t).b, .int .i64 ((rg r).t).c, .int .i64 ((rg r).t).d], .bool true] w fun e w' => e = .returned (.tuple #[.int .u32 ((keepW r x : Nat) : Int), .int .i64 0]) ∧ Below w.heap.size w w') := fun b w h1 h2 => by
    have := read_any b (rg r).t true _ w h1 h2
    have e : rdF (fZ.set r (keepW r x)) (rg r).t true = (keepW r x, 0) := by simp only [rdF, regOf_self r hr, hget]; rfl
    rw [e] at this
    exact this
  have HE : Hid (∀ w, (Op.equalIn 10000 31 (.agg (encF (fZ.set r (keepW r x))).toArray) (.agg (encF (fZ.set r (keepW r x))).toArray)).run Tryd.prog w = .ok true w) := fun w => eqH _ (hlen _) w
  have hy := and_kept_u r x hx
  have hcx := ctx_seen r hr
  have HCX : (decide ((r : Int) ≤ 4) = true ∧ (if (rg r).ctx then 1 else 0 : Int) = 1) ∨ (decide ((r : Int) ≤ 4) = false ∧ decide (10 ≤ (r : Int)) = true ∧ (if (rg r).ctx then 1 else 0 : Int) = 1) ∨ (decide ((r : Int) ≤ 4) = false ∧ decide (10 ≤ (r : Int)) = false ∧ (if (rg r).ctx then 1 else 0 : Int) = 0) := by
    rw [hcx]
    by_cases h1 : r ≤ 4
    · have : (r : Int) ≤ 4 := by omega
      exact .inl (by simp [h1, this])
    · have h2 : ¬ (r : Int) ≤ 4 := by omega
      by_cases h3 : 10 ≤ r
      · have : 10 ≤ (r : Int) := by omega
        exact .inr (.inl (by simp [h3, h2, this]))
      · have : ¬ 10 ≤ (r : Int) := by omega
        exact .inr (.inr (by simp [h1, h3, h2, this]))
  clear hT hlen hset hget hcx
  generalize (rg r).t = T at *
  generalize (if (rg r).ctx then 1 else 0 : Int) = cc at *
  generalize hF2 : fZ.set r (keepW r x) = F2 at *
  generalize keepW r x = y at *
  have HF2 : Hid (F2 = fZ.set r y) := hF2.symm
  clear hF2
  rcases HCX with ⟨k1, rfl⟩ | ⟨k1, k2, rfl⟩ | ⟨k1, k2, rfl⟩
  · go_enter Tryd.func4, Tryd.ntmps4
    go_wp2_with (fail)
    go_at_call 8
    refine (new_any W HT.out).mono ?_
    rintro e w1 ⟨rfl, hf1, hb1⟩
    have H1 : Hid (Fi 63 w1 W.heap.size fZ ∧ Below W.heap.size W w1 ∧ TR w1) := ⟨hf1, hb1, HT.out.below hb1⟩
    clear hf1 hb1
    go_wp2_with (fail)
    go_at_call 8
    refine (new_any w1 H1.out.2.2).mono ?_
    rintro e w2 ⟨rfl, hf1, hb1⟩
    have HS : Hid _ := Tw.start HT.out H1.out.1 H1.out.2.1 hf1 hb1
    clear hf1 hb1 H1 HT
    go_wp2_with (fail)
    go_at_call 9
    refine (live_any w2 HS.out.tr).mono ?_
    rintro e w3 ⟨rfl, hb⟩
    have HS : Hid _ := HS.out.step hb
    clear hb
    go_wp2_with (go_at_call 13; refine (hno _ _).mono ?_; rintro e w' ⟨rfl, rfl⟩)
    go_at_call 14
    refine (HPA.out _ _ HS.out.f HS.out.tr).mono ?_
    rintro e w4 ⟨rfl, hf, hb⟩
    have HS : Hid _ := HS.out.turnF hf hb
    clear hf hb
    go_wp2_with (go_at_call 13; refine (hno _ _).mono ?_; rintro e w' ⟨rfl, rfl⟩)
    go_at_call 15
    refine (HG.out _ _ _ HS.out.f).mono ?_
    rintro e w' ⟨rfl, rfl⟩
    go_wp2_with (go_at_call 13; refine (hno _ _).mono ?_; rintro e w' ⟨rfl, rfl⟩)
    go_at_call 14
    refine (HPX.out _ _ HS.out.f HS.out.tr).mono ?_
    rintro e w5 ⟨rfl, hf, hb⟩
    have HS : Hid _ := HS.out.turnF hf hb
    clear hf hb
    go_wp2_with (go_at_call 13; refine (hno _ _).mono ?_; rintro e w' ⟨rfl, rfl⟩)
    go_at_call 14
    refine (HPZ.out _ _ HS.out.g HS.out.tr).mono ?_
    rintro e w6 ⟨rfl, hf, hb⟩
    have HS : Hid _ := HS.out.turnG hf hb
    clear hf hb
    go_wp2_with (go_at_call 13; refine (hno _ _).mono ?_; rintro e w' ⟨rfl, rfl⟩)
    go_at_call 15
    refine (HG.out _ y _ (HF2.out ▸ HS.out.f)).mono ?_
    rintro e w' ⟨rfl, rfl⟩
    go_wp2_with (go_at_call 13; refine (hno _ _).mono ?_; rintro e w' ⟨rfl, rfl⟩)
    go_at_call 15
    refine (HG.out _ _ _ HS.out.g).mono ?_
    rintro e w' ⟨rfl, rfl⟩
    go_wp2_with (go_at_call 13; refine (hno _ _).mono ?_; rintro e w' ⟨rfl, rfl⟩)
    go_at_call 16
    refine (HN.out _ HS.out.tr).mono ?_
    rintro e w7 ⟨rfl, hb⟩
    have hxq : ¬ w7.heap.size = w1.heap.size := by have := HS.out.g.lt; have := hb.size; omega
    have HS : Hid (Tw W (w7.alloc (.cells ([.int .i64 T.a, .int .i64 T.b, .int .i64 T.c, .int .i64 T.d]).toArray 27)) _ _ _ _) := (HS.out.step hb).step (below_new _ _)
    have HX : Hid (Bl (w7.alloc (.cells ([.int .i64 T.a, .int .i64 T.b, .int .i64 T.c, .int .i64 T.d]).toArray 27)) w7.heap.size 27 ([.int .i64 T.a, .int .i64 T.b, .int .i64 T.c, .int .i64 T.d])) := Bl.new _ _ _
    clear hb
    go_wp2_with (go_at_call 13; refine (hno _ _).mono ?_; rintro e w' ⟨rfl, rfl⟩)
    go_at_call 17
    generalize w7.alloc _ = w8 at *
    generalize w7.heap.size = X at *
    refine (HW.out _ _ HS.out.g HS.out.tr).mono ?_
    rintro e w9 ⟨rfl, hf, hb⟩
    have HS : Hid (Tw W (w9.alloc (.cells #[.int .i64 1, .int .i64 0, .int .u32 0, .int .i64 0, .int .u32 0, .bool false, .bool false] 36)) _ _ _ _) := (HS.out.turnG hf hb).step (below_new _ _)
    have HX : Hid (Bl (w9.alloc (.cells #[.int .i64 1, .int .i64 0, .int .u32 0, .int .i64 0, .int .u32 0, .bool false, .bool false] 36)) X 27 ([.int .i64 T.a, .int .i64 T.b, .int .i64 T.c, .int .i64 T.d])) := (HX.out.turn hb hxq).below (below_new _ _)
    have HA : Hid (Bl (w9.alloc (.cells #[.int .i64 1, .int .i64 0, .int .u32 0, .int .i64 0, .int .u32 0, .bool false, .bool false] 36)) w9.heap.size 36 [.int .i64 1, .int .i64 0, .int .u32 0, .int .i64 0, .int .u32 0, .bool false, .bool false]) := Bl.new _ _ _
    have hx0 := HX.out.cell
    clear hf hb
    go_wp2_with (go_at_call 13; refine (hno _ _).mono ?_; rintro e w' ⟨rfl, rfl⟩)
    go_at_call 18
    generalize w9.alloc _ = w10 at *
    generalize w9.heap.size = A at *
    refine (HR.out _ _ HS.out.g HS.out.tr).mono ?_
    rintro e w11 ⟨rfl, hb⟩
    have HS : Hid _ := HS.out.step hb
    have HA : Hid (Bl w11 A 36 [.int .i64 1, .int .i64 0, .int .u32 0, .int .i64 0, .int .u32 0, .bool false, .bool false]) := HA.out.below hb
    clear hb hx0 HX
    have ha0 := HA.out.cell
    go_wp2_with (go_at_call 13; refine (hno _ _).mono ?_; rintro e w' ⟨rfl, rfl⟩)
    go_at_call 10
    refine (held_any _ _ _ HS.out.f).mono ?_
    rintro e w12 ⟨rfl, hb⟩
    have HS : Hid _ := HS.out.step hb
    clear hb
    go_wp2_with (go_at_call 13; refine (hno _ _).mono ?_; rintro e w' ⟨rfl, rfl⟩)
    go_at_call 10
    refine (held_any _ _ _ HS.out.g).mono ?_
    rintro e w13 ⟨rfl, hb⟩
    have HS : Hid _ := HS.out.step hb
    clear hb
    have he := HE.out
    generalize encF F2 = L at *
    go_wp2
    go_ret
    exact ⟨rfl, HS.out.bel⟩
  · go_enter Tryd.func4, Tryd.ntmps4
    go_wp2_with (fail)
    go_at_call 8
    refine (new_any W HT.out).mono ?_
    rintro e w1 ⟨rfl, hf1, hb1⟩
    have H1 : Hid (Fi 63 w1 W.heap.size fZ ∧ Below W.heap.size W w1 ∧ TR w1) := ⟨hf1, hb1, HT.out.below hb1⟩
    clear hf1 hb1
    go_wp2_with (fail)
    go_at_call 8
    refine (new_any w1 H1.out.2.2).mono ?_
    rintro e w2 ⟨rfl, hf1, hb1⟩
    have HS : Hid _ := Tw.start HT.out H1.out.1 H1.out.2.1 hf1 hb1
    clear hf1 hb1 H1 HT
    go_wp2_with (fail)
    go_at_call 9
    refine (live_any w2 HS.out.tr).mono ?_
    rintro e w3 ⟨rfl, hb⟩
    have HS : Hid _ := HS.out.step hb
    clear hb
    go_wp2_with (go_at_call 13; refine (hno _ _).mono ?_; rintro e w' ⟨rfl, rfl⟩)
    go_at_call 14
    refine (HPA.out _ _ HS.out.f HS.out.tr).mono ?_
    rintro e w4 ⟨rfl, hf, hb⟩
    have HS : Hid _ := HS.out.turnF hf hb
    clear hf hb
    go_wp2_with (go_at_call 13; refine (hno _ _).mono ?_; rintro e w' ⟨rfl, rfl⟩)
    go_at_call 15
    refine (HG.out _ _ _ HS.out.f).mono ?_
    rintro e w' ⟨rfl, rfl⟩
    go_wp2_with (go_at_call 13; refine (hno _ _).mono ?_; rintro e w' ⟨rfl, rfl⟩)
    go_at_call 14
    refine (HPX.out _ _ HS.out.f HS.out.tr).mono ?_
    rintro e w5 ⟨rfl, hf, hb⟩
    have HS : Hid _ := HS.out.turnF hf hb
    clear hf hb
    go_wp2_with (go_at_call 13; refine (hno _ _).mono ?_; rintro e w' ⟨rfl, rfl⟩)
    go_at_call 14
    refine (HPZ.out _ _ HS.out.g HS.out.tr).mono ?_
    rintro e w6 ⟨rfl, hf, hb⟩
    have HS : Hid _ := HS.out.turnG hf hb
    clear hf hb
    go_wp2_with (go_at_call 13; refine (hno _ _).mono ?_; rintro e w' ⟨rfl, rfl⟩)
    go_at_call 15
    refine (HG.out _ y _ (HF2.out ▸ HS.out.f)).mono ?_
    rintro e w' ⟨rfl, rfl⟩
    go_wp2_with (go_at_call 13; refine (hno _ _).mono ?_; rintro e w' ⟨rfl, rfl⟩)
    go_at_call 15
    refine (HG.out _ _ _ HS.out.g).mono ?_
    rintro e w' ⟨rfl, rfl⟩
    go_wp2_with (go_at_call 13; refine (hno _ _).mono ?_; rintro e w' ⟨rfl, rfl⟩)
    go_at_call 16
    refine (HN.out _ HS.out.tr).mono ?_
    rintro e w7 ⟨rfl, hb⟩
    have hxq : ¬ w7.heap.size = w1.heap.size := by have := HS.out.g.lt; have := hb.size; omega
    have HS : Hid (Tw W (w7.alloc (.cells ([.int .i64 T.a, .int .i64 T.b, .int .i64 T.c, .int .i64 T.d]).toArray 27)) _ _ _ _) := (HS.out.step hb).step (below_new _ _)
    have HX : Hid (Bl (w7.alloc (.cells ([.int .i64 T.a, .int .i64 T.b, .int .i64 T.c, .int .i64 T.d]).toArray 27)) w7.heap.size 27 ([.int .i64 T.a, .int .i64 T.b, .int .i64 T.c, .int .i64 T.d])) := Bl.new _ _ _
    clear hb
    go_wp2_with (go_at_call 13; refine (hno _ _).mono ?_; rintro e w' ⟨rfl, rfl⟩)
    go_at_call 17
    generalize w7.alloc _ = w8 at *
    generalize w7.heap.size = X at *
    refine (HW.out _ _ HS.out.g HS.out.tr).mono ?_
    rintro e w9 ⟨rfl, hf, hb⟩
    have HS : Hid (Tw W (w9.alloc (.cells #[.int .i64 1, .int .i64 0, .int .u32 0, .int .i64 0, .int .u32 0, .bool false, .bool false] 36)) _ _ _ _) := (HS.out.turnG hf hb).step (below_new _ _)
    have HX : Hid (Bl (w9.alloc (.cells #[.int .i64 1, .int .i64 0, .int .u32 0, .int .i64 0, .int .u32 0, .bool false, .bool false] 36)) X 27 ([.int .i64 T.a, .int .i64 T.b, .int .i64 T.c, .int .i64 T.d])) := (HX.out.turn hb hxq).below (below_new _ _)
    have HA : Hid (Bl (w9.alloc (.cells #[.int .i64 1, .int .i64 0, .int .u32 0, .int .i64 0, .int .u32 0, .bool false, .bool false] 36)) w9.heap.size 36 [.int .i64 1, .int .i64 0, .int .u32 0, .int .i64 0, .int .u32 0, .bool false, .bool false]) := Bl.new _ _ _
    have hx0 := HX.out.cell
    clear hf hb
    go_wp2_with (go_at_call 13; refine (hno _ _).mono ?_; rintro e w' ⟨rfl, rfl⟩)
    go_at_call 18
    generalize w9.alloc _ = w10 at *
    generalize w9.heap.size = A at *
    refine (HR.out _ _ HS.out.g HS.out.tr).mono ?_
    rintro e w11 ⟨rfl, hb⟩
    have HS : Hid _ := HS.out.step hb
    have HA : Hid (Bl w11 A 36 [.int .i64 1, .int .i64 0, .int .u32 0, .int .i64 0, .int .u32 0, .bool false, .bool false]) := HA.out.below hb
    clear hb hx0 HX
    have ha0 := HA.out.cell
    go_wp2_with (go_at_call 13; refine (hno _ _).mono ?_; rintro e w' ⟨rfl, rfl⟩)
    go_at_call 10
    refine (held_any _ _ _ HS.out.f).mono ?_
    rintro e w12 ⟨rfl, hb⟩
    have HS : Hid _ := HS.out.step hb
    clear hb
    go_wp2_with (go_at_call 13; refine (hno _ _).mono ?_; rintro e w' ⟨rfl, rfl⟩)
    go_at_call 10
    refine (held_any _ _ _ HS.out.g).mono ?_
    rintro e w13 ⟨rfl, hb⟩
    have HS : Hid _ := HS.out.step hb
    clear hb
    have he := HE.out
    generalize encF F2 = L at *
    go_wp2
    go_ret
    exact ⟨rfl, HS.out.bel⟩
  · go_enter Tryd.func4, Tryd.ntmps4
    go_wp2_with (fail)
    go_at_call 8
    refine (new_any W HT.out).mono ?_
    rintro e w1 ⟨rfl, hf1, hb1⟩
    have H1 : Hid (Fi 63 w1 W.heap.size fZ ∧ Below W.heap.size W w1 ∧ TR w1) := ⟨hf1, hb1, HT.out.below hb1⟩
    clear hf1 hb1
    go_wp2_with (fail)
    go_at_call 8
    refine (new_any w1 H1.out.2.2).mono ?_
    rintro e w2 ⟨rfl, hf1, hb1⟩
    have HS : Hid _ := Tw.start HT.out H1.out.1 H1.out.2.1 hf1 hb1
    clear hf1 hb1 H1 HT
    go_wp2_with (fail)
    go_at_call 9
    refine (live_any w2 HS.out.tr).mono ?_
    rintro e w3 ⟨rfl, hb⟩
    have HS : Hid _ := HS.out.step hb
    clear hb
    go_wp2_with (go_at_call 13; refine (hno _ _).mono ?_; rintro e w' ⟨rfl, rfl⟩)
    go_at_call 14
    refine (HPA.out _ _ HS.out.f HS.out.tr).mono ?_
    rintro e w4 ⟨rfl, hf, hb⟩
    have HS : Hid _ := HS.out.turnF hf hb
    clear hf hb
    go_wp2_with (go_at_call 13; refine (hno _ _).mono ?_; rintro e w' ⟨rfl, rfl⟩)
    go_at_call 15
    refine (HG.out _ _ _ HS.out.f).mono ?_
    rintro e w' ⟨rfl, rfl⟩
    go_wp2_with (go_at_call 13; refine (hno _ _).mono ?_; rintro e w' ⟨rfl, rfl⟩)
    go_at_call 14
    refine (HPX.out _ _ HS.out.f HS.out.tr).mono ?_
    rintro e w5 ⟨rfl, hf, hb⟩
    have HS : Hid _ := HS.out.turnF hf hb
    clear hf hb
    go_wp2_with (go_at_call 13; refine (hno _ _).mono ?_; rintro e w' ⟨rfl, rfl⟩)
    go_at_call 14
    refine (HPZ.out _ _ HS.out.g HS.out.tr).mono ?_
    rintro e w6 ⟨rfl, hf, hb⟩
    have HS : Hid _ := HS.out.turnG hf hb
    clear hf hb
    go_wp2_with (go_at_call 13; refine (hno _ _).mono ?_; rintro e w' ⟨rfl, rfl⟩)
    go_at_call 15
    refine (HG.out _ y _ (HF2.out ▸ HS.out.f)).mono ?_
    rintro e w' ⟨rfl, rfl⟩
    go_wp2_with (go_at_call 13; refine (hno _ _).mono ?_; rintro e w' ⟨rfl, rfl⟩)
    go_at_call 15
    refine (HG.out _ _ _ HS.out.g).mono ?_
    rintro e w' ⟨rfl, rfl⟩
    go_wp2_with (go_at_call 13; refine (hno _ _).mono ?_; rintro e w' ⟨rfl, rfl⟩)
    go_at_call 16
    refine (HN.out _ HS.out.tr).mono ?_
    rintro e w7 ⟨rfl, hb⟩
    have hxq : ¬ w7.heap.size = w1.heap.size := by have := HS.out.g.lt; have := hb.size; omega
    have HS : Hid (Tw W (w7.alloc (.cells ([.int .i64 T.a, .int .i64 T.b, .int .i64 T.c, .int .i64 T.d]).toArray 27)) _ _ _ _) := (HS.out.step hb).step (below_new _ _)
    have HX : Hid (Bl (w7.alloc (.cells ([.int .i64 T.a, .int .i64 T.b, .int .i64 T.c, .int .i64 T.d]).toArray 27)) w7.heap.size 27 ([.int .i64 T.a, .int .i64 T.b, .int .i64 T.c, .int .i64 T.d])) := Bl.new _ _ _
    clear hb
    go_wp2_with (go_at_call 13; refine (hno _ _).mono ?_; rintro e w' ⟨rfl, rfl⟩)
    go_at_call 17
    generalize w7.alloc _ = w8 at *
    generalize w7.heap.size = X at *
    refine (HW.out _ _ HS.out.g HS.out.tr).mono ?_
    rintro e w9 ⟨rfl, hf, hb⟩
    have HS : Hid (Tw W (w9.alloc (.cells #[.int .i64 0, .int .i64 0, .int .u32 0, .int .i64 0, .int .u32 0, .bool false, .bool false] 36)) _ _ _ _) := (HS.out.turnG hf hb).step (below_new _ _)
    have HX : Hid (Bl (w9.alloc (.cells #[.int .i64 0, .int .i64 0, .int .u32 0, .int .i64 0, .int .u32 0, .bool false, .bool false] 36)) X 27 ([.int .i64 T.a, .int .i64 T.b, .int .i64 T.c, .int .i64 T.d])) := (HX.out.turn hb hxq).below (below_new _ _)
    have HA : Hid (Bl (w9.alloc (.cells #[.int .i64 0, .int .i64 0, .int .u32 0, .int .i64 0, .int .u32 0, .bool false, .bool false] 36)) w9.heap.size 36 [.int .i64 0, .int .i64 0, .int .u32 0, .int .i64 0, .int .u32 0, .bool false, .bool false]) := Bl.new _ _ _
    have hx0 := HX.out.cell
    clear hf hb
    go_wp2_with (go_at_call 13; refine (hno _ _).mono ?_; rintro e w' ⟨rfl, rfl⟩)
    go_at_call 18
    generalize w9.alloc _ = w10 at *
    generalize w9.heap.size = A at *
    refine (HR.out _ _ HS.out.g HS.out.tr).mono ?_
    rintro e w11 ⟨rfl, hb⟩
    have HS : Hid _ := HS.out.step hb
    have HA : Hid (Bl w11 A 36 [.int .i64 0, .int .i64 0, .int .u32 0, .int .i64 0, .int .u32 0, .bool false, .bool false]) := HA.out.below hb
    clear hb hx0 HX
    have ha0 := HA.out.cell
    go_wp2_with (go_at_call 13; refine (hno _ _).mono ?_; rintro e w' ⟨rfl, rfl⟩)
    go_at_call 10
    refine (held_any _ _ _ HS.out.f).mono ?_
    rintro e w12 ⟨rfl, hb⟩
    have HS : Hid _ := HS.out.step hb
    clear hb
    go_wp2_with (go_at_call 13; refine (hno _ _).mono ?_; rintro e w' ⟨rfl, rfl⟩)
    go_at_call 10
    refine (held_any _ _ _ HS.out.g).mono ?_
    rintro e w13 ⟨rfl, hb⟩
    have HS : Hid _ := HS.out.step hb
    clear hb
    have he := HE.out
    generalize encF F2 = L at *
    go_wp2
    go_ret
    exact ⟨rfl, HS.out.bel⟩
theorem law_mask (W : World) (r x : Int) (hT : TR W) (hx : 0 ≤ x ∧ x < 4294967296) :
    Calls Tryd.prog 4 #[.int .i64 r, .int .u32 x] W fun e W' => e = .returned (.bool true) ∧ Below W.heap.size W W' := by
  obtain ⟨y, rfl⟩ := Int.eq_ofNat_of_zero_le hx.1
  cases hr : isR r
  · exact mask_no W r y hT hr (by omega)
  · obtain ⟨h1, h2⟩ := (isR_iff r).1 hr
    obtain ⟨k, rfl⟩ := Int.eq_ofNat_of_zero_le h1
    exact mask_yes W k y hT (by omega) (by omega)
end Go.Proofs.YtdinmhjdnnhhjaaDoor
