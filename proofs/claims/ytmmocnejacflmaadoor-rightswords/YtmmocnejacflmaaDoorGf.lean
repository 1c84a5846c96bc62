import Derived.Test.YtmmocnejacflmaaDoorGc
namespace Go.Proofs.YtmmocnejacflmaaDoor
open Go.RowKit
set_option linter.unusedVariables false
set_option linter.unusedSimpArgs false
theorem or_high (a b : Int) (ha : 0 ≤ a ∧ a < 16) (hb : 0 ≤ b ∧ b < 2) : bits .or .u32 a (b * 16) = a + b * 16 := by
  have key : ∀ a, a < 16 → ∀ b, b < 2 → a ||| b * 16 = a + b * 16 := by decide +kernel
  obtain ⟨a, rfl⟩ := Int.eq_ofNat_of_zero_le ha.1
  obtain ⟨b, rfl⟩ := Int.eq_ofNat_of_zero_le hb.1
  have u := u32_or_nat a (b * 16) (by omega) (by omega)
  rw [key a (by omega) b (by omega)] at u
  exact u
theorem Bl.set {w : World} {b : Nat} {t : TypeId} {l : List Value} (h : Bl w b t l) (j : Nat) (v : Value) : Bl (w.setCell ⟨b, j, none⟩ v) b t (l.set j v) := by
  have h1 : w.heap[b]? = some (.cells l.toArray t (0, 0)) := h
  have hb : b < w.heap.size := h.lt
  show (w.setCell ⟨b, j, none⟩ v).heap[b]? = _
  simp [World.setCell, Array.getElem?_modify, h1]
theorem Bl.set_ne {w : World} {b b' : Nat} {t : TypeId} {l : List Value} (h : Bl w b t l) (hn : b ≠ b') (j : Nat) (v : Value) : Bl (w.setCell ⟨b', j, none⟩ v) b t l := by
  show (w.setCell ⟨b', j, none⟩ v).heap[b]? = _
  rw [Below.heap_setCell _ _ _ _ hn]
  exact h
set_option maxRecDepth 100000 in
set_option maxHeartbeats 2000000 in
theorem fault_core (x k l d s e : Int) (b : Bool) (w : World) (hT : TF w) (hx : 0 ≤ x ∧ x < 4294967296) (hd : x / 16 % 16 = d) (hb : (x / 2048 % 2 == 1) = b)
    (HC : ∀ w, TF w → Calls Tryd.prog 21 #[.int .u32 (x % 16 + x / 1024 % 2 * 16)] w fun e w' => e = .returned (.agg #[.int .i64 k, .int .i64 l, .int .i64 0]) ∧ Below w.heap.size w w')
    (HS : ∀ w, TF w → Calls Tryd.prog 10 #[.agg #[.int .i64 k, .int .i64 l, .int .i64 d], .bool b] w fun r w' => r = .returned (.tuple #[.int .u32 s, .int .i64 e]) ∧ Below w.heap.size w w') :
    Calls Tryd.prog 13 #[.int .u32 x] w fun r w' => r = .returned (if e = 0 ∧ s = x then .tuple #[.agg #[.int .i64 k, .int .i64 l, .int .i64 d], .bool b, .int .i64 0] else .tuple #[.agg #[.int .i64 0, .int .i64 0, .int .i64 0], .bool false, .int .i64 70]) ∧ Below w.heap.size w w' := by
  have b1 := and15 x hx
  have b2 := and1 (x / 1024) (shr_range x 10 hx)
  have b3 := and15 (x / 16) (shr_range x 4 hx)
  have b4 := and1 (x / 2048) (shr_range x 11 hx)
  have b5 := or_high (x % 16) (x / 1024 % 2) (by omega) (by omega)
  have s1 : x / 1024 % 2 * 16 % 4294967296 = x / 1024 % 2 * 16 := by omega
  have s2 : IntKind.i64.wrap d = d := by rw [IntKind.wrap_i64]; omega
  have HX0 : Hid (CX w (w.alloc (.cells #[.int .i64 0, .int .i64 0, .int .i64 0] 28))) := CX.new w
  have HT : Hid (TF w) := hT
  have HC' : Hid (∀ w, TF w → Calls Tryd.prog 21 #[.int .u32 (x % 16 + x / 1024 % 2 * 16)] w fun e w' => e = .returned (.agg #[.int .i64 k, .int .i64 l, .int .i64 0]) ∧ Below w.heap.size w w') := HC
  have HS' : Hid (∀ w, TF w → Calls Tryd.prog 10 #[.agg #[.int .i64 k, .int .i64 l, .int .i64 d], .bool b] w fun r w' => r = .returned (.tuple #[.int .u32 s, .int .i64 e]) ∧ Below w.heap.size w w') := HS
  clear HC HS hT hx
  go_enter Tryd.func13, Tryd.ntmps13
  go_wp2_with (fail)
  go_at_call 21
  refine (HC'.out _ (HT.out.below HX0.out.bel)).mono ?_
  rintro e w1 ⟨rfl, hb⟩
  have HX1 : Hid (CX w w1) := ⟨Below.step HX0.out.bel hb, HX0.out.res.below hb⟩
  clear hb HX0 HC'
  go_wp2_with (fail)
  go_at_call 10
  have HX2 : Hid (CX w (w1.alloc (.cells #[.int .i64 k, .int .i64 l, .int .i64 d] 28))) := HX1.out.alloc _
  have HL2 : Hid (Bl (w1.alloc (.cells #[.int .i64 k, .int .i64 l, .int .i64 d] 28)) w1.heap.size 28 [.int .i64 k, .int .i64 l, .int .i64 d]) := Bl.new _ _ _
  refine (HS'.out _ (HT.out.below HX2.out.bel)).mono ?_
  rintro e w2 ⟨rfl, hb⟩
  have HX3 : Hid (CX w w2) := ⟨Below.step HX2.out.bel hb, HX2.out.res.below hb⟩
  have HL3 : Hid (Bl w2 w1.heap.size 28 [.int .i64 k, .int .i64 l, .int .i64 d]) := HL2.out.below hb
  have hne : ¬ (w.heap.size = w1.heap.size) := by have := HX1.out.res.lt; omega
  clear hb HX2 HL2 HS' HX1 HT
  have c0 := HX3.out.res.cell
  have f0 := HX3.out.res.frozen
  have l0 := HX3.out.res.lt
  have c1 := HL3.out.cell
  by_cases h0 : e = 0
  · subst h0
    by_cases h1 : s = x
    · subst h1
      go_wp2
      refine bodyPost_ret (v := .tuple #[.agg #[.int .i64 k, .int .i64 l, .int .i64 d], .bool b, .int .i64 0]) (by simp [results, Tryd.results13, go_sem, c0, f0, l0]) rfl ⟨by simp, (by (repeat (with_reducible refine Below.setCell ?_ (by simp) _)); exact HX3.out.bel)⟩
    · have q : (s != x) = true := by simp [h1]
      go_wp2
      refine bodyPost_ret (v := .tuple #[.agg #[.int .i64 0, .int .i64 0, .int .i64 0], .bool false, .int .i64 70]) (by simp [results, Tryd.results13, go_sem, c0, f0, l0]) rfl ⟨by simp [h1], (by (repeat (with_reducible refine Below.setCell ?_ (by simp) _)); exact HX3.out.bel)⟩
  · have q : (e != 0) = true := by simp [h0]
    go_wp2
    refine bodyPost_ret (v := .tuple #[.agg #[.int .i64 0, .int .i64 0, .int .i64 0], .bool false, .int .i64 70]) (by simp [results, Tryd.results13, go_sem, c0, f0, l0]) rfl ⟨by simp [h0], (by (repeat (with_reducible refine Below.setCell ?_ (by simp) _)); exact HX3.out.bel)⟩
theorem coF_d (c : Int) : (coF c).d = 0 := rfl
theorem faultP_any (x : Int) (w : World) (hT : TF w) (hx : 0 ≤ x ∧ x < 4294967296) :
    Calls Tryd.prog 13 #[.int .u32 x] w fun r w' => r = .returned (.tuple #[.agg #[.int .i64 (fF x).k, .int .i64 (fF x).l, .int .i64 (fF x).d], .bool (fB x), .int .i64 (fE x)]) ∧ Below w.heap.size w w' := by
  have h := fault_core x (wF x).k (wF x).l (wF x).d (stF (wF x) (wB x)).1 (stF (wF x) (wB x)).2 (wB x) w hT hx rfl rfl (fun w hw => by
    have := coded_raw (wC x) w hw
    rw [nC_coF _ (by unfold wC; omega)] at this
    exact this) (fun w hw => status_any (wF x) (wB x) w hw)
  refine h.mono ?_
  rintro r w' ⟨rfl, hb⟩
  refine ⟨?_, hb⟩
  cases hr : rtF (wF x) with
  | false =>
    have ho : fOk x = false := by simp [fOk, hr]
    rw [if_neg (by simp [stF, hr])]
    simp [fF, fB, fE, ho, fZ]
  | true =>
    by_cases hs : stW (wF x) (wB x) = x
    · have ho : fOk x = true := by simp [fOk, hr, hs]
      rw [if_pos (by simp [stF, hr, hs])]
      simp [fF, fB, fE, ho]
    · have ho : fOk x = false := by simp [fOk, hr, hs]
      rw [if_neg (by simp [stF, hr, hs])]
      simp [fF, fB, fE, ho, fZ]
end Go.Proofs.YtmmocnejacflmaaDoor
