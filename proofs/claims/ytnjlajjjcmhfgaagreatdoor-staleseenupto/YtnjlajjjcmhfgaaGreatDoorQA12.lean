import Derived.Test.YtnjlajjjcmhfgaaGreatDoorQA11
import Derived.Test.YtnjlajjjcmhfgaaGreatDoorQA10
namespace Go.Proofs.YtnjlajjjcmhfgaaGreatDoor
open Go.RowKit
set_option linter.unusedVariables false
set_option linter.unusedSimpArgs false
theorem trans_any (e : Ent) (dm va : Int) (W : World) (ht : TT W) (hO : Ok e) (hva : 0 ≤ va ∧ va < 4294967296) :
    Calls Tryz.prog 63 #[.agg #[.int .i64 e.kind, .int .u64 e.base, .int .i64 e.dom, .bool e.ns, .int .i64 e.ap, .int .u32 e.bits, .bool e.ng, .bool e.xn], .int .i64 dm, .int .u32 va] W fun r w' => r = .returned (.agg #[.int .i64 (trF e dm va).size, .int .u32 (trF e dm va).va, .int .u64 (trF e dm va).pa, .int .i64 (trF e dm va).dom, .int .i64 (trF e dm va).ap, .int .u32 (trF e dm va).bits, .bool (trF e dm va).ng, .bool (trF e dm va).xn]) ∧ Below W.heap.size W w' := by
  have HS := fun ww (hh : TE ww) => saysBlock_any e ww hh hO
  cases hs : sb e with
  | false =>
    rw [hs] at HS
    rw [show trF e dm va = tZ by unfold trF; rw [if_neg (by rw [hs]; simp)]]
    exact trans_no _ _ _ _ _ _ _ _ dm va W ht HS
  | true =>
    rw [hs] at HS
    by_cases h0 : domOf e dm < 0
    · rw [show trF e dm va = tZ by unfold trF; rw [if_neg (by omega)]]
      rcases sb_kind hs with h | h | h | h
      · have hD : domOf e dm = e.dom := by unfold domOf; rw [if_pos (.inl h)]
        rw [hD] at h0
        rw [h] at HS ⊢
        exact trans_2lo _ _ _ _ _ _ _ dm va W ht (decide_eq_true h0) HS
      · have hD : domOf e dm = e.dom := by unfold domOf; rw [if_pos (.inr h)]
        rw [hD] at h0
        rw [h] at HS ⊢
        exact trans_3lo _ _ _ _ _ _ _ dm va W ht (decide_eq_true h0) HS
      · have hD : domOf e dm = dm := by unfold domOf; rw [if_neg (by omega)]
        rw [hD] at h0
        rw [h] at HS ⊢
        exact trans_4lo _ _ _ _ _ _ _ dm va W ht (decide_eq_true h0) HS
      · have hD : domOf e dm = dm := by unfold domOf; rw [if_neg (by omega)]
        rw [hD] at h0
        rw [h] at HS ⊢
        exact trans_5lo _ _ _ _ _ _ _ dm va W ht (decide_eq_true h0) HS
    · by_cases h1 : 15 < domOf e dm
      · rw [show trF e dm va = tZ by unfold trF; rw [if_neg (by omega)]]
        rcases sb_kind hs with h | h | h | h
        · have hD : domOf e dm = e.dom := by unfold domOf; rw [if_pos (.inl h)]
          rw [hD] at h0 h1
          rw [h] at HS ⊢
          exact trans_2hi _ _ _ _ _ _ _ dm va W ht (decide_eq_false h0) (decide_eq_true h1) HS
        · have hD : domOf e dm = e.dom := by unfold domOf; rw [if_pos (.inr h)]
          rw [hD] at h0 h1
          rw [h] at HS ⊢
          exact trans_3hi _ _ _ _ _ _ _ dm va W ht (decide_eq_false h0) (decide_eq_true h1) HS
        · have hD : domOf e dm = dm := by unfold domOf; rw [if_neg (by omega)]
          rw [hD] at h0 h1
          rw [h] at HS ⊢
          exact trans_4hi _ _ _ _ _ _ _ dm va W ht (decide_eq_false h0) (decide_eq_true h1) HS
        · have hD : domOf e dm = dm := by unfold domOf; rw [if_neg (by omega)]
          rw [hD] at h0 h1
          rw [h] at HS ⊢
          exact trans_5hi _ _ _ _ _ _ _ dm va W ht (decide_eq_false h0) (decide_eq_true h1) HS
      · rw [show trF e dm va = ⟨szK e.kind, va / byN (szK e.kind) * byN (szK e.kind), e.base, domOf e dm, e.ap, e.bits, e.ng, e.xn⟩ by unfold trF; rw [if_pos ⟨hs, by omega, by omega⟩]]
        rcases sb_kind hs with h | h | h | h
        · have hD : domOf e dm = e.dom := by unfold domOf; rw [if_pos (.inl h)]
          rw [hD] at h0 h1 ⊢
          rw [h] at HS ⊢
          exact trans_2 _ _ _ _ _ _ _ dm va W ht hva (decide_eq_false h0) (decide_eq_false h1) HS
        · have hD : domOf e dm = e.dom := by unfold domOf; rw [if_pos (.inr h)]
          rw [hD] at h0 h1 ⊢
          rw [h] at HS ⊢
          exact trans_3 _ _ _ _ _ _ _ dm va W ht hva (decide_eq_false h0) (decide_eq_false h1) HS
        · have hD : domOf e dm = dm := by unfold domOf; rw [if_neg (by omega)]
          rw [hD] at h0 h1 ⊢
          rw [h] at HS ⊢
          exact trans_4 _ _ _ _ _ _ _ dm va W ht hva (decide_eq_false h0) (decide_eq_false h1) HS
        · have hD : domOf e dm = dm := by unfold domOf; rw [if_neg (by omega)]
          rw [hD] at h0 h1 ⊢
          rw [h] at HS ⊢
          exact trans_5 _ _ _ _ _ _ _ dm va W ht hva (decide_eq_false h0) (decide_eq_false h1) HS
end Go.Proofs.YtnjlajjjcmhfgaaGreatDoor
namespace Go.Proofs.YtnjlajjjcmhfgaaGreatDoor
open Go.RowKit
open Mm (Turn gr RM valV errV)
set_option linter.unusedVariables false
set_option linter.unusedSimpArgs false
theorem Bl.other {w : World} {b b' : Nat} {t : TypeId} {l : List Value} (h : Bl w b t l) (hn : b ≠ b') (j : Nat) (v : Value) : Bl (w.setCell ⟨b', j, none⟩ v) b t l := by
  show (w.setCell ⟨b', j, none⟩ v).heap[b]? = _
  rw [Below.heap_setCell _ _ _ _ hn]
  exact h
theorem Bl.keep8 {w : World} {b y : Nat} {t : TypeId} {l : List Value} (h : Bl w b t l) (hn : b ≠ y) (v0 v1 v2 v3 v4 v5 v6 v7 : Value) : Bl ((((((((w.setCell ⟨y, 0, none⟩ v0).setCell ⟨y, 1, none⟩ v1).setCell ⟨y, 2, none⟩ v2).setCell ⟨y, 3, none⟩ v3).setCell ⟨y, 4, none⟩ v4).setCell ⟨y, 5, none⟩ v5).setCell ⟨y, 6, none⟩ v6).setCell ⟨y, 7, none⟩ v7) b t l :=
  (((((((h.other hn 0 v0).other hn 1 v1).other hn 2 v2).other hn 3 v3).other hn 4 v4).other hn 5 v5).other hn 6 v6).other hn 7 v7
theorem Bl.keep3 {w : World} {b y : Nat} {t : TypeId} {l : List Value} (h : Bl w b t l) (hn : b ≠ y) (v0 v1 v2 : Value) : Bl (((w.setCell ⟨y, 0, none⟩ v0).setCell ⟨y, 1, none⟩ v1).setCell ⟨y, 2, none⟩ v2) b t l :=
  ((h.other hn 0 v0).other hn 1 v1).other hn 2 v2
theorem Fin.drew {H : Nat} {M : Mo} {iv : Value} {St : List Int → (Nat → Prop) → World → Prop} (A : Asker H M iv St) {w W : World} {Z : Nat → Prop} {L : List Int} (h : Fin H St w Z L W) : Fin H St w Z L W.drew :=
  ⟨A.keep (X := fun _ => False) h.1 (Turn.below (below_drew (Below.refl _ _))) (fun _ h => h.elim), h.2.drewN 1⟩
set_option maxRecDepth 100000 in
set_option maxHeartbeats 2000000 in
theorem second_bus {H : Nat} {M : Mo} {iv : Value} {St : List Int → (Nat → Prop) → World → Prop} (A : Asker H M iv St) (t : Ent) (va : Int) (L : List Int) (Z : Nat → Prop) (w : World) (hs : St L Z w) (hL : L.length ≤ 8) (hr : 0 ≤ t.base ∧ t.base < 4294967296) (hv : 0 ≤ va ∧ va < 4294967296) (x er : Int) (hx : M.wd (sA t va) = x) (he : M.er (sA t va) = er) (hne : ¬ er = 0) :
    Calls Tryz.prog 62 #[iv, .agg #[.int .i64 t.kind, .int .u64 t.base, .int .i64 t.dom, .bool t.ns, .int .i64 t.ap, .int .u32 t.bits, .bool t.ng, .bool t.xn], .int .u32 va] w fun e w' => e = .returned (.tuple #[.agg #[.int .i64 tZ.size, .int .u32 tZ.va, .int .u64 tZ.pa, .int .i64 tZ.dom, .int .i64 tZ.ap, .int .u32 tZ.bits, .bool tZ.ng, .bool tZ.xn], .agg #[.int .i64 4, .int .i64 0, .int .i64 t.dom]]) ∧ Fin H St w Z (L ++ [sA t va]) w' := by
  have hA : 0 ≤ sA t va ∧ sA t va < 18446744073709551616 := by unfold sA; omega
  have HK : Hid (∀ (Z : Nat → Prop) (w : World), St L Z w → Calls Tryz.prog 99 #[iv, .int .u64 (sA t va)] w fun e w' => e = .returned (.tuple #[.int .u32 x, .int .i64 er]) ∧ St (L ++ [sA t va]) (gr Z w w') w' ∧ Turn (hot H Z) w w') := fun Z w h => by rw [← hx, ← he]; exact A.ask L Z w (sA t va) hL hA.1 hA.2 h
  have hx0 : 0 ≤ x ∧ x < 4294967296 := by rw [← hx]; exact A.ok _
  clear hx he
  have hq : (er != 0) = true := by simp [hne]
  have HX1 := hidW (F3.new A hs 140 43 88 [.int .i64 t.kind, .int .u64 t.base, .int .i64 t.dom, .bool t.ns, .int .i64 t.ap, .int .u32 t.bits, .bool t.ng, .bool t.xn] [.int .i64 0, .int .u32 0, .int .u64 0, .int .i64 0, .int .i64 0, .int .u32 0, .bool false, .bool false] [.int .i64 0, .int .i64 0, .int .i64 0])
  clear hs
  have wm : IntKind.u64.wrap (4 * (va / 4096 % 256)) = 4 * (va / 4096 % 256) := by rw [IntKind.wrap_u64]; omega
  have ws : IntKind.u64.wrap (t.base + 4 * (va / 4096 % 256)) = sA t va := by rw [IntKind.wrap_u64]; unfold sA; omega
  have tm : (va / 4096).tmod 256 = va / 4096 % 256 := Int.tmod_eq_emod_of_nonneg (by omega)
  go_enter Tryz.func62, Tryz.ntmps62
  go_wp2_with fail
  go_at_call 99
  refine (HK.out _ _ HX1.out.f.st).mono ?_
  rintro e wb ⟨rfl, hs2, T2⟩
  have HX2 := hidW (HX1.out.call hs2 T2)
  clear hs2 T2 HX1 HK
  generalize w.heap.size + 1 + 1 = z at *
  generalize w.heap.size + 1 = y at *
  have c1 := HX2.out.b.bl.cell
  have f1 := HX2.out.b.bl.frozen
  have l1 := HX2.out.b.bl.lt
  have c2 := HX2.out.c.bl.cell
  have f2 := HX2.out.c.bl.frozen
  have l2 := HX2.out.c.bl.lt
  have n1 : ¬ y = z := by have := HX2.out.hz; omega
  have n2 : ¬ z = y := by have := HX2.out.hz; omega
  have n3 : ¬ w.heap.size = y := by have := HX2.out.hy; omega
  have n4 : ¬ w.heap.size = z := by have := HX2.out.hy; have := HX2.out.hz; omega
  have cx : wb.drew.cell? ⟨w.heap.size, 2, none⟩ = some (.int .i64 t.dom) := HX2.out.a.bl.drew.cell 2
  go_wp2
  go_region_held3 (fun w' => w'.cell? ⟨w.heap.size, 2, none⟩ = some (.int .i64 t.dom)) (first | (with_reducible exact cx) | ((with_reducible refine Eq.trans ((Bl.keep8 HX2.out.a.bl n3 _ _ _ _ _ _ _ _).drew.cell 2) ?_); rfl) | ((with_reducible refine Eq.trans ((Bl.keep3 (Bl.keep8 HX2.out.a.bl n3 _ _ _ _ _ _ _ _) n4 _ _ _).drew.cell 2) ?_); rfl)) (first | fail)
  go_wp2
  refine bodyPost_ret (v := .tuple #[.agg #[.int .i64 tZ.size, .int .u32 tZ.va, .int .u64 tZ.pa, .int .i64 tZ.dom, .int .i64 tZ.ap, .int .u32 tZ.bits, .bool tZ.ng, .bool tZ.xn], .agg #[.int .i64 4, .int .i64 0, .int .i64 t.dom]]) (by simp [results, Tryz.results62, go_sem, c1, f1, l1, c2, f2, l2, n1, n2, tZ]) rfl ⟨rfl, ?_⟩
  exact (HX2.out.fin11 A _ _ _ _ _ _ _ _ _ _ _).drew A
set_option maxRecDepth 100000 in
set_option maxHeartbeats 2000000 in
theorem second_zero {H : Nat} {M : Mo} {iv : Value} {St : List Int → (Nat → Prop) → World → Prop} (A : Asker H M iv St) (t : Ent) (va : Int) (L : List Int) (Z : Nat → Prop) (w : World) (hs : St L Z w) (hL : L.length ≤ 8) (hr : 0 ≤ t.base ∧ t.base < 4294967296) (hv : 0 ≤ va ∧ va < 4294967296) (x er : Int) (hx : M.wd (sA t va) = x) (he : M.er (sA t va) = er) (h0 : er = 0) (k1 k2 k3 : Int) (k4 : Bool) (k5 k6 : Int) (k7 k8 : Bool) (hd : D2 x = ⟨k1, k2, k3, k4, k5, k6, k7, k8⟩) (hk : k1 = 0) :
    Calls Tryz.prog 62 #[iv, .agg #[.int .i64 t.kind, .int .u64 t.base, .int .i64 t.dom, .bool t.ns, .int .i64 t.ap, .int .u32 t.bits, .bool t.ng, .bool t.xn], .int .u32 va] w fun e w' => e = .returned (.tuple #[.agg #[.int .i64 tZ.size, .int .u32 tZ.va, .int .u64 tZ.pa, .int .i64 tZ.dom, .int .i64 tZ.ap, .int .u32 tZ.bits, .bool tZ.ng, .bool tZ.xn], .agg #[.int .i64 5, .int .i64 0, .int .i64 t.dom]]) ∧ Fin H St w Z (L ++ [sA t va]) w' := by
  have hA : 0 ≤ sA t va ∧ sA t va < 18446744073709551616 := by unfold sA; omega
  have HK : Hid (∀ (Z : Nat → Prop) (w : World), St L Z w → Calls Tryz.prog 99 #[iv, .int .u64 (sA t va)] w fun e w' => e = .returned (.tuple #[.int .u32 x, .int .i64 er]) ∧ St (L ++ [sA t va]) (gr Z w w') w' ∧ Turn (hot H Z) w w') := fun Z w h => by rw [← hx, ← he]; exact A.ask L Z w (sA t va) hL hA.1 hA.2 h
  have hx0 : 0 ≤ x ∧ x < 4294967296 := by rw [← hx]; exact A.ok _
  clear hx he
  subst h0
  have HD := hidW (fun ww ht => Decode2_any x ww ht hx0)
  rw [hd] at HD
  clear hd
  subst hk
  have HX1 := hidW (F3.new A hs 140 43 88 [.int .i64 t.kind, .int .u64 t.base, .int .i64 t.dom, .bool t.ns, .int .i64 t.ap, .int .u32 t.bits, .bool t.ng, .bool t.xn] [.int .i64 0, .int .u32 0, .int .u64 0, .int .i64 0, .int .i64 0, .int .u32 0, .bool false, .bool false] [.int .i64 0, .int .i64 0, .int .i64 0])
  clear hs
  have wm : IntKind.u64.wrap (4 * (va / 4096 % 256)) = 4 * (va / 4096 % 256) := by rw [IntKind.wrap_u64]; omega
  have ws : IntKind.u64.wrap (t.base + 4 * (va / 4096 % 256)) = sA t va := by rw [IntKind.wrap_u64]; unfold sA; omega
  have tm : (va / 4096).tmod 256 = va / 4096 % 256 := Int.tmod_eq_emod_of_nonneg (by omega)
  go_enter Tryz.func62, Tryz.ntmps62
  go_wp2_with fail
  go_at_call 99
  refine (HK.out _ _ HX1.out.f.st).mono ?_
  rintro e wb ⟨rfl, hs2, T2⟩
  have HX2 := hidW (HX1.out.call hs2 T2)
  clear hs2 T2 HX1 HK
  generalize w.heap.size + 1 + 1 = z at *
  generalize w.heap.size + 1 = y at *
  go_wp2_with fail
  go_at_call 101
  refine (HD.out _ (A.tab HX2.out.f.st).r.toTD).mono ?_
  rintro e wc ⟨rfl, hb⟩
  have HX3 := hidW (HX2.out.below A hb)
  clear hb HX2 HD
  have HX4 := hidW (HX3.out.below A (below_new wc (.cells #[.int .i64 0, .int .u64 k2, .int .i64 k3, .bool k4, .int .i64 k5, .int .u32 k6, .bool k7, .bool k8] 140)))
  have c1 := HX4.out.b.bl.cell
  have f1 := HX4.out.b.bl.frozen
  have c2 := HX4.out.c.bl.cell
  have f2 := HX4.out.c.bl.frozen
  have n1 : ¬ y = z := by have := HX4.out.hz; omega
  have n2 : ¬ z = y := by have := HX4.out.hz; omega
  have n3 : ¬ w.heap.size = y := by have := HX4.out.hy; omega
  have n4 : ¬ w.heap.size = z := by have := HX4.out.hy; have := HX4.out.hz; omega
  have cx := (HX4.out.a.bl.drew.cell 2)
  simp only [List.getElem?_cons_succ, List.getElem?_cons_zero] at cx
  go_wp2
  go_region_held3 (fun w' => w'.cell? ⟨w.heap.size, 2, none⟩ = some (.int .i64 t.dom)) (first | (with_reducible exact cx) | ((with_reducible refine Eq.trans ((Bl.keep8 HX4.out.a.bl n3 _ _ _ _ _ _ _ _).drew.cell 2) ?_); rfl) | ((with_reducible refine Eq.trans ((Bl.keep3 (Bl.keep8 HX4.out.a.bl n3 _ _ _ _ _ _ _ _) n4 _ _ _).drew.cell 2) ?_); rfl)) (first | fail)
  go_wp2
  refine bodyPost_ret (v := .tuple #[.agg #[.int .i64 tZ.size, .int .u32 tZ.va, .int .u64 tZ.pa, .int .i64 tZ.dom, .int .i64 tZ.ap, .int .u32 tZ.bits, .bool tZ.ng, .bool tZ.xn], .agg #[.int .i64 5, .int .i64 0, .int .i64 t.dom]]) (by simp [results, Tryz.results62, go_sem, c1, f1, c2, f2, n1, n2, tZ]) rfl ⟨rfl, ?_⟩
  exact (HX4.out.fin11 A _ _ _ _ _ _ _ _ _ _ _).drew A
set_option maxRecDepth 100000 in
set_option maxHeartbeats 2000000 in
theorem second_ok {H : Nat} {M : Mo} {iv : Value} {St : List Int → (Nat → Prop) → World → Prop} (A : Asker H M iv St) (t : Ent) (va : Int) (L : List Int) (Z : Nat → Prop) (w : World) (hs : St L Z w) (hL : L.length ≤ 8) (hr : 0 ≤ t.base ∧ t.base < 4294967296) (hv : 0 ≤ va ∧ va < 4294967296) (x er : Int) (hx : M.wd (sA t va) = x) (he : M.er (sA t va) = er) (h0 : er = 0) (k1 k2 k3 : Int) (k4 : Bool) (k5 k6 : Int) (k7 k8 : Bool) (hd : D2 x = ⟨k1, k2, k3, k4, k5, k6, k7, k8⟩) (hk : ¬ k1 = 0) (u : Tra) (hu : trF ⟨k1, k2, k3, k4, k5, k6, k7, k8⟩ t.dom va = u) :
    Calls Tryz.prog 62 #[iv, .agg #[.int .i64 t.kind, .int .u64 t.base, .int .i64 t.dom, .bool t.ns, .int .i64 t.ap, .int .u32 t.bits, .bool t.ng, .bool t.xn], .int .u32 va] w fun e w' => e = .returned (.tuple #[.agg #[.int .i64 u.size, .int .u32 u.va, .int .u64 u.pa, .int .i64 u.dom, .int .i64 u.ap, .int .u32 u.bits, .bool u.ng, .bool u.xn], .agg #[.int .i64 0, .int .i64 0, .int .i64 0]]) ∧ Fin H St w Z (L ++ [sA t va]) w' := by
  have hA : 0 ≤ sA t va ∧ sA t va < 18446744073709551616 := by unfold sA; omega
  have HK : Hid (∀ (Z : Nat → Prop) (w : World), St L Z w → Calls Tryz.prog 99 #[iv, .int .u64 (sA t va)] w fun e w' => e = .returned (.tuple #[.int .u32 x, .int .i64 er]) ∧ St (L ++ [sA t va]) (gr Z w w') w' ∧ Turn (hot H Z) w w') := fun Z w h => by rw [← hx, ← he]; exact A.ask L Z w (sA t va) hL hA.1 hA.2 h
  have hx0 : 0 ≤ x ∧ x < 4294967296 := by rw [← hx]; exact A.ok _
  clear hx he
  subst h0
  have HD := hidW (fun ww ht => Decode2_any x ww ht hx0)
  rw [hd] at HD
  have HT := hidW (fun ww ht => trans_any (D2 x) t.dom va ww ht (ok_D2 x hx0).1 hv)
  rw [hd, hu] at HT
  clear hd hu
  have hq : (k1 == 0) = false := by simp [hk]
  have HX1 := hidW (F3.new A hs 140 43 88 [.int .i64 t.kind, .int .u64 t.base, .int .i64 t.dom, .bool t.ns, .int .i64 t.ap, .int .u32 t.bits, .bool t.ng, .bool t.xn] [.int .i64 0, .int .u32 0, .int .u64 0, .int .i64 0, .int .i64 0, .int .u32 0, .bool false, .bool false] [.int .i64 0, .int .i64 0, .int .i64 0])
  clear hs
  have wm : IntKind.u64.wrap (4 * (va / 4096 % 256)) = 4 * (va / 4096 % 256) := by rw [IntKind.wrap_u64]; omega
  have ws : IntKind.u64.wrap (t.base + 4 * (va / 4096 % 256)) = sA t va := by rw [IntKind.wrap_u64]; unfold sA; omega
  have tm : (va / 4096).tmod 256 = va / 4096 % 256 := Int.tmod_eq_emod_of_nonneg (by omega)
  go_enter Tryz.func62, Tryz.ntmps62
  go_wp2_with fail
  go_at_call 99
  refine (HK.out _ _ HX1.out.f.st).mono ?_
  rintro e wb ⟨rfl, hs2, T2⟩
  have HX2 := hidW (HX1.out.call hs2 T2)
  clear hs2 T2 HX1 HK
  generalize w.heap.size + 1 + 1 = z at *
  generalize w.heap.size + 1 = y at *
  go_wp2_with fail
  go_at_call 101
  refine (HD.out _ (A.tab HX2.out.f.st).r.toTD).mono ?_
  rintro e wc ⟨rfl, hb⟩
  have HX3 := hidW (HX2.out.below A hb)
  clear hb HX2 HD
  have HX4 := hidW (HX3.out.below A (below_new wc (.cells #[.int .i64 k1, .int .u64 k2, .int .i64 k3, .bool k4, .int .i64 k5, .int .u32 k6, .bool k7, .bool k8] 140)))
  have cx := HX4.out.a.bl.cell 2
  simp only [List.getElem?_cons_succ, List.getElem?_cons_zero] at cx
  go_wp2_with fail
  go_at_call 63
  refine (HT.out _ (A.tab HX4.out.f.st).r).mono ?_
  rintro e wd ⟨rfl, hb⟩
  have HX5 := hidW (HX4.out.below A hb)
  clear hb HX3 HX4 HT cx
  have c1 := HX5.out.b.bl.cell
  have f1 := HX5.out.b.bl.frozen
  have c2 := HX5.out.c.bl.cell
  have f2 := HX5.out.c.bl.frozen
  have n1 : ¬ y = z := by have := HX5.out.hz; omega
  have n2 : ¬ z = y := by have := HX5.out.hz; omega
  have n3 : ¬ w.heap.size = y := by have := HX5.out.hy; omega
  have n4 : ¬ w.heap.size = z := by have := HX5.out.hy; have := HX5.out.hz; omega
  have l1 := HX5.out.b.bl.lt
  have l2 := HX5.out.c.bl.lt
  go_wp2
  refine bodyPost_ret (v := .tuple #[.agg #[.int .i64 u.size, .int .u32 u.va, .int .u64 u.pa, .int .i64 u.dom, .int .i64 u.ap, .int .u32 u.bits, .bool u.ng, .bool u.xn], .agg #[.int .i64 0, .int .i64 0, .int .i64 0]]) (by simp [results, Tryz.results62, go_sem, c1, f1, c2, f2, n1, n2, l1, l2]) rfl ⟨rfl, ?_⟩
  exact HX5.out.fin11 A _ _ _ _ _ _ _ _ _ _ _
theorem second_any {H : Nat} {M : Mo} {iv : Value} {St : List Int → (Nat → Prop) → World → Prop} (A : Asker H M iv St) (t : Ent) (va : Int) (L : List Int) (Z : Nat → Prop) (w : World) (hs : St L Z w) (hL : L.length ≤ 8) (hr : 0 ≤ t.base ∧ t.base < 4294967296) (hv : 0 ≤ va ∧ va < 4294967296) :
    Calls Tryz.prog 62 #[iv, .agg #[.int .i64 t.kind, .int .u64 t.base, .int .i64 t.dom, .bool t.ns, .int .i64 t.ap, .int .u32 t.bits, .bool t.ng, .bool t.xn], .int .u32 va] w fun e w' => e = .returned (.tuple #[.agg #[.int .i64 ((w2 M t va).1).size, .int .u32 ((w2 M t va).1).va, .int .u64 ((w2 M t va).1).pa, .int .i64 ((w2 M t va).1).dom, .int .i64 ((w2 M t va).1).ap, .int .u32 ((w2 M t va).1).bits, .bool ((w2 M t va).1).ng, .bool ((w2 M t va).1).xn], .agg #[.int .i64 ((w2 M t va).2).k, .int .i64 ((w2 M t va).2).l, .int .i64 ((w2 M t va).2).d]]) ∧ Fin H St w Z (L ++ [sA t va]) w' := by
  unfold w2
  by_cases he : M.er (sA t va) = 0
  · by_cases hk : (D2 (M.wd (sA t va))).kind = 0
    · have h := second_zero A t va L Z w hs hL hr hv _ _ rfl rfl he (D2 (M.wd (sA t va))).kind (D2 (M.wd (sA t va))).base (D2 (M.wd (sA t va))).dom (D2 (M.wd (sA t va))).ns (D2 (M.wd (sA t va))).ap (D2 (M.wd (sA t va))).bits (D2 (M.wd (sA t va))).ng (D2 (M.wd (sA t va))).xn rfl hk
      simpa [he, hk] using h
    · have h := second_ok A t va L Z w hs hL hr hv _ _ rfl rfl he (D2 (M.wd (sA t va))).kind (D2 (M.wd (sA t va))).base (D2 (M.wd (sA t va))).dom (D2 (M.wd (sA t va))).ns (D2 (M.wd (sA t va))).ap (D2 (M.wd (sA t va))).bits (D2 (M.wd (sA t va))).ng (D2 (M.wd (sA t va))).xn rfl hk _ rfl
      simpa [he, hk, fZ] using h
  · have h := second_bus A t va L Z w hs hL hr hv _ _ rfl rfl he
    simpa [he] using h
end Go.Proofs.YtnjlajjjcmhfgaaGreatDoor
