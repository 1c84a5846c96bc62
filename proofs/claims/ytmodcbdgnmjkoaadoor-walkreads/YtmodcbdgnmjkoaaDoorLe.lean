import Derived.Test.YtmodcbdgnmjkoaaDoorLc
namespace Go.Proofs.YtmodcbdgnmjkoaaDoor
open Go.RowKit
open Mm (Turn gr PM RM valV errV Byts setV)
set_option linter.unusedVariables false
set_option linter.unusedSimpArgs false
theorem rdL_len (M : Mo) (c : Ctx) (va : Int) : (rdL M c va).length ≤ 2 := by
  have hr1 : (r1 c va).length ≤ 1 := by unfold r1; split <;> simp
  unfold rdL
  split
  · split
    · rw [List.length_append]; simp; omega
    · omega
  · simp
theorem KL.reads {W wr : World} {c : Ctx} {x B p r N : Nat} {m : Nat → Int} (h : KL W wr c x B p r N m) (hc : c.Ok) (va : Int) (hv : 0 ≤ va ∧ va < 4294967296) :
    Calls Tryd.prog 12 #[.iface 30 (.pointer (some ⟨p, 0, none⟩)), .agg #[.bool c.on, .bool c.tre, .bool c.afe, .int .i64 c.n, .bool c.pd0, .bool c.pd1, .int .u64 c.b0, .int .u64 c.b1, .int .u32 c.dacr, .int .u32 c.prrr, .int .u32 c.nmrr, .int .i64 c.asid], .int .u32 va] wr fun e w' => ∃ v, e = .returned v ∧ Us w' v (rdL (ramMo N m) c va) ∧ Below wr.heap.size wr w' := by
  obtain ⟨S1, S2, h1, h2⟩ := h.mem
  exact reads_any c va wr (.inl ⟨p, N, m, rfl, rfl, h1⟩) h.tab hc hv
theorem KL.vreads {W wr : World} {c : Ctx} {x B p r N : Nat} {m : Nat → Int} (h : KL W wr c x B p r N m) (hc : c.Ok) (va : Int) (hv : 0 ≤ va ∧ va < 4294967296) :
    Calls Tryd.prog 25 #[.pointer (some ⟨r, 0, none⟩), .agg #[.bool c.on, .bool c.tre, .bool c.afe, .int .i64 c.n, .bool c.pd0, .bool c.pd1, .int .u64 c.b0, .int .u64 c.b1, .int .u32 c.dacr, .int .u32 c.prrr, .int .u32 c.nmrr, .int .i64 c.asid], .int .u32 va] wr fun e w' => ∃ v, e = .returned v ∧ Us w' v (rdL (ramMo N m) c va) ∧ Below wr.heap.size wr w' := by
  obtain ⟨S1, S2, h1, h2⟩ := h.mem
  exact vreads_any c va wr (.inl ⟨r, N, m, rfl, rfl, h2⟩) h.tab hc hv
set_option maxRecDepth 100000 in
set_option maxHeartbeats 8000000 in
theorem law_readsW_core (W : World) (N : Nat) (h1 : 1 ≤ N) (h2 : N ≤ 65536) (a : Option Addr) (cap : Nat) (ps : List Pt) (hp : PutsAt W a ps) (hl : ps.length ≤ 9223372036854775807) (c : Ctx) (hc : c.Ok) (a2 : Option Addr) (cap2 : Nat) (vs : List Int) (hw : Ws W a2 vs) (hl2 : vs.length ≤ 9223372036854775807) (ht : TW W) :
    Calls Tryd.prog 6 #[.int .i64 N, .slice a ps.length cap, .agg #[.bool c.on, .bool c.tre, .bool c.afe, .int .i64 c.n, .bool c.pd0, .bool c.pd1, .int .u64 c.b0, .int .u64 c.b1, .int .u32 c.dacr, .int .u32 c.prrr, .int .u32 c.nmrr, .int .i64 c.asid], .slice a2 vs.length cap2] W fun e W' => e = .returned (.bool true) ∧ Below W.heap.size W W' := by
  have HS := hidW (show PutsAt (W.alloc (.cells #[.bool c.on, .bool c.tre, .bool c.afe, .int .i64 c.n, .bool c.pd0, .bool c.pd1, .int .u64 c.b0, .int .u64 c.b1, .int .u32 c.dacr, .int .u32 c.prrr, .int .u32 c.nmrr, .int .i64 c.asid] 26)) a ps from ⟨fun k q hq => by
    obtain ⟨b, off, e, hb, e0, e1⟩ := hp.lies k q hq
    exact ⟨b, off, e, by simp; omega, ((below_new W _).cell hb).trans e0, ((below_new W _).cell hb).trans e1⟩, hp.oks⟩)
  have HW := hidW hw
  have HT := hidW ht
  clear hp hw ht
  generalize hn : vs.length = n at *
  have HN := hidW hn
  clear hn
  go_enter Tryd.func6, Tryd.ntmps6
  go_wp2_with fail
  go_at_call 22
  refine (begin_ok _ N h1 h2 a cap ps HS.out hl).mono ?_
  rintro e w1 ⟨B, p, r, rfl, hB, _, htw⟩
  have HK0 := hidW (KL.new hB htw HT.out)
  clear hB htw HS HT
  generalize pm N ps ps.length = m at *
  generalize hx : W.heap.size = x at *
  have HX := hidW hx
  clear hx
  go_wp2
  go_loopw [11] (fun i wr => ∃ k : Nat, k ≤ n ∧ i = .int .i64 k ∧ Hid (KL W wr c x B p r N m)) (fun i _ => n - (intOf i).toNat)
  case atStart => exact ⟨0, Nat.zero_le _, rfl, HK0.out⟩
  case round =>
    obtain ⟨k, hk, rfl, HK⟩ := hrel
    clear HK0
    by_cases hlt : k < n
    · obtain ⟨v, hv⟩ : ∃ v, vs[k]? = some v := ⟨_, List.getElem?_eq_getElem (by rw [HN.out]; omega)⟩
      obtain ⟨g, o, rfl, hg, e0⟩ := HW.out.lies k v hv
      have hok := HW.out.oks v (List.mem_of_getElem? hv)
      have hkz : (k : Int) < (n : Int) := by omega
      have d0 : wr.cell? ⟨g, o + k, none⟩ = some (.int .u32 v) := (HK.out.bel.cell hg).trans e0
      have hg2 : g < wr.heap.size := cell_lt d0
      clear hv
      have hS : ∀ W', Below wr.heap.size wr W' → (W'.cell? ⟨B, 0, none⟩ = some (.pointer (some ⟨p, 0, none⟩)) ∧ W'.cell? ⟨B, 1, none⟩ = some (.pointer (some ⟨r, 0, none⟩)) ∧ W'.cell? ⟨x, 0, none⟩ = some (.bool c.on) ∧ W'.cell? ⟨x, 1, none⟩ = some (.bool c.tre) ∧ W'.cell? ⟨x, 2, none⟩ = some (.bool c.afe) ∧ W'.cell? ⟨x, 3, none⟩ = some (.int .i64 c.n) ∧ W'.cell? ⟨x, 4, none⟩ = some (.bool c.pd0) ∧ W'.cell? ⟨x, 5, none⟩ = some (.bool c.pd1) ∧ W'.cell? ⟨x, 6, none⟩ = some (.int .u64 c.b0) ∧ W'.cell? ⟨x, 7, none⟩ = some (.int .u64 c.b1) ∧ W'.cell? ⟨x, 8, none⟩ = some (.int .u32 c.dacr) ∧ W'.cell? ⟨x, 9, none⟩ = some (.int .u32 c.prrr) ∧ W'.cell? ⟨x, 10, none⟩ = some (.int .u32 c.nmrr) ∧ W'.cell? ⟨x, 11, none⟩ = some (.int .i64 c.asid) ∧ W'.cell? ⟨g, o + k, none⟩ = some (.int .u32 v)) := fun W' hb => ⟨((HK.out.below hb).B.cell 0), ((HK.out.below hb).B.cell 1), ((HK.out.below hb).C.cell 0), ((HK.out.below hb).C.cell 1), ((HK.out.below hb).C.cell 2), ((HK.out.below hb).C.cell 3), ((HK.out.below hb).C.cell 4), ((HK.out.below hb).C.cell 5), ((HK.out.below hb).C.cell 6), ((HK.out.below hb).C.cell 7), ((HK.out.below hb).C.cell 8), ((HK.out.below hb).C.cell 9), ((HK.out.below hb).C.cell 10), ((HK.out.below hb).C.cell 11), (hb.cell hg2).trans d0⟩
      have HC1 := hidW (fun ww (hb : Below wr.heap.size wr ww) => (HK.out.below hb).reads hc v hok)
      have HC2 := hidW (fun ww (hb : Below wr.heap.size wr ww) => (HK.out.below hb).vreads hc v hok)
      have HL : Hid ((rdL (ramMo N m) c v).length ≤ 9223372036854775807) := by have := rdL_len (ramMo N m) c v; show _ ≤ _; omega
      generalize rdL (ramMo N m) c v = l at *
      have HB1 := hidW (Below.refl wr.heap.size wr)
      have hs1 := HB1.out.size
      go_wp2
      go_region_held3 (fun w' => w'.cell? ⟨B, 0, none⟩ = some (.pointer (some ⟨p, 0, none⟩)) ∧ w'.cell? ⟨B, 1, none⟩ = some (.pointer (some ⟨r, 0, none⟩)) ∧ w'.cell? ⟨x, 0, none⟩ = some (.bool c.on) ∧ w'.cell? ⟨x, 1, none⟩ = some (.bool c.tre) ∧ w'.cell? ⟨x, 2, none⟩ = some (.bool c.afe) ∧ w'.cell? ⟨x, 3, none⟩ = some (.int .i64 c.n) ∧ w'.cell? ⟨x, 4, none⟩ = some (.bool c.pd0) ∧ w'.cell? ⟨x, 5, none⟩ = some (.bool c.pd1) ∧ w'.cell? ⟨x, 6, none⟩ = some (.int .u64 c.b0) ∧ w'.cell? ⟨x, 7, none⟩ = some (.int .u64 c.b1) ∧ w'.cell? ⟨x, 8, none⟩ = some (.int .u32 c.dacr) ∧ w'.cell? ⟨x, 9, none⟩ = some (.int .u32 c.prrr) ∧ w'.cell? ⟨x, 10, none⟩ = some (.int .u32 c.nmrr) ∧ w'.cell? ⟨x, 11, none⟩ = some (.int .i64 c.asid) ∧ w'.cell? ⟨g, o + k, none⟩ = some (.int .u32 v)) (exact hS _ (by ((repeat (first | (with_reducible refine Below.setCell ?_ (by first | exact Nat.le_refl _ | (dsimp only; omega)) _) | (with_reducible refine Below.alloc ?_ (by first | omega | (simp; omega) | simp) _) | (with_reducible refine below_drew ?_))); (first | (with_reducible exact HB1.out) | (with_reducible exact Below.refl _ _))))) (first
        | (go_at_call 12; refine (HC1.out _ (by ((repeat (first | (with_reducible refine Below.setCell ?_ (by first | exact Nat.le_refl _ | (dsimp only; omega)) _) | (with_reducible refine Below.alloc ?_ (by first | omega | (simp; omega) | simp) _) | (with_reducible refine below_drew ?_))); (first | (with_reducible exact HB1.out) | (with_reducible exact Below.refl _ _))))).mono ?_; rintro e w2 ⟨v1, rfl, hu, hb⟩; have HU := hidW hu; have HB2 : Hid (Below wr.heap.size wr w2) := Below.step (by ((repeat (first | (with_reducible refine Below.setCell ?_ (by first | exact Nat.le_refl _ | (dsimp only; omega)) _) | (with_reducible refine Below.alloc ?_ (by first | omega | (simp; omega) | simp) _) | (with_reducible refine below_drew ?_))); (first | (with_reducible exact HB1.out) | (with_reducible exact Below.refl _ _)))) hb; have HB1 := HB2; have hs1 := HB1.out.size; clear hb hu)
        | (go_at_call 25; refine (HC2.out _ (by ((repeat (first | (with_reducible refine Below.setCell ?_ (by first | exact Nat.le_refl _ | (dsimp only; omega)) _) | (with_reducible refine Below.alloc ?_ (by first | omega | (simp; omega) | simp) _) | (with_reducible refine below_drew ?_))); (first | (with_reducible exact HB1.out) | (with_reducible exact Below.refl _ _))))).mono ?_; rintro e w3 ⟨v2, rfl, hu, hb⟩; have HU1 := hidW (HU.out.below hb); have HU2 := hidW hu; have HB2 : Hid (Below wr.heap.size wr w3) := Below.step (by ((repeat (first | (with_reducible refine Below.setCell ?_ (by first | exact Nat.le_refl _ | (dsimp only; omega)) _) | (with_reducible refine Below.alloc ?_ (by first | omega | (simp; omega) | simp) _) | (with_reducible refine below_drew ?_))); (first | (with_reducible exact HB1.out) | (with_reducible exact Below.refl _ _)))) hb; have HB1 := HB2; have hs1 := HB1.out.size; clear hb hu)
        | (go_at_call 24; refine (same_any _ HU1.out HU2.out HL.out).mono ?_; rintro e w4 ⟨rfl, q, rfl⟩; have HB2 : Hid (Below wr.heap.size wr (w3.drewN q)) := below_drewN HB1.out q; have HB1 := HB2; have hs1 := HB1.out.size))
      have HK3 := hidW (HK.out.below HB1.out)
      clear HK HC1 HC2 hS HB1 hs1 HU HU1 HU2 HL
      go_wp2
      go_roundw
      case rel => exact ⟨k + 1, by omega, by go_num, HK3.out⟩
      case measure => simp [intOf]; omega
    · obtain rfl : k = n := by omega
      have HB := hidW HK.out.bel
      clear HK
      go_wp2
      go_ret
      exact ⟨rfl, HB.out⟩
set_option maxRecDepth 100000 in
theorem law_readsW_bad (W : World) (f : Int) (hf : f < 1 ∨ 65536 < f) (s s2 : Value) (c : Ctx) :
    Calls Tryd.prog 6 #[.int .i64 f, s, .agg #[.bool c.on, .bool c.tre, .bool c.afe, .int .i64 c.n, .bool c.pd0, .bool c.pd1, .int .u64 c.b0, .int .u64 c.b1, .int .u32 c.dacr, .int .u32 c.prrr, .int .u32 c.nmrr, .int .i64 c.asid], s2] W fun e W' => e = .returned (.bool true) ∧ Below W.heap.size W W' := by
  have HB := hidW (fun ww => begin_bad ww f s hf)
  have HE := hidW (below_new W (.cells #[.bool c.on, .bool c.tre, .bool c.afe, .int .i64 c.n, .bool c.pd0, .bool c.pd1, .int .u64 c.b0, .int .u64 c.b1, .int .u32 c.dacr, .int .u32 c.prrr, .int .u32 c.nmrr, .int .i64 c.asid] 26))
  clear hf
  go_enter Tryd.func6, Tryd.ntmps6
  go_wp2_with fail
  go_at_call 22
  refine (HB.out _).mono ?_
  rintro e w1 ⟨rfl, rfl⟩
  go_wp2
  go_ret
  exact ⟨rfl, HE.out⟩
theorem law_readsW (W : World) (f : Int) (a : Option Addr) (cap : Nat) (ps : List Pt) (hp : PutsAt W a ps) (hl : ps.length ≤ 9223372036854775807) (c : Ctx) (hc : c.Ok) (a2 : Option Addr) (cap2 : Nat) (vs : List Int) (hw : Ws W a2 vs) (hl2 : vs.length ≤ 9223372036854775807) (ht : TW W) :
    Calls Tryd.prog 6 #[.int .i64 f, .slice a ps.length cap, .agg #[.bool c.on, .bool c.tre, .bool c.afe, .int .i64 c.n, .bool c.pd0, .bool c.pd1, .int .u64 c.b0, .int .u64 c.b1, .int .u32 c.dacr, .int .u32 c.prrr, .int .u32 c.nmrr, .int .i64 c.asid], .slice a2 vs.length cap2] W fun e W' => e = .returned (.bool true) ∧ Below W.heap.size W W' := by
  by_cases hf : f < 1 ∨ 65536 < f
  · exact law_readsW_bad W f hf _ _ c
  · obtain ⟨N, rfl⟩ : ∃ N : Nat, f = N := ⟨f.toNat, by omega⟩
    exact law_readsW_core W N (by omega) (by omega) a cap ps hp hl c hc a2 cap2 vs hw hl2 ht
end Go.Proofs.YtmodcbdgnmjkoaaDoor
