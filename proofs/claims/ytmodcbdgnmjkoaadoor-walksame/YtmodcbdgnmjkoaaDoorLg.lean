import Derived.Test.YtmodcbdgnmjkoaaDoorLc
import Derived.Test.YtmodcbdgnmjkoaaDoorVg
namespace Go.Proofs.YtmodcbdgnmjkoaaDoor
open Go.RowKit
open Mm (Turn gr PM RM valV errV Byts setV)
set_option linter.unusedVariables false
set_option linter.unusedSimpArgs false
/-- Translations in a slice. -/
structure Tas (W : World) (a : Option Addr) (l : List Tra) : Prop where
  lies : ∀ k o, l[k]? = some o → ∃ b off, a = some ⟨b, off, none⟩ ∧ b < W.heap.size ∧ ∀ j v, ([.int .i64 o.size, .int .u32 o.va, .int .u64 o.pa, .int .i64 o.dom, .int .i64 o.ap, .int .u32 o.bits, .bool o.ng, .bool o.xn])[j]? = some v → W.cell? ⟨b, off + k * 8 + j, none⟩ = some v
  oks : ∀ o ∈ l, Fz o
theorem KL.same {W wr : World} {c : Ctx} {x B p r N : Nat} {m : Nat → Int} (h : KL W wr c x B p r N m) (ht : TS wr) (hc : c.Ok) (t : Tra) (hf : Fz t) :
    Calls Tryd.prog 27 #[.iface 30 (.pointer (some ⟨p, 0, none⟩)), .agg #[.bool c.on, .bool c.tre, .bool c.afe, .int .i64 c.n, .bool c.pd0, .bool c.pd1, .int .u64 c.b0, .int .u64 c.b1, .int .u32 c.dacr, .int .u32 c.prrr, .int .u32 c.nmrr, .int .i64 c.asid], .agg #[.int .i64 t.size, .int .u32 t.va, .int .u64 t.pa, .int .i64 t.dom, .int .i64 t.ap, .int .u32 t.bits, .bool t.ng, .bool t.xn]] wr fun e w' => e = .returned (.bool (smF (ramMo N m) c t)) ∧ Below wr.heap.size wr w' := by
  obtain ⟨S1, S2, h1, h2⟩ := h.mem
  exact sameP_any c t wr (.inl ⟨p, N, m, rfl, rfl, h1⟩) hf ht hc
theorem KL.vsame {W wr : World} {c : Ctx} {x B p r N : Nat} {m : Nat → Int} (h : KL W wr c x B p r N m) (hc : c.Ok) (t : Tra) (hf : Fz t) :
    Calls Tryd.prog 28 #[.pointer (some ⟨r, 0, none⟩), .agg #[.bool c.on, .bool c.tre, .bool c.afe, .int .i64 c.n, .bool c.pd0, .bool c.pd1, .int .u64 c.b0, .int .u64 c.b1, .int .u32 c.dacr, .int .u32 c.prrr, .int .u32 c.nmrr, .int .i64 c.asid], .agg #[.int .i64 t.size, .int .u32 t.va, .int .u64 t.pa, .int .i64 t.dom, .int .i64 t.ap, .int .u32 t.bits, .bool t.ng, .bool t.xn]] wr fun e w' => e = .returned (.bool (smF (ramMo N m) c t)) ∧ Below wr.heap.size wr w' := by
  obtain ⟨S1, S2, h1, h2⟩ := h.mem
  exact sameR_any c t wr (.inl ⟨r, N, m, rfl, rfl, h2⟩) h.tab hf hc
set_option maxRecDepth 100000 in
set_option maxHeartbeats 8000000 in
theorem law_sameW_core (W : World) (N : Nat) (h1 : 1 ≤ N) (h2 : N ≤ 65536) (a : Option Addr) (cap : Nat) (ps : List Pt) (hp : PutsAt W a ps) (hl : ps.length ≤ 9223372036854775807) (c : Ctx) (hc : c.Ok) (a2 : Option Addr) (cap2 : Nat) (vs : List Tra) (hw : Tas W a2 vs) (hl2 : vs.length ≤ 9223372036854775807) (hts : TS W) :
    Calls Tryd.prog 8 #[.int .i64 N, .slice a ps.length cap, .agg #[.bool c.on, .bool c.tre, .bool c.afe, .int .i64 c.n, .bool c.pd0, .bool c.pd1, .int .u64 c.b0, .int .u64 c.b1, .int .u32 c.dacr, .int .u32 c.prrr, .int .u32 c.nmrr, .int .i64 c.asid], .slice a2 vs.length cap2] W fun e W' => e = .returned (.bool true) ∧ Below W.heap.size W W' := by
  have HS := hidW (show PutsAt (W.alloc (.cells #[.bool c.on, .bool c.tre, .bool c.afe, .int .i64 c.n, .bool c.pd0, .bool c.pd1, .int .u64 c.b0, .int .u64 c.b1, .int .u32 c.dacr, .int .u32 c.prrr, .int .u32 c.nmrr, .int .i64 c.asid] 26)) a ps from ⟨fun k q hq => by
    obtain ⟨b, off, e, hb, e0, e1⟩ := hp.lies k q hq
    exact ⟨b, off, e, by simp; omega, ((below_new W _).cell hb).trans e0, ((below_new W _).cell hb).trans e1⟩, hp.oks⟩)
  have HW := hidW hw
  have HT := hidW hts.tw
  have HTS := hidW hts
  clear hp hw hts
  generalize hn : vs.length = n at *
  have HN := hidW hn
  clear hn
  go_enter Tryd.func8, Tryd.ntmps8
  go_wp2_with fail
  go_at_call 22
  refine (begin_ok _ N h1 h2 a cap ps HS.out hl).mono ?_
  rintro e w1 ⟨B, p, r, rfl, hB, _, htw⟩
  have HK0 := hidW (KL.new hB htw HT.out)
  clear hB htw HS HT
  generalize pm N ps ps.length = m at *
  generalize hx : W.heap.size = x at *
  have HX := hidW hx
  clear hx
  go_wp2
  go_loopw [11] (fun i wr => ∃ k : Nat, k ≤ n ∧ i = .int .i64 k ∧ Hid (KL W wr c x B p r N m)) (fun i _ => n - (intOf i).toNat)
  case atStart => exact ⟨0, Nat.zero_le _, rfl, HK0.out⟩
  case round =>
    obtain ⟨k, hk, rfl, HK⟩ := hrel
    clear HK0
    by_cases hlt : k < n
    · obtain ⟨v, hv⟩ : ∃ v, vs[k]? = some v := ⟨_, List.getElem?_eq_getElem (by rw [HN.out]; omega)⟩
      obtain ⟨g, o, rfl, hg, e0⟩ := HW.out.lies k v hv
      have hok := HW.out.oks v (List.mem_of_getElem? hv)
      have hkz : (k : Int) < (n : Int) := by omega
      have hg2 : g < wr.heap.size := Nat.lt_of_lt_of_le hg HK.out.bel.size
      clear hv
      have hS : ∀ W', Below wr.heap.size wr W' → (W'.cell? ⟨B, 0, none⟩ = some (.pointer (some ⟨p, 0, none⟩)) ∧ W'.cell? ⟨B, 1, none⟩ = some (.pointer (some ⟨r, 0, none⟩)) ∧ W'.cell? ⟨x, 0, none⟩ = some (.bool c.on) ∧ W'.cell? ⟨x, 1, none⟩ = some (.bool c.tre) ∧ W'.cell? ⟨x, 2, none⟩ = some (.bool c.afe) ∧ W'.cell? ⟨x, 3, none⟩ = some (.int .i64 c.n) ∧ W'.cell? ⟨x, 4, none⟩ = some (.bool c.pd0) ∧ W'.cell? ⟨x, 5, none⟩ = some (.bool c.pd1) ∧ W'.cell? ⟨x, 6, none⟩ = some (.int .u64 c.b0) ∧ W'.cell? ⟨x, 7, none⟩ = some (.int .u64 c.b1) ∧ W'.cell? ⟨x, 8, none⟩ = some (.int .u32 c.dacr) ∧ W'.cell? ⟨x, 9, none⟩ = some (.int .u32 c.prrr) ∧ W'.cell? ⟨x, 10, none⟩ = some (.int .u32 c.nmrr) ∧ W'.cell? ⟨x, 11, none⟩ = some (.int .i64 c.asid) ∧ W'.cell? ⟨g, o + k * 8, none⟩ = some (.int .i64 v.size) ∧ W'.cell? ⟨g, o + k * 8 + 1, none⟩ = some (.int .u32 v.va) ∧ W'.cell? ⟨g, o + k * 8 + 2, none⟩ = some (.int .u64 v.pa) ∧ W'.cell? ⟨g, o + k * 8 + 3, none⟩ = some (.int .i64 v.dom) ∧ W'.cell? ⟨g, o + k * 8 + 4, none⟩ = some (.int .i64 v.ap) ∧ W'.cell? ⟨g, o + k * 8 + 5, none⟩ = some (.int .u32 v.bits) ∧ W'.cell? ⟨g, o + k * 8 + 6, none⟩ = some (.bool v.ng) ∧ W'.cell? ⟨g, o + k * 8 + 7, none⟩ = some (.bool v.xn)) := fun W' hb => ⟨((HK.out.below hb).B.cell 0), ((HK.out.below hb).B.cell 1), ((HK.out.below hb).C.cell 0), ((HK.out.below hb).C.cell 1), ((HK.out.below hb).C.cell 2), ((HK.out.below hb).C.cell 3), ((HK.out.below hb).C.cell 4), ((HK.out.below hb).C.cell 5), ((HK.out.below hb).C.cell 6), ((HK.out.below hb).C.cell 7), ((HK.out.below hb).C.cell 8), ((HK.out.below hb).C.cell 9), ((HK.out.below hb).C.cell 10), ((HK.out.below hb).C.cell 11), (((HK.out.below hb).bel.cell hg).trans (e0 0 _ rfl)), (((HK.out.below hb).bel.cell hg).trans (e0 1 _ rfl)), (((HK.out.below hb).bel.cell hg).trans (e0 2 _ rfl)), (((HK.out.below hb).bel.cell hg).trans (e0 3 _ rfl)), (((HK.out.below hb).bel.cell hg).trans (e0 4 _ rfl)), (((HK.out.below hb).bel.cell hg).trans (e0 5 _ rfl)), (((HK.out.below hb).bel.cell hg).trans (e0 6 _ rfl)), (((HK.out.below hb).bel.cell hg).trans (e0 7 _ rfl))⟩
      have HC1 := hidW (fun ww (hb : Below wr.heap.size wr ww) => (HK.out.below hb).same (HTS.out.below ((HK.out.below hb).bel)) hc v hok)
      have HC2 := hidW (fun ww (hb : Below wr.heap.size wr ww) => (HK.out.below hb).vsame hc v hok)
      generalize smF (ramMo N m) c v = l at *
      have HB1 := hidW (Below.refl wr.heap.size wr)
      have hs1 := HB1.out.size
      clear e0
      go_wp2
      go_region_held3 (fun w' => w'.cell? ⟨B, 0, none⟩ = some (.pointer (some ⟨p, 0, none⟩)) ∧ w'.cell? ⟨B, 1, none⟩ = some (.pointer (some ⟨r, 0, none⟩)) ∧ w'.cell? ⟨x, 0, none⟩ = some (.bool c.on) ∧ w'.cell? ⟨x, 1, none⟩ = some (.bool c.tre) ∧ w'.cell? ⟨x, 2, none⟩ = some (.bool c.afe) ∧ w'.cell? ⟨x, 3, none⟩ = some (.int .i64 c.n) ∧ w'.cell? ⟨x, 4, none⟩ = some (.bool c.pd0) ∧ w'.cell? ⟨x, 5, none⟩ = some (.bool c.pd1) ∧ w'.cell? ⟨x, 6, none⟩ = some (.int .u64 c.b0) ∧ w'.cell? ⟨x, 7, none⟩ = some (.int .u64 c.b1) ∧ w'.cell? ⟨x, 8, none⟩ = some (.int .u32 c.dacr) ∧ w'.cell? ⟨x, 9, none⟩ = some (.int .u32 c.prrr) ∧ w'.cell? ⟨x, 10, none⟩ = some (.int .u32 c.nmrr) ∧ w'.cell? ⟨x, 11, none⟩ = some (.int .i64 c.asid) ∧ w'.cell? ⟨g, o + k * 8, none⟩ = some (.int .i64 v.size) ∧ w'.cell? ⟨g, o + k * 8 + 1, none⟩ = some (.int .u32 v.va) ∧ w'.cell? ⟨g, o + k * 8 + 2, none⟩ = some (.int .u64 v.pa) ∧ w'.cell? ⟨g, o + k * 8 + 3, none⟩ = some (.int .i64 v.dom) ∧ w'.cell? ⟨g, o + k * 8 + 4, none⟩ = some (.int .i64 v.ap) ∧ w'.cell? ⟨g, o + k * 8 + 5, none⟩ = some (.int .u32 v.bits) ∧ w'.cell? ⟨g, o + k * 8 + 6, none⟩ = some (.bool v.ng) ∧ w'.cell? ⟨g, o + k * 8 + 7, none⟩ = some (.bool v.xn)) (exact hS _ (by ((repeat (first | (with_reducible refine Below.setCell ?_ (by first | exact Nat.le_refl _ | (dsimp only; omega)) _) | (with_reducible refine Below.alloc ?_ (by first | omega | (simp; omega) | simp) _) | (with_reducible refine below_drew ?_))); (first | (with_reducible exact HB1.out) | (with_reducible exact Below.refl _ _))))) (first
        | (go_at_call 27; refine (HC1.out _ (by ((repeat (first | (with_reducible refine Below.setCell ?_ (by first | exact Nat.le_refl _ | (dsimp only; omega)) _) | (with_reducible refine Below.alloc ?_ (by first | omega | (simp; omega) | simp) _) | (with_reducible refine below_drew ?_))); (first | (with_reducible exact HB1.out) | (with_reducible exact Below.refl _ _))))).mono ?_; rintro e w2 ⟨rfl, hb⟩; have HB2 : Hid (Below wr.heap.size wr w2) := Below.step (by ((repeat (first | (with_reducible refine Below.setCell ?_ (by first | exact Nat.le_refl _ | (dsimp only; omega)) _) | (with_reducible refine Below.alloc ?_ (by first | omega | (simp; omega) | simp) _) | (with_reducible refine below_drew ?_))); (first | (with_reducible exact HB1.out) | (with_reducible exact Below.refl _ _)))) hb; have HB1 := HB2; have hs1 := HB1.out.size; clear hb)
        | (go_at_call 28; refine (HC2.out _ (by ((repeat (first | (with_reducible refine Below.setCell ?_ (by first | exact Nat.le_refl _ | (dsimp only; omega)) _) | (with_reducible refine Below.alloc ?_ (by first | omega | (simp; omega) | simp) _) | (with_reducible refine below_drew ?_))); (first | (with_reducible exact HB1.out) | (with_reducible exact Below.refl _ _))))).mono ?_; rintro e w3 ⟨rfl, hb⟩; have HB2 : Hid (Below wr.heap.size wr w3) := Below.step (by ((repeat (first | (with_reducible refine Below.setCell ?_ (by first | exact Nat.le_refl _ | (dsimp only; omega)) _) | (with_reducible refine Below.alloc ?_ (by first | omega | (simp; omega) | simp) _) | (with_reducible refine below_drew ?_))); (first | (with_reducible exact HB1.out) | (with_reducible exact Below.refl _ _)))) hb; have HB1 := HB2; have hs1 := HB1.out.size; clear hb))
      have HK3 := hidW (HK.out.below HB1.out)
      clear HK HC1 HC2 hS HB1 hs1
      go_wp2
      go_roundw
      case rel => exact ⟨k + 1, by omega, by go_num, HK3.out⟩
      case measure => simp [intOf]; omega
    · obtain rfl : k = n := by omega
      have HB := hidW HK.out.bel
      clear HK
      go_wp2
      go_ret
      exact ⟨rfl, HB.out⟩
set_option maxRecDepth 100000 in
theorem law_sameW_bad (W : World) (f : Int) (hf : f < 1 ∨ 65536 < f) (s s2 : Value) (c : Ctx) :
    Calls Tryd.prog 8 #[.int .i64 f, s, .agg #[.bool c.on, .bool c.tre, .bool c.afe, .int .i64 c.n, .bool c.pd0, .bool c.pd1, .int .u64 c.b0, .int .u64 c.b1, .int .u32 c.dacr, .int .u32 c.prrr, .int .u32 c.nmrr, .int .i64 c.asid], s2] W fun e W' => e = .returned (.bool true) ∧ Below W.heap.size W W' := by
  have HB := hidW (fun ww => begin_bad ww f s hf)
  have HE := hidW (below_new W (.cells #[.bool c.on, .bool c.tre, .bool c.afe, .int .i64 c.n, .bool c.pd0, .bool c.pd1, .int .u64 c.b0, .int .u64 c.b1, .int .u32 c.dacr, .int .u32 c.prrr, .int .u32 c.nmrr, .int .i64 c.asid] 26))
  clear hf
  go_enter Tryd.func8, Tryd.ntmps8
  go_wp2_with fail
  go_at_call 22
  refine (HB.out _).mono ?_
  rintro e w1 ⟨rfl, rfl⟩
  go_wp2
  go_ret
  exact ⟨rfl, HE.out⟩
theorem law_sameW (W : World) (f : Int) (a : Option Addr) (cap : Nat) (ps : List Pt) (hp : PutsAt W a ps) (hl : ps.length ≤ 9223372036854775807) (c : Ctx) (hc : c.Ok) (a2 : Option Addr) (cap2 : Nat) (vs : List Tra) (hw : Tas W a2 vs) (hl2 : vs.length ≤ 9223372036854775807) (ht : TS W) :
    Calls Tryd.prog 8 #[.int .i64 f, .slice a ps.length cap, .agg #[.bool c.on, .bool c.tre, .bool c.afe, .int .i64 c.n, .bool c.pd0, .bool c.pd1, .int .u64 c.b0, .int .u64 c.b1, .int .u32 c.dacr, .int .u32 c.prrr, .int .u32 c.nmrr, .int .i64 c.asid], .slice a2 vs.length cap2] W fun e W' => e = .returned (.bool true) ∧ Below W.heap.size W W' := by
  by_cases hf : f < 1 ∨ 65536 < f
  · exact law_sameW_bad W f hf _ _ c
  · obtain ⟨N, rfl⟩ : ∃ N : Nat, f = N := ⟨f.toNat, by omega⟩
    exact law_sameW_core W N (by omega) (by omega) a cap ps hp hl c hc a2 cap2 vs hw hl2 ht
end Go.Proofs.YtmodcbdgnmjkoaaDoor
