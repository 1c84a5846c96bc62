import Derived.Test.YtmodcbdgnmjkoaaDoorLi
namespace Go.Proofs.YtmodcbdgnmjkoaaDoor
open Go.RowKit
open Mm (Turn gr PM RM valV errV Byts setV)
set_option linter.unusedVariables false
set_option linter.unusedSimpArgs false
theorem PutsAt.below {W W' : World} {a : Option Addr} {ps : List Pt} (h : PutsAt W a ps) (hb : Below W.heap.size W W') : PutsAt W' a ps :=
  ⟨fun k q hq => by
    obtain ⟨b, off, e, hl, e0, e1⟩ := h.lies k q hq
    exact ⟨b, off, e, Nat.lt_of_lt_of_le hl hb.size, (hb.cell hl).trans e0, (hb.cell hl).trans e1⟩, h.oks⟩
theorem rdL_len2 (M : Mo) (c : Ctx) (va : Int) : (rdL M c va).length ≤ 2 := by
  have hr1 : (r1 c va).length ≤ 1 := by unfold r1; split <;> simp
  unfold rdL
  split
  · split
    · rw [List.length_append]; simp; omega
    · omega
  · simp
theorem EK.new {W w1 w2 : World} {c : Ctx} {q : Pt} {p N : Nat} {m : Nat → Int} (hT : TW W) (hb : Below ((W.alloc (.cells #[.bool c.on, .bool c.tre, .bool c.afe, .int .i64 c.n, .bool c.pd0, .bool c.pd1, .int .u64 c.b0, .int .u64 c.b1, .int .u32 c.dacr, .int .u32 c.prrr, .int .u32 c.nmrr, .int .i64 c.asid] 26)).alloc (.cells #[.int .u64 q.pa, .int .u32 q.w] 28)).heap.size ((W.alloc (.cells #[.bool c.on, .bool c.tre, .bool c.afe, .int .i64 c.n, .bool c.pd0, .bool c.pd1, .int .u64 c.b0, .int .u64 c.b1, .int .u32 c.dacr, .int .u32 c.prrr, .int .u32 c.nmrr, .int .i64 c.asid] 26)).alloc (.cells #[.int .u64 q.pa, .int .u32 q.w] 28)) w1) (h : One w1 w2 p N m) :
    ∃ S, EK W w2 S c q W.heap.size (W.heap.size + 1) p N m := by
  obtain ⟨⟨S1, h1, h4⟩, h6⟩ := h
  have b0 : Below W.heap.size W ((W.alloc (.cells #[.bool c.on, .bool c.tre, .bool c.afe, .int .i64 c.n, .bool c.pd0, .bool c.pd1, .int .u64 c.b0, .int .u64 c.b1, .int .u32 c.dacr, .int .u32 c.prrr, .int .u32 c.nmrr, .int .i64 c.asid] 26)).alloc (.cells #[.int .u64 q.pa, .int .u32 q.w] 28)) := Below.step (below_new _ _) (below_new _ _)
  have b1 : Below W.heap.size W w1 := Below.step b0 hb
  have hs : ((W.alloc (.cells #[.bool c.on, .bool c.tre, .bool c.afe, .int .i64 c.n, .bool c.pd0, .bool c.pd1, .int .u64 c.b0, .int .u64 c.b1, .int .u32 c.dacr, .int .u32 c.prrr, .int .u32 c.nmrr, .int .i64 c.asid] 26)).alloc (.cells #[.int .u64 q.pa, .int .u32 q.w] 28)).heap.size = W.heap.size + 1 + 1 := by simp
  have hz := hb.size
  rw [hs] at hz
  refine ⟨S1, ⟨h1, fun b hb' => ?_, fun b hb' => hT.low hb', Below.step b1 h6, ⟨?_, ?_⟩, ⟨?_, ?_⟩, (hT.below b1).below h6⟩⟩
  · have := h4 b hb'; omega
  · exact (((Bl.new W 26 [.bool c.on, .bool c.tre, .bool c.afe, .int .i64 c.n, .bool c.pd0, .bool c.pd1, .int .u64 c.b0, .int .u64 c.b1, .int .u32 c.dacr, .int .u32 c.prrr, .int .u32 c.nmrr, .int .i64 c.asid]).below (below_new _ _)).below hb).below h6
  · intro hx; have := h4 _ hx; omega
  · exact ((Bl.new1 W _ 28 [.int .u64 q.pa, .int .u32 q.w]).below hb).below h6
  · intro hx; have := h4 _ hx; omega
theorem edit_tail {N : Nat} {m : Nat → Int} {c : Ctx} {va : Int} (hB : Byts m) (hc : c.Ok) (hv : 0 ≤ va ∧ va < 4294967296) (hon : c.on = true) (hO : fO c va = true) :
    (rdL (ramMo N m) c va = [fA c va] ∧ (errV N (fA c va) 4 = 0 → wk (ramMo N (putM N m (fA c va) 0)) c va = (tZ, ⟨3, 0, 0⟩) ∧ wk (ramMo N (putM N (putM N m (fA c va) 0) (fA c va) 3074)) c va = (⟨3, va / 1048576 * 1048576, 0, 0, 3, 0, false, false⟩, fZ))) ∨
    ∃ s, rdL (ramMo N m) c va = [fA c va, s] ∧ (0 ≤ s ∧ s < 18446744073709551616) ∧ errV N (fA c va) 4 = 0 ∧ (errV N s 4 = 0 → wk (ramMo N (putM N (putM N m s 0) (fA c va) 3074)) c va = (⟨3, va / 1048576 * 1048576, 0, 0, 3, 0, false, false⟩, fZ) ∧
      ((fA c va = s ∧ wk (ramMo N (putM N m s 0)) c va = (tZ, ⟨3, 0, 0⟩)) ∨ (fA c va ≠ s ∧ ∃ d, wk (ramMo N (putM N m s 0)) c va = (tZ, ⟨5, 0, d⟩)))) := by
  have hf := (fA_rng c va hc hv).1
  have hr1 : r1 c va = [fA c va] := by simp [r1, hO]
  by_cases hk : (w1 (ramMo N m) c va).2.k = 0 ∧ (w1 (ramMo N m) c va).1.kind = 1
  · right
    obtain ⟨ho, hef, hw, hz⟩ := w1_kind hk.1
    have hk1 : (D1 ((ramMo N m).wd (fA c va))).kind = 1 := by have := hk.2; rw [hw] at this; exact this
    have hs := sA_rng (ramMo_ok (N := N) hB (fA c va)) hk1 hv.1
    have hsa : sA (w1 (ramMo N m) c va).1 va = sA (D1 ((ramMo N m).wd (fA c va))) va := by rw [hw]
    rw [← hsa] at hs
    refine ⟨sA (w1 (ramMo N m) c va).1 va, ?_, ⟨hs.1, by omega⟩, hef, fun he => ⟨edit_sec hon hO hf hef, ?_⟩⟩
    · unfold rdL
      rw [if_pos hon, if_pos hk, hr1]
      rfl
    · by_cases hfs : fA c va = sA (w1 (ramMo N m) c va).1 va
      · refine .inl ⟨hfs, ?_⟩
        rw [← hfs]
        exact edit_zero1 hon hO hf hef
      · exact .inr ⟨hfs, edit_zero2 hB hc hv hon hk.1 hk.2 hfs he⟩
  · left
    refine ⟨?_, fun he => ⟨edit_zero1 hon hO hf he, edit_sec hon hO hf he⟩⟩
    unfold rdL
    rw [if_pos hon, if_neg hk, hr1]
set_option maxRecDepth 100000 in
theorem law_edit_bad (W : World) (ht : TW W) (f : Int) (hf : f < 1 ∨ 65536 < f) (s : Value) (c : Ctx) (va : Int) (q : Pt) :
    Calls Tryd.prog 3 #[.int .i64 f, s, .agg #[.bool c.on, .bool c.tre, .bool c.afe, .int .i64 c.n, .bool c.pd0, .bool c.pd1, .int .u64 c.b0, .int .u64 c.b1, .int .u32 c.dacr, .int .u32 c.prrr, .int .u32 c.nmrr, .int .i64 c.asid], .int .u32 va, .agg #[.int .u64 q.pa, .int .u32 q.w]] W fun e W' => e = .returned (.bool true) ∧ Below W.heap.size W W' := by
  have HB0 := hidW (Below.step (below_new W (.cells #[.bool c.on, .bool c.tre, .bool c.afe, .int .i64 c.n, .bool c.pd0, .bool c.pd1, .int .u64 c.b0, .int .u64 c.b1, .int .u32 c.dacr, .int .u32 c.prrr, .int .u32 c.nmrr, .int .i64 c.asid] 26)) (below_new _ (.cells #[.int .u64 q.pa, .int .u32 q.w] 28)))
  have HA := hidW (alive_any _ (ht.below HB0.out))
  have HM := hidW (fun ww => made_bad ww f s hf)
  have hq : ((decide (f < 1)) || (decide (65536 < f))) = true := by rcases hf with h | h <;> simp [h]
  have hd : decide (f < 1) = true ∨ (decide (f < 1) = false ∧ decide (65536 < f) = true) := by
    by_cases h : f < 1
    · exact .inl (by simp [h])
    · exact .inr ⟨by simp [h], by simp; omega⟩
  clear hf ht hq
  rcases hd with h1 | ⟨h1, h2⟩
  all_goals
    go_enter Tryd.func3, Tryd.ntmps3
    go_wp2_with fail
    go_at_call 9
    refine HA.out.mono ?_
    rintro e w1 ⟨rfl, hb⟩
    have HE := hidW (Below.step HB0.out hb)
    clear hb HA HB0
    go_wp2_with fail
    go_at_call 10
    refine (HM.out _).mono ?_
    rintro e w2 ⟨rfl, rfl⟩
    clear HM
    go_wp2
    go_ret
    exact ⟨rfl, HE.out⟩
set_option maxRecDepth 100000 in
set_option maxHeartbeats 8000000 in
theorem law_edit_core (W : World) (N : Nat) (h1 : 1 ≤ N) (h2 : N ≤ 65536) (a : Option Addr) (cap : Nat) (ps : List Pt) (hp : PutsAt W a ps) (hl : ps.length ≤ 9223372036854775807) (c : Ctx) (hc : c.Ok) (va : Int) (hv : 0 ≤ va ∧ va < 4294967296) (q : Pt) (hq : (0 ≤ q.pa ∧ q.pa < 18446744073709551616) ∧ 0 ≤ q.w ∧ q.w < 4294967296) (ht : TW W) :
    Calls Tryd.prog 3 #[.int .i64 N, .slice a ps.length cap, .agg #[.bool c.on, .bool c.tre, .bool c.afe, .int .i64 c.n, .bool c.pd0, .bool c.pd1, .int .u64 c.b0, .int .u64 c.b1, .int .u32 c.dacr, .int .u32 c.prrr, .int .u32 c.nmrr, .int .i64 c.asid], .int .u32 va, .agg #[.int .u64 q.pa, .int .u32 q.w]] W fun e W' => e = .returned (.bool true) ∧ Below W.heap.size W W' := by
  have HB0 := hidW (Below.step (below_new W (.cells #[.bool c.on, .bool c.tre, .bool c.afe, .int .i64 c.n, .bool c.pd0, .bool c.pd1, .int .u64 c.b0, .int .u64 c.b1, .int .u32 c.dacr, .int .u32 c.prrr, .int .u32 c.nmrr, .int .i64 c.asid] 26)) (below_new _ (.cells #[.int .u64 q.pa, .int .u32 q.w] 28)))
  have HA := hidW (alive_any _ (ht.below HB0.out))
  have HS := hidW hp
  have HT := hidW ht
  clear hp ht
  go_enter Tryd.func3, Tryd.ntmps3
  go_wp2_with fail
  go_at_call 9
  refine HA.out.mono ?_
  rintro e wa ⟨rfl, hb⟩
  have HM := hidW (made_ok wa N h1 h2 a cap ps (HS.out.below (Below.step HB0.out hb)) hl)
  have HN := hidW (fun w2 p (h : One wa w2 p N (pm N ps ps.length)) => EK.new (W := W) (c := c) (q := q) HT.out hb h)
  clear hb HA HB0 HS HT
  go_wp2_with fail
  go_at_call 10
  refine HM.out.mono ?_
  rintro e wb ⟨p, rfl, hO⟩
  obtain ⟨S, hK⟩ := HN.out wb p hO
  have HK := hidW hK
  clear HM HN hO hK
  generalize pm N ps ps.length = m at *
  generalize hx : W.heap.size = x at *
  generalize hy : x + 1 = y at *
  have hB : Byts m := HK.out.pm.byts
  have c0 := HK.out.C.bl.cell
  have HC := hidW (HK.out.walk hc va hv)
  have hlow : ∀ b, S b → b < wb.heap.size := HK.out.pm.low
  have HL := hidW hlow
  clear hlow
  generalize hwk : wk (ramMo N m) c va = R at *
  obtain ⟨U, F⟩ := R
  have HWK := hidW hwk
  clear hwk
  go_wp2_with fail
  go_at_call 11
  refine HC.out.mono ?_
  rintro e v1 ⟨rfl, hb⟩
  have hb' := Below.step hb (Below.step (below_new v1 (.cells #[.int .i64 U.size, .int .u32 U.va, .int .u64 U.pa, .int .i64 U.dom, .int .i64 U.ap, .int .u32 U.bits, .bool U.ng, .bool U.xn] 35)) (below_new _ (.cells #[.int .i64 F.k, .int .i64 F.l, .int .i64 F.d] 37)))
  have HK1 := hidW (HK.out.below hb')
  have HBT : Hid (Bx ((v1.alloc (.cells #[.int .i64 U.size, .int .u32 U.va, .int .u64 U.pa, .int .i64 U.dom, .int .i64 U.ap, .int .u32 U.bits, .bool U.ng, .bool U.xn] 35)).alloc (.cells #[.int .i64 F.k, .int .i64 F.l, .int .i64 F.d] 37)) S v1.heap.size 35 [.int .i64 U.size, .int .u32 U.va, .int .u64 U.pa, .int .i64 U.dom, .int .i64 U.ap, .int .u32 U.bits, .bool U.ng, .bool U.xn]) := ⟨(Bl.new v1 35 [.int .i64 U.size, .int .u32 U.va, .int .u64 U.pa, .int .i64 U.dom, .int .i64 U.ap, .int .u32 U.bits, .bool U.ng, .bool U.xn]).below (below_new _ _), fun hs => by have := HL.out _ hs; have := hb.size; omega⟩
  have HBF : Hid (Bx ((v1.alloc (.cells #[.int .i64 U.size, .int .u32 U.va, .int .u64 U.pa, .int .i64 U.dom, .int .i64 U.ap, .int .u32 U.bits, .bool U.ng, .bool U.xn] 35)).alloc (.cells #[.int .i64 F.k, .int .i64 F.l, .int .i64 F.d] 37)) S (v1.heap.size + 1) 37 [.int .i64 F.k, .int .i64 F.l, .int .i64 F.d]) := ⟨Bl.new1 v1 _ 37 [.int .i64 F.k, .int .i64 F.l, .int .i64 F.d], fun hs => by have := HL.out _ hs; have := hb.size; omega⟩
  clear hb hb' HK HC c0 HL
  have c0 := HK1.out.C.bl.cell
  go_wp2_with fail
  generalize (v1.alloc (.cells #[.int .i64 U.size, .int .u32 U.va, .int .u64 U.pa, .int .i64 U.dom, .int .i64 U.ap, .int .u32 U.bits, .bool U.ng, .bool U.xn] 35)).alloc (.cells #[.int .i64 F.k, .int .i64 F.l, .int .i64 F.d] 37) = w2 at *
  generalize v1.heap.size + 1 = b2 at *
  generalize v1.heap.size = b1 at *
  have HL := hidW (HK1.out.pm.low)
  go_at_call 12
  refine (HK1.out.reads hc va hv).mono ?_
  rintro e w3 ⟨lv, rfl, hu, hb⟩
  have HU := hidW hu
  have HK2 := hidW (HK1.out.below hb)
  have HBT2 := hidW (HBT.out.below hb)
  have HBF2 := hidW (HBF.out.below hb)
  clear hb hu HK1 HBT HBF c0
  have HM2 := hidW (rdL_nn (ramMo_ok (N := N) hB) hc hv)
  have HKE := hidW (fun hn => edit_keep (N := N) (m := m) (a := q.pa) (v := q.w) hB hq.1.1 hc hv hn)
  have hlen := rdL_len2 (ramMo N m) c va
  have HOFF := hidW (fun h => rdL_off (M := ramMo N m) (c := c) (va := va) h)
  have HNON := hidW (fun h => rdL_none (M := ramMo N m) (c := c) (va := va) h)
  generalize rdL (ramMo N m) c va = l at *
  generalize w2.heap.size = lo at *
  have c0 := HK2.out.Q.bl.cell
  have HC := hidW (HK2.out.put q.pa q.w hq.1 hq.2)
  obtain ⟨la, lcap, rfl, hla⟩ := HU.out
  clear hla
  go_wp2_with fail
  go_at_call 13
  refine HC.out.mono ?_
  rintro e w4 ⟨rfl, hk3, T⟩
  have HK3 := hidW hk3
  have HU3 := hidW (HU.out.turn T HL.out)
  have HBT3 := hidW (HBT2.out.turn T)
  have HBF3 := hidW (HBF2.out.turn T)
  clear hk3 T HK2 HBT2 HBF2 HU HC c0 HL
  generalize gr S w3 w4 = S2 at *
  have hB2 : Byts (putM N m q.pa q.w) := HK3.out.pm.byts
  generalize putM N m q.pa q.w = m2 at *
  have c0 := HK3.out.C.bl.cell
  have HC := hidW (HK3.out.walk hc va hv)
  have HL := hidW (HK3.out.pm.low)
  generalize hwk2 : wk (ramMo N m2) c va = R2 at *
  obtain ⟨U2, F2⟩ := R2
  have HWK2 := hidW hwk2
  clear hwk2
  go_wp2_with fail
  go_at_call 11
  refine HC.out.mono ?_
  rintro e v5 ⟨rfl, hb⟩
  have hb' := Below.step hb (Below.step (below_new v5 (.cells #[.int .i64 U2.size, .int .u32 U2.va, .int .u64 U2.pa, .int .i64 U2.dom, .int .i64 U2.ap, .int .u32 U2.bits, .bool U2.ng, .bool U2.xn] 35)) (below_new _ (.cells #[.int .i64 F2.k, .int .i64 F2.l, .int .i64 F2.d] 37)))
  have HK4 := hidW (HK3.out.below hb')
  have HU4 := hidW (HU3.out.below hb')
  have HBT4 := hidW (HBT3.out.below hb')
  have HBF4 := hidW (HBF3.out.below hb')
  have HCT : Hid (Bx ((v5.alloc (.cells #[.int .i64 U2.size, .int .u32 U2.va, .int .u64 U2.pa, .int .i64 U2.dom, .int .i64 U2.ap, .int .u32 U2.bits, .bool U2.ng, .bool U2.xn] 35)).alloc (.cells #[.int .i64 F2.k, .int .i64 F2.l, .int .i64 F2.d] 37)) S2 v5.heap.size 35 [.int .i64 U2.size, .int .u32 U2.va, .int .u64 U2.pa, .int .i64 U2.dom, .int .i64 U2.ap, .int .u32 U2.bits, .bool U2.ng, .bool U2.xn]) := ⟨(Bl.new v5 35 [.int .i64 U2.size, .int .u32 U2.va, .int .u64 U2.pa, .int .i64 U2.dom, .int .i64 U2.ap, .int .u32 U2.bits, .bool U2.ng, .bool U2.xn]).below (below_new _ _), fun hs => by have := HL.out _ hs; have := hb.size; omega⟩
  have HCF : Hid (Bx ((v5.alloc (.cells #[.int .i64 U2.size, .int .u32 U2.va, .int .u64 U2.pa, .int .i64 U2.dom, .int .i64 U2.ap, .int .u32 U2.bits, .bool U2.ng, .bool U2.xn] 35)).alloc (.cells #[.int .i64 F2.k, .int .i64 F2.l, .int .i64 F2.d] 37)) S2 (v5.heap.size + 1) 37 [.int .i64 F2.k, .int .i64 F2.l, .int .i64 F2.d]) := ⟨Bl.new1 v5 _ 37 [.int .i64 F2.k, .int .i64 F2.l, .int .i64 F2.d], fun hs => by have := HL.out _ hs; have := hb.size; omega⟩
  clear hb hb' HK3 HC c0 HL HU3 HBT3 HBF3
  generalize hnn : l.length = n at *
  have HNN := hidW hnn
  clear hnn
  go_wp2
  generalize (v5.alloc (.cells #[.int .i64 U2.size, .int .u32 U2.va, .int .u64 U2.pa, .int .i64 U2.dom, .int .i64 U2.ap, .int .u32 U2.bits, .bool U2.ng, .bool U2.xn] 35)).alloc (.cells #[.int .i64 F2.k, .int .i64 F2.l, .int .i64 F2.d] 37) = w6 at *
  generalize v5.heap.size + 1 = b4 at *
  generalize v5.heap.size = b3 at *
  have HQ : w6.cell? ⟨y, 0, none⟩ = some (.int .u64 q.pa) := HK4.out.Q.bl.cell 0
  obtain ⟨la', lcap', hle, hla⟩ := HU4.out
  have HLA := hidW hla
  clear hla
  have hle' : la = la' := by rw [HNN.out] at hle; injection hle
  subst hle'
  clear hle
  have hn9 : n ≤ 9223372036854775807 := by omega
  go_loopw [17, 18] (fun r i wr => ∃ k : Nat, k ≤ n ∧ i = .int .i64 k ∧ r = .bool ((l.take k).any (· == q.pa)) ∧ ∃ d, wr = w6.drewN d) (fun _ i _ => n - (intOf i).toNat)
  case atStart => exact ⟨0, Nat.zero_le _, rfl, by simp, 0, rfl⟩
  case round =>
    obtain ⟨k, hk, rfl, rfl, d, rfl⟩ := hrel
    by_cases hlt : k < n
    · obtain ⟨e, he⟩ : ∃ e, l[k]? = some e := ⟨_, List.getElem?_eq_getElem (by rw [HNN.out]; omega)⟩
      obtain ⟨g, o, hga, _, hce⟩ := HLA.out k e he
      subst hga
      have hkz : (k : Int) < (n : Int) := by omega
      have hst : (l.take (k + 1)).any (· == q.pa) = ((l.take k).any (· == q.pa) || (e == q.pa)) := by
        rw [List.take_add_one, he, Option.toList_some, List.any_append]
        simp
      have HST := hidW hst
      clear hst he
      generalize (l.take k).any (· == q.pa) = r at *
      generalize hs : (e == q.pa) = s at *
      cases r
      · go_wp2
        go_quiet (fail)
        go_wp2
        go_roundw
        case rel => exact ⟨k + 1, by omega, by go_num, by rw [HST.out]; simp [hs], _, rfl⟩
        case measure => simp [intOf]; omega
      · go_wp2
        go_quiet (fail)
        go_wp2
        go_roundw
        case rel => exact ⟨k + 1, by omega, by go_num, by rw [HST.out]; simp, _, rfl⟩
        case measure => simp [intOf]; omega
    · obtain rfl : k = n := by omega
      have hd := below_drewN (Below.refl w6.heap.size w6) d
      have HK5 := hidW (HK4.out.below hd)
      have HBT5 := hidW (HBT4.out.below hd)
      have HBF5 := hidW (HBF4.out.below hd)
      have HCT5 := hidW (HCT.out.below hd)
      have HCF5 := hidW (HCF.out.below hd)
      clear hd HK4 HBT4 HBF4 HCT HCF HU4 HQ HLA
      generalize w6.drewN d = w7 at *
      have hnn := HNN.out
      rw [← hnn, List.take_length, hnn]
      clear hlt hk hnn
      by_cases hn0 : k = 0
      · have hl0 : l = [] := List.eq_nil_of_length_eq_zero (HNN.out.trans hn0)
        have hUF := HKE.out (by rw [hl0]; simp)
        rw [HWK.out] at hUF
        obtain ⟨rfl, rfl⟩ := Prod.mk.inj hUF
        have hr : l.any (· == q.pa) = false := by rw [hl0]; rfl
        rw [hr]
        subst hn0
        have eT : ∀ w, (Op.equalIn 10000 35 (.agg #[.int .i64 U2.size, .int .u32 U2.va, .int .u64 U2.pa, .int .i64 U2.dom, .int .i64 U2.ap, .int .u32 U2.bits, .bool U2.ng, .bool U2.xn]) (.agg #[.int .i64 U2.size, .int .u32 U2.va, .int .u64 U2.pa, .int .i64 U2.dom, .int .i64 U2.ap, .int .u32 U2.bits, .bool U2.ng, .bool U2.xn])).run Tryd.prog w = .ok true w := fun w => by rw [eqT, Tra.same_self]
        have eF : ∀ w, (Op.equalIn 10000 37 (.agg #[.int .i64 F2.k, .int .i64 F2.l, .int .i64 F2.d]) (.agg #[.int .i64 F2.k, .int .i64 F2.l, .int .i64 F2.d])).run Tryd.prog w = .ok true w := fun w => by rw [eqF, Fa.same_self]
        have c1 := HBT5.out.bl.cell
        have c2 := HBF5.out.bl.cell
        have c3 := HCT5.out.bl.cell
        have c4 := HCF5.out.bl.cell
        have HE := hidW HK5.out.bel
        clear HNN HKE HM2 HOFF HNON
        go_wp2
        go_ret
        exact ⟨rfl, by first | exact HE.out | (rw [← hx]; exact HE.out)⟩
      · have hoo : c.on = true ∧ fO c va = true := by
          cases h1 : c.on
          · exact absurd (HOFF.out (.inl h1)) (fun e => hn0 (by rw [← HNN.out, e]; rfl))
          · cases h2 : fO c va
            · exact absurd (HOFF.out (.inr h2)) (fun e => hn0 (by rw [← HNN.out, e]; rfl))
            · exact ⟨rfl, rfl⟩
        have HOO := hidW hoo
        clear hoo
        have hkb : ((k : Int) == 0) = false := by simp; omega
        have hUF : l.any (· == q.pa) = false → (U2, F2) = (U, F) := fun h => by
          rw [← HWK.out]
          refine HKE.out (fun hm => ?_)
          have ht : l.any (· == q.pa) = true := List.any_eq_true.2 ⟨q.pa, hm, by simp⟩
          rw [ht] at h
          cases h
        have c0 := HK5.out.C.bl.cell
        have HC := hidW (HK5.out.reads hc va hv)
        have HL := hidW HK5.out.pm.low
        generalize l.any (· == q.pa) = r at *
        clear HNN HKE HM2 HOFF HNON HWK HWK2
        have c1 := HBT5.out.bl.cell
        have c2 := HBF5.out.bl.cell
        have c3 := HCT5.out.bl.cell
        have c4 := HCF5.out.bl.cell
        have HTL := hidW (edit_tail (N := N) hB2 hc hv HOO.out.1 HOO.out.2)
        have HFR := hidW (fA_rng c va hc hv)
        clear HOO
        cases r
        case' false =>
          obtain ⟨rfl, rfl⟩ := Prod.mk.inj (hUF rfl)
          have eT : ∀ w, (Op.equalIn 10000 35 (.agg #[.int .i64 U2.size, .int .u32 U2.va, .int .u64 U2.pa, .int .i64 U2.dom, .int .i64 U2.ap, .int .u32 U2.bits, .bool U2.ng, .bool U2.xn]) (.agg #[.int .i64 U2.size, .int .u32 U2.va, .int .u64 U2.pa, .int .i64 U2.dom, .int .i64 U2.ap, .int .u32 U2.bits, .bool U2.ng, .bool U2.xn])).run Tryd.prog w = .ok true w := fun w => by rw [eqT, Tra.same_self]
          have eF : ∀ w, (Op.equalIn 10000 37 (.agg #[.int .i64 F2.k, .int .i64 F2.l, .int .i64 F2.d]) (.agg #[.int .i64 F2.k, .int .i64 F2.l, .int .i64 F2.d])).run Tryd.prog w = .ok true w := fun w => by rw [eqF, Fa.same_self]
          go_wp2_with fail
          clear eT eF
        case' true =>
          go_wp2_with fail
        all_goals
          clear c1 c2 c3 c4 HBT5 HBF5 HCT5 HCF5 hUF
          go_at_call 12
          refine HC.out.mono ?_
          rintro e w8 ⟨lv2, rfl, hu, hb⟩
          have HK6 := hidW (HK5.out.below hb)
          have HU := hidW hu
          clear hb hu HK5 HC c0
          generalize hfa : fA c va = fa at *
          clear hfa
          rcases HTL.out with ⟨hl2, hz⟩ | ⟨s, hl2, hs, hef, hz⟩
          · rw [hl2] at HU
            obtain ⟨ga, gcap, rfl, hg⟩ := HU.out
            obtain ⟨g, o, rfl, hgl, hgc0⟩ := hg 0 fa rfl
            have hgc : w8.cell? ⟨g, o, none⟩ = some (.int .u64 fa) := hgc0
            have HC := hidW (HK6.out.put fa 0 HFR.out ⟨by omega, by omega⟩)
            have HZ := hidW hz
            clear hg hl2 HTL hz hgc0
            simp only [List.length_cons, List.length_nil, Nat.zero_add] at *
            go_wp2_with fail
            go_at_call 13
            refine HC.out.mono ?_
            rintro e w9 ⟨rfl, hk, T⟩
            have HK7 := hidW hk
            have HU7 := hidW (HU.out.turn T HL.out)
            clear hk T HK6 HU HC hgc
            generalize gr S2 w8 w9 = S3 at *
            rcases Classical.em (¬ errV N fa 4 = 0) with he | he
            · have hne : (errV N fa 4 == 0) = false := by simpa using he
              have HE := hidW HK7.out.bel
              generalize errV N fa 4 = er at *
              go_wp2
              go_ret
              exact ⟨rfl, by first | exact HE.out | (rw [← hx]; exact HE.out)⟩
            · have he := Classical.not_not.1 he
              have HW := hidW (HZ.out he)
              rw [he]
              have c0 := HK7.out.C.bl.cell
              have HC := hidW (HK7.out.walk hc va hv)
              rw [HW.out.1] at HC
              have HL7 := hidW HK7.out.pm.low
              go_wp2_with fail
              go_at_call 11
              refine HC.out.mono ?_
              rintro e v9 ⟨rfl, hb⟩
              have hb' := Below.step hb (Below.step (below_new v9 (.cells #[.int .i64 0, .int .u32 0, .int .u64 0, .int .i64 0, .int .i64 0, .int .u32 0, .bool false, .bool false] 35)) (below_new _ (.cells #[.int .i64 3, .int .i64 0, .int .i64 0] 37)))
              have HK8 := hidW (HK7.out.below hb')
              have HU8 := hidW (HU7.out.below hb')
              clear hb hb' HK7 HU7 HC c0 HL7
              have eT : ∀ w, (Op.equalIn 10000 35 (.agg #[.int .i64 0, .int .u32 0, .int .u64 0, .int .i64 0, .int .i64 0, .int .u32 0, .bool false, .bool false]) (.agg #[.int .i64 0, .int .u32 0, .int .u64 0, .int .i64 0, .int .i64 0, .int .u32 0, .bool false, .bool false])).run Tryd.prog w = .ok true w := fun w => by have h := eqT tZ tZ w; rw [Tra.same_self] at h; exact h
              have c8 := HK8.out.C.bl.cell
              obtain ⟨ga', gcap', hge, hg⟩ := HU8.out
              obtain ⟨rfl, rfl⟩ : ga' = some ⟨g, o, none⟩ ∧ gcap' = gcap := by injection hge with e1 e2 e3; exact ⟨e1.symm, e3.symm⟩
              obtain ⟨g', o', h1, _, hgc⟩ := hg 0 fa rfl; injection h1 with h1; injection h1 with e1 e2; subst e1; subst e2; rw [Nat.add_zero] at hgc
              clear hg hge
              have HC := hidW (fun nq => (HK8.out.below (below_drewN (Below.refl _ _) nq)).put fa 3074 HFR.out ⟨by omega, by omega⟩)
              simp only [tZ]
              go_wp2_with fail
              go_quiet (fail)
              go_wp2_with fail
              go_at_call 13
              refine (HC.out _).mono ?_
              rintro e w10 ⟨rfl, hk9, T⟩
              have c9 := hk9.C.bl.cell
              have HC2 := hidW (section_any hk9 hc va hv HW.out.2)
              have HE := hidW hk9.bel
              rw [he]
              clear hk9 T HK8 HU8 HC c8
              go_wp2_with fail
              go_at_call 14
              refine HC2.out.mono ?_
              rintro e w11 ⟨rfl, hb⟩
              have HE2 := hidW (Below.step HE.out hb)
              clear hb HE HC2 c9
              go_wp2
              go_ret
              exact ⟨rfl, by first | exact HE2.out | (rw [← hx]; exact HE2.out)⟩
          · rw [hl2] at HU
            obtain ⟨ga, gcap, rfl, hg⟩ := HU.out
            obtain ⟨g, o, rfl, hgl, hgc0⟩ := hg 0 fa rfl
            have hgc : w8.cell? ⟨g, o, none⟩ = some (.int .u64 fa) := hgc0
            have hgd : w8.cell? ⟨g, o + 1, none⟩ = some (.int .u64 s) := by obtain ⟨g', o', h1, _, h2⟩ := hg 1 s rfl; injection h1 with h1; injection h1 with e1 e2; subst e1; subst e2; exact h2
            have HC := hidW (HK6.out.put s 0 hs ⟨by omega, by omega⟩)
            have HZ := hidW hz
            clear hg hl2 HTL hz hgc0
            simp only [List.length_cons, List.length_nil, Nat.zero_add] at *
            go_wp2_with fail
            go_at_call 13
            refine HC.out.mono ?_
            rintro e w9 ⟨rfl, hk, T⟩
            have HK7 := hidW hk
            have HU7 := hidW (HU.out.turn T HL.out)
            clear hk T HK6 HU HC hgc hgd
            generalize gr S2 w8 w9 = S3 at *
            rcases Classical.em (¬ errV N s 4 = 0) with he | he
            · have hne : (errV N s 4 == 0) = false := by simpa using he
              have HE := hidW HK7.out.bel
              generalize errV N s 4 = er at *
              go_wp2
              go_ret
              exact ⟨rfl, by first | exact HE.out | (rw [← hx]; exact HE.out)⟩
            · have he := Classical.not_not.1 he
              have HW := hidW (HZ.out he)
              rcases HW.out.2 with ⟨hfs, hw⟩ | ⟨hfs, d2, hw⟩
              · subst hfs
                rw [he]
                have c0 := HK7.out.C.bl.cell
                have HC := hidW (HK7.out.walk hc va hv)
                rw [hw] at HC
                have HL7 := hidW HK7.out.pm.low
                go_wp2_with fail
                go_at_call 11
                refine HC.out.mono ?_
                rintro e v9 ⟨rfl, hb⟩
                have hb' := Below.step hb (Below.step (below_new v9 (.cells #[.int .i64 0, .int .u32 0, .int .u64 0, .int .i64 0, .int .i64 0, .int .u32 0, .bool false, .bool false] 35)) (below_new _ (.cells #[.int .i64 3, .int .i64 0, .int .i64 0] 37)))
                have HK8 := hidW (HK7.out.below hb')
                have HU8 := hidW (HU7.out.below hb')
                clear hb hb' HK7 HU7 HC c0 HL7
                have eT : ∀ w, (Op.equalIn 10000 35 (.agg #[.int .i64 0, .int .u32 0, .int .u64 0, .int .i64 0, .int .i64 0, .int .u32 0, .bool false, .bool false]) (.agg #[.int .i64 0, .int .u32 0, .int .u64 0, .int .i64 0, .int .i64 0, .int .u32 0, .bool false, .bool false])).run Tryd.prog w = .ok true w := fun w => by have h := eqT tZ tZ w; rw [Tra.same_self] at h; exact h
                have c8 := HK8.out.C.bl.cell
                obtain ⟨ga', gcap', hge, hg⟩ := HU8.out
                obtain ⟨rfl, rfl⟩ : ga' = some ⟨g, o, none⟩ ∧ gcap' = gcap := by injection hge with e1 e2 e3; exact ⟨e1.symm, e3.symm⟩
                obtain ⟨g', o', h1, _, hgc⟩ := hg 0 fa rfl; injection h1 with h1; injection h1 with e1 e2; subst e1; subst e2; rw [Nat.add_zero] at hgc
                obtain ⟨g', o', h1, _, hgd⟩ := hg 1 fa rfl; injection h1 with h1; injection h1 with e1 e2; subst e1; subst e2
                clear hg hge
                have HC := hidW (fun nq => (HK8.out.below (below_drewN (Below.refl _ _) nq)).put fa 3074 HFR.out ⟨by omega, by omega⟩)
                simp only [tZ]
                go_wp2_with fail
                go_quiet (fail)
                go_wp2_with fail
                go_at_call 13
                refine (HC.out _).mono ?_
                rintro e w10 ⟨rfl, hk9, T⟩
                have c9 := hk9.C.bl.cell
                have HC2 := hidW (section_any hk9 hc va hv HW.out.1)
                have HE := hidW hk9.bel
                rw [hef]
                clear hk9 T HK8 HU8 HC c8
                go_wp2_with fail
                go_at_call 14
                refine HC2.out.mono ?_
                rintro e w11 ⟨rfl, hb⟩
                have HE2 := hidW (Below.step HE.out hb)
                clear hb HE HC2 c9
                go_wp2
                go_ret
                exact ⟨rfl, by first | exact HE2.out | (rw [← hx]; exact HE2.out)⟩
              · have hfb : (fa == s) = false := by simpa using hfs
                rw [he]
                have c0 := HK7.out.C.bl.cell
                have HC := hidW (HK7.out.walk hc va hv)
                rw [hw] at HC
                have HL7 := hidW HK7.out.pm.low
                go_wp2_with fail
                go_at_call 11
                refine HC.out.mono ?_
                rintro e v9 ⟨rfl, hb⟩
                have hb' := Below.step hb (Below.step (below_new v9 (.cells #[.int .i64 0, .int .u32 0, .int .u64 0, .int .i64 0, .int .i64 0, .int .u32 0, .bool false, .bool false] 35)) (below_new _ (.cells #[.int .i64 5, .int .i64 0, .int .i64 d2] 37)))
                have HK8 := hidW (HK7.out.below hb')
                have HU8 := hidW (HU7.out.below hb')
                clear hb hb' HK7 HU7 HC c0 HL7
                have eT : ∀ w, (Op.equalIn 10000 35 (.agg #[.int .i64 0, .int .u32 0, .int .u64 0, .int .i64 0, .int .i64 0, .int .u32 0, .bool false, .bool false]) (.agg #[.int .i64 0, .int .u32 0, .int .u64 0, .int .i64 0, .int .i64 0, .int .u32 0, .bool false, .bool false])).run Tryd.prog w = .ok true w := fun w => by have h := eqT tZ tZ w; rw [Tra.same_self] at h; exact h
                have c8 := HK8.out.C.bl.cell
                obtain ⟨ga', gcap', hge, hg⟩ := HU8.out
                obtain ⟨rfl, rfl⟩ : ga' = some ⟨g, o, none⟩ ∧ gcap' = gcap := by injection hge with e1 e2 e3; exact ⟨e1.symm, e3.symm⟩
                obtain ⟨g', o', h1, _, hgc⟩ := hg 0 fa rfl; injection h1 with h1; injection h1 with e1 e2; subst e1; subst e2; rw [Nat.add_zero] at hgc
                obtain ⟨g', o', h1, _, hgd⟩ := hg 1 s rfl; injection h1 with h1; injection h1 with e1 e2; subst e1; subst e2
                clear hg hge
                have HC := hidW (fun nq => (HK8.out.below (below_drewN (Below.refl _ _) nq)).put fa 3074 HFR.out ⟨by omega, by omega⟩)
                simp only [tZ]
                go_wp2_with fail
                go_quiet (fail)
                go_wp2_with fail
                go_at_call 13
                refine (HC.out _).mono ?_
                rintro e w10 ⟨rfl, hk9, T⟩
                have c9 := hk9.C.bl.cell
                have HC2 := hidW (section_any hk9 hc va hv HW.out.1)
                have HE := hidW hk9.bel
                rw [hef]
                clear hk9 T HK8 HU8 HC c8
                go_wp2_with fail
                go_at_call 14
                refine HC2.out.mono ?_
                rintro e w11 ⟨rfl, hb⟩
                have HE2 := hidW (Below.step HE.out hb)
                clear hb HE HC2 c9
                go_wp2
                go_ret
                exact ⟨rfl, by first | exact HE2.out | (rw [← hx]; exact HE2.out)⟩
theorem law_edit (W : World) (f : Int) (a : Option Addr) (cap : Nat) (ps : List Pt) (hp : PutsAt W a ps) (hl : ps.length ≤ 9223372036854775807) (c : Ctx) (hc : c.Ok) (va : Int) (hv : 0 ≤ va ∧ va < 4294967296) (q : Pt) (hq : (0 ≤ q.pa ∧ q.pa < 18446744073709551616) ∧ 0 ≤ q.w ∧ q.w < 4294967296) (ht : TW W) :
    Calls Tryd.prog 3 #[.int .i64 f, .slice a ps.length cap, .agg #[.bool c.on, .bool c.tre, .bool c.afe, .int .i64 c.n, .bool c.pd0, .bool c.pd1, .int .u64 c.b0, .int .u64 c.b1, .int .u32 c.dacr, .int .u32 c.prrr, .int .u32 c.nmrr, .int .i64 c.asid], .int .u32 va, .agg #[.int .u64 q.pa, .int .u32 q.w]] W fun e W' => e = .returned (.bool true) ∧ Below W.heap.size W W' := by
  by_cases hf : f < 1 ∨ 65536 < f
  · exact law_edit_bad W ht f hf _ c va q
  · obtain ⟨N, rfl⟩ : ∃ N : Nat, f = N := ⟨f.toNat, by omega⟩
    exact law_edit_core W N (by omega) (by omega) a cap ps hp hl c hc va hv q hq ht
end Go.Proofs.YtmodcbdgnmjkoaaDoor
