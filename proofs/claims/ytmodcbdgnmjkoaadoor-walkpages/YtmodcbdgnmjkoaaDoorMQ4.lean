import Derived.Test.YtmodcbdgnmjkoaaDoorMQ2
import Derived.Test.YtmodcbdgnmjkoaaDoorMQ3
namespace Go.Proofs.YtmodcbdgnmjkoaaDoor
open Go.RowKit
open Mm (Turn gr PM RM valV errV Byts setV)
set_option linter.unusedVariables false
set_option linter.unusedSimpArgs false
set_option maxRecDepth 100000 in
set_option maxHeartbeats 8000000 in
theorem pages_two (W : World) (N : Nat) (h1 : 1 ≤ N) (h2 : N ≤ 65536) (a : Option Addr) (cap : Nat) (ps : List Pt) (hp : PutsAt W a ps) (hl : ps.length ≤ 9223372036854775807) (c : Ctx) (hc : c.Ok) (va : Int) (hv : 0 ≤ va ∧ va < 4294967296) (vb : Int) (hvb : 0 ≤ vb ∧ vb < 4294967296) (ht : TC W) (U : Tra) (F : Fa) (hwk : wk (ramMo N (pm N ps ps.length)) c va = (U, F)) (hF : F = fZ) (hfn : Fnd U va) (hon : c.on = true) (s : Int) (hrl : rdL (ramMo N (pm N ps ps.length)) c va = [fA c va, s]) (hs : 0 ≤ s ∧ s < 4294967296) (he : (ramMo N (pm N ps ps.length)).er s = 0) (htr : trF (D2 ((ramMo N (pm N ps ps.length)).wd s)) U.dom va = U) (hsz : U.size < 3) :
    Calls Tryd.prog 4 #[.int .i64 N, .slice a ps.length cap, .agg #[.bool c.on, .bool c.tre, .bool c.afe, .int .i64 c.n, .bool c.pd0, .bool c.pd1, .int .u64 c.b0, .int .u64 c.b1, .int .u32 c.dacr, .int .u32 c.prrr, .int .u32 c.nmrr, .int .i64 c.asid], .int .u32 va, .int .u32 vb] W fun e W' => e = .returned (.bool true) ∧ Below W.heap.size W W' := by
  have QhF := hidW hF
  have Qhfn := hidW hfn
  have Qhon := hidW hon
  have Qhrl := hidW hrl
  have Qhs := hidW hs
  have Qhe := hidW he
  have Qhtr := hidW htr
  have Qhsz := hidW hsz
  clear hF hfn hon hrl hs he htr hsz
  have HB0 := hidW (below_new W (.cells #[.bool c.on, .bool c.tre, .bool c.afe, .int .i64 c.n, .bool c.pd0, .bool c.pd1, .int .u64 c.b0, .int .u64 c.b1, .int .u32 c.dacr, .int .u32 c.prrr, .int .u32 c.nmrr, .int .i64 c.asid] 26))
  have HA := hidW (alive_any _ (ht.tw.below HB0.out))
  have HS := hidW hp
  have HT := hidW ht
  clear hp ht
  have hn12 := not12 va hv
  have ha12 := and12 vb hvb
  have hor := or12 va vb hv hvb.1
  have hv2 : 0 ≤ va / 4096 * 4096 + vb % 4096 ∧ va / 4096 * 4096 + vb % 4096 < 4294967296 := by omega
  go_enter Tryd.func4, Tryd.ntmps4
  go_wp2_with fail
  go_at_call 9
  refine HA.out.mono ?_
  rintro e wa ⟨rfl, hb⟩
  have HM := hidW (made_ok wa N h1 h2 a cap ps (HS.out.below (Below.step HB0.out hb)) hl)
  have HN := hidW (fun w2 p (h : One wa w2 p N (pm N ps ps.length)) => PK.new (W := W) (c := c) HT.out hb h)
  clear hb HA HB0 HS HT
  go_wp2_with fail
  go_at_call 10
  refine HM.out.mono ?_
  rintro e wb ⟨p, rfl, hO⟩
  obtain ⟨S, hK⟩ := HN.out wb p hO
  have HK := hidW hK
  clear HM HN hO hK
  generalize pm N ps ps.length = m at *
  generalize hx : W.heap.size = x at *
  have hB : Byts m := HK.out.pm.byts
  have c0 := HK.out.C.cell
  have HC := hidW (HK.out.walk c hc va hv)
  have HPG : Hid (wk (ramMo N m) c (va / 4096 * 4096 + vb % 4096) = wk (ramMo N m) c va) := wk_page (by omega)
  rw [hwk] at HC
  dsimp only at HC
  have HWK := hidW hwk
  clear hwk
  go_wp2_with fail
  go_at_call 11
  refine HC.out.mono ?_
  rintro e v1 ⟨rfl, hb⟩
  have hb' := Below.step hb (Below.step (below_new v1 (.cells #[.int .i64 U.size, .int .u32 U.va, .int .u64 U.pa, .int .i64 U.dom, .int .i64 U.ap, .int .u32 U.bits, .bool U.ng, .bool U.xn] 35)) (below_new _ (.cells #[.int .i64 F.k, .int .i64 F.l, .int .i64 F.d] 37)))
  have HK1 := hidW (HK.out.below hb')
  have HBT : Hid (Bl ((v1.alloc (.cells #[.int .i64 U.size, .int .u32 U.va, .int .u64 U.pa, .int .i64 U.dom, .int .i64 U.ap, .int .u32 U.bits, .bool U.ng, .bool U.xn] 35)).alloc (.cells #[.int .i64 F.k, .int .i64 F.l, .int .i64 F.d] 37)) v1.heap.size 35 [.int .i64 U.size, .int .u32 U.va, .int .u64 U.pa, .int .i64 U.dom, .int .i64 U.ap, .int .u32 U.bits, .bool U.ng, .bool U.xn]) := (Bl.new v1 35 [.int .i64 U.size, .int .u32 U.va, .int .u64 U.pa, .int .i64 U.dom, .int .i64 U.ap, .int .u32 U.bits, .bool U.ng, .bool U.xn]).below (below_new _ _)
  have HBF : Hid (Bl ((v1.alloc (.cells #[.int .i64 U.size, .int .u32 U.va, .int .u64 U.pa, .int .i64 U.dom, .int .i64 U.ap, .int .u32 U.bits, .bool U.ng, .bool U.xn] 35)).alloc (.cells #[.int .i64 F.k, .int .i64 F.l, .int .i64 F.d] 37)) (v1.heap.size + 1) 37 [.int .i64 F.k, .int .i64 F.l, .int .i64 F.d]) := Bl.new1 v1 _ 37 [.int .i64 F.k, .int .i64 F.l, .int .i64 F.d]
  clear hb hb' HK HC c0
  have c0 := HK1.out.C.cell
  go_wp2_with fail
  generalize (v1.alloc (.cells #[.int .i64 U.size, .int .u32 U.va, .int .u64 U.pa, .int .i64 U.dom, .int .i64 U.ap, .int .u32 U.bits, .bool U.ng, .bool U.xn] 35)).alloc (.cells #[.int .i64 F.k, .int .i64 F.l, .int .i64 F.d] 37) = w2 at *
  generalize v1.heap.size + 1 = b2 at *
  generalize v1.heap.size = b1 at *
  have HC := hidW (HK1.out.walk c hc (va / 4096 * 4096 + vb % 4096) hv2)
  rw [HPG.out, HWK.out] at HC
  dsimp only at HC
  go_at_call 11
  refine HC.out.mono ?_
  rintro e v3 ⟨rfl, hb⟩
  have hb' := Below.step hb (Below.step (below_new v3 (.cells #[.int .i64 U.size, .int .u32 U.va, .int .u64 U.pa, .int .i64 U.dom, .int .i64 U.ap, .int .u32 U.bits, .bool U.ng, .bool U.xn] 35)) (below_new _ (.cells #[.int .i64 F.k, .int .i64 F.l, .int .i64 F.d] 37)))
  have HK2 := hidW (HK1.out.below hb')
  have HBT2 := hidW (HBT.out.below hb')
  have HBF2 := hidW (HBF.out.below hb')
  have HCT : Hid (Bl ((v3.alloc (.cells #[.int .i64 U.size, .int .u32 U.va, .int .u64 U.pa, .int .i64 U.dom, .int .i64 U.ap, .int .u32 U.bits, .bool U.ng, .bool U.xn] 35)).alloc (.cells #[.int .i64 F.k, .int .i64 F.l, .int .i64 F.d] 37)) v3.heap.size 35 [.int .i64 U.size, .int .u32 U.va, .int .u64 U.pa, .int .i64 U.dom, .int .i64 U.ap, .int .u32 U.bits, .bool U.ng, .bool U.xn]) := (Bl.new v3 35 [.int .i64 U.size, .int .u32 U.va, .int .u64 U.pa, .int .i64 U.dom, .int .i64 U.ap, .int .u32 U.bits, .bool U.ng, .bool U.xn]).below (below_new _ _)
  have HCF : Hid (Bl ((v3.alloc (.cells #[.int .i64 U.size, .int .u32 U.va, .int .u64 U.pa, .int .i64 U.dom, .int .i64 U.ap, .int .u32 U.bits, .bool U.ng, .bool U.xn] 35)).alloc (.cells #[.int .i64 F.k, .int .i64 F.l, .int .i64 F.d] 37)) (v3.heap.size + 1) 37 [.int .i64 F.k, .int .i64 F.l, .int .i64 F.d]) := Bl.new1 v3 _ 37 [.int .i64 F.k, .int .i64 F.l, .int .i64 F.d]
  clear hb hb' HK1 HBT HBF HC c0 HPG
  have eT : ∀ w, (Op.equalIn 10000 35 (.agg #[.int .i64 U.size, .int .u32 U.va, .int .u64 U.pa, .int .i64 U.dom, .int .i64 U.ap, .int .u32 U.bits, .bool U.ng, .bool U.xn]) (.agg #[.int .i64 U.size, .int .u32 U.va, .int .u64 U.pa, .int .i64 U.dom, .int .i64 U.ap, .int .u32 U.bits, .bool U.ng, .bool U.xn])).run Tryd.prog w = .ok true w := fun w => by rw [eqT, Tra.same_self]
  have eF : ∀ w, (Op.equalIn 10000 37 (.agg #[.int .i64 F.k, .int .i64 F.l, .int .i64 F.d]) (.agg #[.int .i64 F.k, .int .i64 F.l, .int .i64 F.d])).run Tryd.prog w = .ok true w := fun w => by rw [eqF, Fa.same_self]
  have c0 := HK2.out.C.cell
  have c1 := HBT2.out.cell
  have c2 := HBF2.out.cell
  have c3 := HCT.out.cell
  have c4 := HCF.out.cell
  go_wp2_with fail
  generalize (v3.alloc (.cells #[.int .i64 U.size, .int .u32 U.va, .int .u64 U.pa, .int .i64 U.dom, .int .i64 U.ap, .int .u32 U.bits, .bool U.ng, .bool U.xn] 35)).alloc (.cells #[.int .i64 F.k, .int .i64 F.l, .int .i64 F.d] 37) = w4 at *
  clear HCT HCF c1 c2 c3 c4 eF
  go_at_call 12
  refine (HK2.out.reads hc va hv).mono ?_
  rintro e w5 ⟨lv, rfl, hu, hb⟩
  have HU := hidW hu
  have HK3 := hidW (HK2.out.below hb)
  have HBT3 := hidW (HBT2.out.below hb)
  have HBF3 := hidW (HBF2.out.below hb)
  clear hb hu HK2 HBT2 HBF2 c0
  have hF := QhF.out
  have hfn := Qhfn.out
  have hon := Qhon.out
  have hrl := Qhrl.out
  have hs := Qhs.out
  have he := Qhe.out
  have htr := Qhtr.out
  have hsz := Qhsz.out
  clear QhF Qhfn Qhon Qhrl Qhs Qhe Qhtr Qhsz
  have HL2 := hidW (rdL_len2 (ramMo N m) c va)
  obtain ⟨ga, gcap, rfl, hg⟩ := HU.out
  have HG := hidW hg
  clear HU hg
  subst hF
  have hr := hfn.rng hv
  have hft := hfn.ft hv
  have hpa := hfn.pa
  have HGO : Hid (goF (ramMo N m) (opn c) va false 3 = (U.pa + (va - U.va), fZ)) := hidW (by
    unfold goF
    rw [wk_opn, HWK.out]
    dsimp only
    rw [if_pos (show (fZ : Fa).k = 0 from rfl), ch_opn hfn, if_pos (show (fZ : Fa).k = 0 from rfl)])
  have HGP : Hid (goF (ramMo N m) (opn c) (va / 4096 * 4096) false 3 = (U.pa + (va / 4096 * 4096 - U.va), fZ)) := hidW (by
    unfold goF
    rw [wk_opn, wk_page (va := va / 4096 * 4096) (vb := va) (by omega), HWK.out]
    dsimp only
    rw [if_pos (show (fZ : Fa).k = 0 from rfl), ch_opn hfn, if_pos (show (fZ : Fa).k = 0 from rfl)])
  have HRI := hidW (fun ww (ht : TR ww) => right_any U ww ht hft.va ⟨hft.pa, hft.bt⟩)
  simp only [hfn.right] at HRI
  have HBY := hidW (fun ww (ht : TB ww) => bytes_any U.size ww ht)
  have hge : decide (byN U.size ≤ va - U.va) = false := by simp; omega
  generalize byN U.size = bn at *
  have hgt : decide (va < U.va) = false := by simp; omega
  have hw64 : IntKind.u64.wrap (va - U.va) = va - U.va := by rw [IntKind.wrap_u64]; omega
  have hw32 : IntKind.u32.wrap (va - U.va) = va - U.va := by rw [IntKind.wrap_u32]; omega
  have hwp : IntKind.u64.wrap (U.pa + (va - U.va)) = U.pa + (va - U.va) := by rw [IntKind.wrap_u64]; omega
  have hwd : IntKind.u64.wrap (U.pa + (va - U.va) - (U.pa + (va / 4096 * 4096 - U.va))) = va % 4096 := by rw [IntKind.wrap_u64]; omega
  have hwm : IntKind.u64.wrap (va % 4096) = va % 4096 := by rw [IntKind.wrap_u64]; omega
  have hwv : IntKind.u64.wrap va = va := by rw [IntKind.wrap_u64]; omega
  have hwu : IntKind.u64.wrap U.va = U.va := by rw [IntKind.wrap_u64]; omega
  have hva12 := and12 va hv
  have hv4 : 0 ≤ va / 4096 * 4096 ∧ va / 4096 * 4096 < 4294967296 := by omega
  have hon1 := opn_ok hc
  have hfr := fA_rng c va hc hv
  clear HWK hr hft HL2
  generalize rdL (ramMo N m) c va = l at *
  subst hrl
  generalize fA c va = fa at *
  obtain ⟨g, o, rfl, hgl, hgc⟩ := HG.out 0 fa rfl
  rw [Nat.add_zero] at hgc
  have hgd : w5.cell? ⟨g, o + 1, none⟩ = some (.int .u64 s) := by obtain ⟨g', o', h1, _, h2⟩ := HG.out 1 s rfl; injection h1 with h1; injection h1 with e1 e2; subst e1; subst e2; exact h2
  have hls : decide (U.size < 3) = true := by simp; omega
  have hs3b : (U.size == 3) = false := by simp; omega
  have HWD : Hid (∀ ww S', PM ww S' p N m → Calls Tryd.prog 17 #[.pointer (some ⟨p, 0, none⟩), .int .u64 s] ww fun e W' => e = .returned (.tuple #[.int .u32 ((ramMo N m).wd s), .int .i64 0]) ∧ ww = W') := hidW (fun ww S' h => by
    have hh := Mm.word_any ww S' p N m (s).toNat h (by omega)
    rw [Int.toNat_of_nonneg (by omega), show errV N s 4 = 0 from he] at hh
    exact hh)
  have hwr : 0 ≤ (ramMo N m).wd s ∧ (ramMo N m).wd s < 4294967296 := ramMo_ok hB _
  generalize (ramMo N m).wd s = wd at *
  have HD1 := hidW (fun ww (h : TD ww) => Decode1_any wd ww h hwr)
  have HD2 := hidW (fun ww (h : TD ww) => Decode2_any wd ww h hwr)
  have HTR := hidW (fun ww (h : TT ww) => trans_any (D2 wd) U.dom va ww h (ok_D2 wd hwr).1 hv)
  rw [htr] at HTR
  clear htr hwr he
  generalize D1 wd = e1 at *
  generalize D2 wd = e2 at *
  clear HG hfn hfr hsz hgl
  simp only [List.length_cons, List.length_nil, Nat.zero_add] at *
  have c0 := HK3.out.C.cell
  have c1 := HBT3.out.cell
  have c2 := HBF3.out.cell
  simp only [fZ] at c2
  go_wp2_with fail
  go_at_call 15
  refine (HBY.out _ HK3.out.tab.r.tb).mono ?_
  rintro e wq ⟨rfl, rfl⟩
  go_wp2_with fail
  go_at_call 16
  refine (HRI.out _ HK3.out.tab.r).mono ?_
  rintro e w6 ⟨rfl, hb⟩
  have HK4 := hidW (HK3.out.below hb)
  have HBT4 := hidW (HBT3.out.below hb)
  have hgc := (hb.cell (cell_lt hgc)).trans hgc
  have hgd := (hb.cell (cell_lt hgd)).trans hgd
  clear hb HK3 HBT3 HBF3 c0 c1 c2 HRI HBY
  have c0 := HK4.out.C.cell
  have c1 := HBT4.out.cell
  go_wp2_with fail
  go_at_call 17
  refine (HWD.out _ _ HK4.out.pm).mono ?_
  rintro e wq ⟨rfl, rfl⟩
  go_wp2_with fail
  go_at_call 18
  refine (HD1.out _ HK4.out.tab.r.toTT.toTE.toTD).mono ?_
  rintro e v8 ⟨rfl, hb⟩
  have hb' := Below.step hb (below_new v8 (.cells #[.int .i64 e1.kind, .int .u64 e1.base, .int .i64 e1.dom, .bool e1.ns, .int .i64 e1.ap, .int .u32 e1.bits, .bool e1.ng, .bool e1.xn] 51))
  have HK7 := hidW (HK4.out.below hb')
  have HEB : Hid (Bl (v8.alloc (.cells #[.int .i64 e1.kind, .int .u64 e1.base, .int .i64 e1.dom, .bool e1.ns, .int .i64 e1.ap, .int .u32 e1.bits, .bool e1.ng, .bool e1.xn] 51)) v8.heap.size 51 [.int .i64 e1.kind, .int .u64 e1.base, .int .i64 e1.dom, .bool e1.ns, .int .i64 e1.ap, .int .u32 e1.bits, .bool e1.ng, .bool e1.xn]) := Bl.new v8 51 [.int .i64 e1.kind, .int .u64 e1.base, .int .i64 e1.dom, .bool e1.ns, .int .i64 e1.ap, .int .u32 e1.bits, .bool e1.ng, .bool e1.xn]
  have HBB : Hid (Below w6.heap.size w6 (v8.alloc (.cells #[.int .i64 e1.kind, .int .u64 e1.base, .int .i64 e1.dom, .bool e1.ns, .int .i64 e1.ap, .int .u32 e1.bits, .bool e1.ng, .bool e1.xn] 51)) ∧ w6.heap.size ≤ v8.heap.size) := ⟨hb', hb.size⟩
  clear hb hb' c0 c1 HWD HD1 hgc hgd
  go_wp2_with fail
  generalize v8.alloc (.cells #[.int .i64 e1.kind, .int .u64 e1.base, .int .i64 e1.dom, .bool e1.ns, .int .i64 e1.ap, .int .u32 e1.bits, .bool e1.ng, .bool e1.xn] 51) = v9 at *
  generalize v8.heap.size = be at *
  go_at_call 19
  refine (HD2.out _ HK7.out.tab.r.toTT.toTE.toTD).mono ?_
  rintro e v10 ⟨rfl, hb⟩
  have HBC : Hid (Below w6.heap.size w6 ((((((((v10.setCell ⟨be, 0, none⟩ (.int .i64 e2.kind)).setCell ⟨be, 1, none⟩ (.int .u64 e2.base)).setCell ⟨be, 2, none⟩ (.int .i64 e2.dom)).setCell ⟨be, 3, none⟩ (.bool e2.ns)).setCell ⟨be, 4, none⟩ (.int .i64 e2.ap)).setCell ⟨be, 5, none⟩ (.int .u32 e2.bits)).setCell ⟨be, 6, none⟩ (.bool e2.ng)).setCell ⟨be, 7, none⟩ (.bool e2.xn))) := by
    have h := below_at rfl HBB.out.1 hb
    have hq := HBB.out.2
    exact Below.setCell (Below.setCell (Below.setCell (Below.setCell (Below.setCell (Below.setCell (Below.setCell (Below.setCell (h) hq _) hq _) hq _) hq _) hq _) hq _) hq _) hq _
  have HEA : Hid (Bl ((((((((v10.setCell ⟨be, 0, none⟩ (.int .i64 e2.kind)).setCell ⟨be, 1, none⟩ (.int .u64 e2.base)).setCell ⟨be, 2, none⟩ (.int .i64 e2.dom)).setCell ⟨be, 3, none⟩ (.bool e2.ns)).setCell ⟨be, 4, none⟩ (.int .i64 e2.ap)).setCell ⟨be, 5, none⟩ (.int .u32 e2.bits)).setCell ⟨be, 6, none⟩ (.bool e2.ng)).setCell ⟨be, 7, none⟩ (.bool e2.xn)) be 51 [.int .i64 e2.kind, .int .u64 e2.base, .int .i64 e2.dom, .bool e2.ns, .int .i64 e2.ap, .int .u32 e2.bits, .bool e2.ng, .bool e2.xn]) := Bl.set8 (HEB.out.below hb) _ _ _ _ _ _ _ _
  have HKA := hidW (HK4.out.below HBC.out)
  have HTA := hidW (HBT4.out.below HBC.out)
  have cE := (HEB.out.below hb).frozen
  have cL := (HEB.out.below hb).lt
  have cC := (HEB.out.below hb).cell
  clear hb HK7 HEB HBB HBC HK4 HBT4 HD2
  go_wp2_with fail
  clear cE cL cC
  generalize ((((((((v10.setCell ⟨be, 0, none⟩ (.int .i64 e2.kind)).setCell ⟨be, 1, none⟩ (.int .u64 e2.base)).setCell ⟨be, 2, none⟩ (.int .i64 e2.dom)).setCell ⟨be, 3, none⟩ (.bool e2.ns)).setCell ⟨be, 4, none⟩ (.int .i64 e2.ap)).setCell ⟨be, 5, none⟩ (.int .u32 e2.bits)).setCell ⟨be, 6, none⟩ (.bool e2.ng)).setCell ⟨be, 7, none⟩ (.bool e2.xn)) = wA at *
  have hS : ∀ w', Below wA.heap.size wA w' → (w'.cell? ⟨b1, 0, none⟩ = some (.int .i64 U.size) ∧ w'.cell? ⟨b1, 1, none⟩ = some (.int .u32 U.va) ∧ w'.cell? ⟨b1, 2, none⟩ = some (.int .u64 U.pa) ∧ w'.cell? ⟨b1, 3, none⟩ = some (.int .i64 U.dom) ∧ w'.cell? ⟨b1, 4, none⟩ = some (.int .i64 U.ap) ∧ w'.cell? ⟨b1, 5, none⟩ = some (.int .u32 U.bits) ∧ w'.cell? ⟨b1, 6, none⟩ = some (.bool U.ng) ∧ w'.cell? ⟨b1, 7, none⟩ = some (.bool U.xn) ∧ w'.cell? ⟨be, 0, none⟩ = some (.int .i64 e2.kind) ∧ w'.cell? ⟨be, 1, none⟩ = some (.int .u64 e2.base) ∧ w'.cell? ⟨be, 2, none⟩ = some (.int .i64 e2.dom) ∧ w'.cell? ⟨be, 3, none⟩ = some (.bool e2.ns) ∧ w'.cell? ⟨be, 4, none⟩ = some (.int .i64 e2.ap) ∧ w'.cell? ⟨be, 5, none⟩ = some (.int .u32 e2.bits) ∧ w'.cell? ⟨be, 6, none⟩ = some (.bool e2.ng) ∧ w'.cell? ⟨be, 7, none⟩ = some (.bool e2.xn)) := fun w' h => ⟨(HTA.out.below h).cell 0, (HTA.out.below h).cell 1, (HTA.out.below h).cell 2, (HTA.out.below h).cell 3, (HTA.out.below h).cell 4, (HTA.out.below h).cell 5, (HTA.out.below h).cell 6, (HTA.out.below h).cell 7, (HEA.out.below h).cell 0, (HEA.out.below h).cell 1, (HEA.out.below h).cell 2, (HEA.out.below h).cell 3, (HEA.out.below h).cell 4, (HEA.out.below h).cell 5, (HEA.out.below h).cell 6, (HEA.out.below h).cell 7⟩
  have HTT : Hid (∀ w', Below wA.heap.size wA w' → TT w') := fun w' h => (HKA.out.tab.below h).r.toTT
  have HB1 := hidW (Below.refl wA.heap.size wA)
  have hs1 := HB1.out.size
  go_cut [184] from 165 to 184 (fun s1 wx => s1 = .bool false ∧ Hid (Below wA.heap.size wA wx))
  case first =>
    go_region_held3 (fun w' => w'.cell? ⟨b1, 0, none⟩ = some (.int .i64 U.size) ∧ w'.cell? ⟨b1, 1, none⟩ = some (.int .u32 U.va) ∧ w'.cell? ⟨b1, 2, none⟩ = some (.int .u64 U.pa) ∧ w'.cell? ⟨b1, 3, none⟩ = some (.int .i64 U.dom) ∧ w'.cell? ⟨b1, 4, none⟩ = some (.int .i64 U.ap) ∧ w'.cell? ⟨b1, 5, none⟩ = some (.int .u32 U.bits) ∧ w'.cell? ⟨b1, 6, none⟩ = some (.bool U.ng) ∧ w'.cell? ⟨b1, 7, none⟩ = some (.bool U.xn) ∧ w'.cell? ⟨be, 0, none⟩ = some (.int .i64 e2.kind) ∧ w'.cell? ⟨be, 1, none⟩ = some (.int .u64 e2.base) ∧ w'.cell? ⟨be, 2, none⟩ = some (.int .i64 e2.dom) ∧ w'.cell? ⟨be, 3, none⟩ = some (.bool e2.ns) ∧ w'.cell? ⟨be, 4, none⟩ = some (.int .i64 e2.ap) ∧ w'.cell? ⟨be, 5, none⟩ = some (.int .u32 e2.bits) ∧ w'.cell? ⟨be, 6, none⟩ = some (.bool e2.ng) ∧ w'.cell? ⟨be, 7, none⟩ = some (.bool e2.xn)) (exact hS _ (by ((repeat (first | (with_reducible refine Below.setCell ?_ (by first | exact Nat.le_refl _ | (dsimp only; omega)) _) | (with_reducible refine Below.alloc ?_ (by first | omega | (simp; omega) | simp) _) | (with_reducible refine below_drew ?_))); (first | (with_reducible exact HB1.out) | (with_reducible exact Below.refl _ _))))) (first | (go_at_call 20; refine (HTR.out _ (HTT.out _ (by ((repeat (first | (with_reducible refine Below.setCell ?_ (by first | exact Nat.le_refl _ | (dsimp only; omega)) _) | (with_reducible refine Below.alloc ?_ (by first | omega | (simp; omega) | simp) _) | (with_reducible refine below_drew ?_))); (first | (with_reducible exact HB1.out) | (with_reducible exact Below.refl _ _)))))).mono ?_; rintro e w1 ⟨rfl, hb⟩; have HB2 : Hid (Below wA.heap.size wA w1) := Below.step (by ((repeat (first | (with_reducible refine Below.setCell ?_ (by first | exact Nat.le_refl _ | (dsimp only; omega)) _) | (with_reducible refine Below.alloc ?_ (by first | omega | (simp; omega) | simp) _) | (with_reducible refine below_drew ?_))); (first | (with_reducible exact HB1.out) | (with_reducible exact Below.refl _ _)))) hb; have HB1 := HB2; have hs1 := HB1.out.size; clear hb))
    all_goals
      go_wp2_with fail
      go_meet
      exact ⟨rfl, by first | exact HB1 | exact hidW (by ((repeat (first | (with_reducible refine Below.setCell ?_ (by first | exact Nat.le_refl _ | (dsimp only; omega)) _) | (with_reducible refine Below.alloc ?_ (by first | omega | (simp; omega) | simp) _) | (with_reducible refine below_drew ?_))); (first | (with_reducible exact HB1.out) | (with_reducible exact Below.refl _ _))))⟩
  case rest =>
    obtain ⟨rfl, HCU⟩ := hcut
    have HKB := hidW (HKA.out.below HCU.out)
    have HTB := hidW (HTA.out.below HCU.out)
    clear HCU HKA HTA HEA hS HTT HB1 hs1 HTR
    generalize wc = wB at *
    have c0 := HKB.out.C.cell
    have c1 := HTB.out.cell
    have hbo : Below wB.heap.size wB (wB.alloc (.cells #[.bool true, .bool c.tre, .bool false, .int .i64 c.n, .bool c.pd0, .bool c.pd1, .int .u64 c.b0, .int .u64 c.b1, .int .u32 4294967295, .int .u32 c.prrr, .int .u32 c.nmrr, .int .i64 c.asid] 26)) := below_new _ _
    have HBO : Hid (Bl (wB.alloc (.cells #[.bool true, .bool c.tre, .bool false, .int .i64 c.n, .bool c.pd0, .bool c.pd1, .int .u64 c.b0, .int .u64 c.b1, .int .u32 4294967295, .int .u32 c.prrr, .int .u32 c.nmrr, .int .i64 c.asid] 26)) wB.heap.size 26 [.bool true, .bool c.tre, .bool false, .int .i64 c.n, .bool c.pd0, .bool c.pd1, .int .u64 c.b0, .int .u64 c.b1, .int .u32 4294967295, .int .u32 c.prrr, .int .u32 c.nmrr, .int .i64 c.asid]) := Bl.new wB 26 [.bool true, .bool c.tre, .bool false, .int .i64 c.n, .bool c.pd0, .bool c.pd1, .int .u64 c.b0, .int .u64 c.b1, .int .u32 4294967295, .int .u32 c.prrr, .int .u32 c.nmrr, .int .i64 c.asid]
    have HK8 := hidW (HKB.out.below hbo)
    have HT8 := hidW (HTB.out.below hbo)
    have HC := hidW (HK8.out.go (opn c) hon1 va hv false 3)
    rw [HGO.out] at HC
    simp only [opn, fZ, hon] at HC
    have c8 := HBO.out.cell
    have c9 := HT8.out.cell
    go_wp2_with fail
    go_at_call 21
    refine HC.out.mono ?_
    rintro e w8 ⟨rfl, hb⟩
    have hb' := Below.step hb (below_new w8 (.cells #[.int .i64 0, .int .i64 0, .int .i64 0] 37))
    have HK9 := hidW (HK8.out.below hb')
    have HT9 := hidW (HT8.out.below hb')
    have HO9 := hidW (HBO.out.below hb')
    have HF9 : Hid (Bl (w8.alloc (.cells #[.int .i64 0, .int .i64 0, .int .i64 0] 37)) w8.heap.size 37 [.int .i64 0, .int .i64 0, .int .i64 0]) := Bl.new w8 37 _
    clear hb hb' hbo HK8 HT8 HBO HC c8 c9
    have HC := hidW (HK9.out.go (opn c) hon1 (va / 4096 * 4096) hv4 false 3)
    rw [HGP.out] at HC
    simp only [opn, fZ, hon] at HC
    have c8 := HO9.out.cell
    go_wp2_with fail
    go_at_call 21
    refine HC.out.mono ?_
    rintro e w9 ⟨rfl, hb⟩
    have hb' := Below.step hb (below_new w9 (.cells #[.int .i64 0, .int .i64 0, .int .i64 0] 37))
    have HE := hidW ((HK9.out.below hb').bel)
    have HT := hidW (HT9.out.below hb')
    have HF := hidW (HF9.out.below hb')
    have HF2 : Hid (Bl (w9.alloc (.cells #[.int .i64 0, .int .i64 0, .int .i64 0] 37)) w9.heap.size 37 [.int .i64 0, .int .i64 0, .int .i64 0]) := Bl.new w9 37 _
    clear hb hb' HK9 HT9 HO9 HF9 HC c8
    have c8 := HT.out.cell
    have c9 := HF.out.cell
    have c10 := HF2.out.cell
    go_wp2
    go_ret
    exact ⟨by first | rfl | (rw [hon]), by first | exact HE.out | (rw [← hx]; exact HE.out)⟩
end Go.Proofs.YtmodcbdgnmjkoaaDoor
namespace Go.Proofs.YtmodcbdgnmjkoaaDoor
open Go.RowKit
open Mm (Turn gr PM RM valV errV Byts setV)
set_option linter.unusedVariables false
set_option linter.unusedSimpArgs false
theorem pm_byts (N : Nat) (ps : List Pt) (k : Nat) : Byts (pm N ps k) := by
  unfold pm
  generalize ps.take k = l
  have h : ∀ (l : List Pt) (m : Nat → Int), Byts m → Byts (l.foldl (fun m p => setV N m p.pa.toNat 4 p.w) m) := by
    intro l
    induction l with
    | nil => exact fun m h => h
    | cons p l ih =>
      intro m h
      refine ih _ ?_
      show Byts (setV N m p.pa.toNat 4 p.w)
      unfold setV
      split
      · refine Mm.wrs_byts h _ ?_
        intro v hv
        rw [Mm.byt4] at hv
        simp at hv
        omega
      · exact h
  exact h l _ (fun _ => by omega)
theorem law_pages (W : World) (f : Int) (a : Option Addr) (cap : Nat) (ps : List Pt) (hp : PutsAt W a ps) (hl : ps.length ≤ 9223372036854775807) (c : Ctx) (hc : c.Ok) (va : Int) (hv : 0 ≤ va ∧ va < 4294967296) (vb : Int) (hvb : 0 ≤ vb ∧ vb < 4294967296) (ht : TC W) :
    Calls Tryd.prog 4 #[.int .i64 f, .slice a ps.length cap, .agg #[.bool c.on, .bool c.tre, .bool c.afe, .int .i64 c.n, .bool c.pd0, .bool c.pd1, .int .u64 c.b0, .int .u64 c.b1, .int .u32 c.dacr, .int .u32 c.prrr, .int .u32 c.nmrr, .int .i64 c.asid], .int .u32 va, .int .u32 vb] W fun e W' => e = .returned (.bool true) ∧ Below W.heap.size W W' := by
  by_cases hf : f < 1 ∨ 65536 < f
  · exact law_pages_bad W ht f hf _ c va vb
  · obtain ⟨N, rfl⟩ : ∃ N : Nat, f = N := ⟨f.toNat, by omega⟩
    have h1 : 1 ≤ N := by omega
    have h2 : N ≤ 65536 := by omega
    obtain ⟨U, F, hwk⟩ : ∃ U F, wk (ramMo N (pm N ps ps.length)) c va = (U, F) := ⟨_, _, rfl⟩
    have hB : Byts (pm N ps ps.length) := pm_byts N ps ps.length
    rcases Classical.em (¬ F.k = 0) with hk | hk
    · obtain ⟨hU, hon⟩ := missed hwk hk
      exact pages_fault W N h1 h2 a cap ps hp hl c hc va hv vb hvb ht U F hwk hk hU hon
    · obtain ⟨hF, hfn, hh⟩ := found (ramMo_ok (N := N) hB) hc hv hwk (Classical.not_not.1 hk)
      rcases hh with ⟨hon, hU, hr⟩ | ⟨hon, hr, he, htr, hsz⟩ | ⟨hon, s, hr, hs, he, htr, hsz⟩
      · exact pages_off W N h1 h2 a cap ps hp hl c hc va hv vb hvb ht U F hwk hF hfn hon hU hr
      · by_cases hs3 : U.size = 3
        · exact pages_sec W N h1 h2 a cap ps hp hl c hc va hv vb hvb ht U F hwk hF hfn hon hr he htr hsz hs3
        · exact pages_sup W N h1 h2 a cap ps hp hl c hc va hv vb hvb ht U F hwk hF hfn hon hr he htr hsz hs3
      · exact pages_two W N h1 h2 a cap ps hp hl c hc va hv vb hvb ht U F hwk hF hfn hon s hr hs he htr hsz
end Go.Proofs.YtmodcbdgnmjkoaaDoor
