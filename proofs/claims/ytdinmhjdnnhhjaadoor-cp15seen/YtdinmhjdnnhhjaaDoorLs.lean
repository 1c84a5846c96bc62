import Derived.Test.YtdinmhjdnnhhjaaDoorLm
import Derived.Test.YtdinmhjdnnhhjaaDoorLj
import Derived.Test.YtdinmhjdnnhhjaaDoorLi
namespace Go.Proofs.YtdinmhjdnnhhjaaDoor
open Go.RowKit
set_option linter.unusedVariables false
set_option linter.unusedSimpArgs false
set_option maxRecDepth 100000 in
set_option maxHeartbeats 8000000 in
theorem law_seen (W : World) (sa : Option Addr) (cap : Nat) (ops : List Opr) (x : Int) (hS : Scr W sa ops) (hT : TR W) (hl : ops.length ≤ maxLen) (hx : 0 ≤ x ∧ x < 4294967296) :
    Calls Tryd.prog 5 #[.slice sa ops.length cap, .int .u32 x] W fun e W' => e = .returned (.bool true) ∧ Below W.heap.size W W' := by
  obtain ⟨x, rfl⟩ := Int.eq_ofNat_of_zero_le hx.1
  have hx : x < 4294967296 := by omega
  unfold maxLen at hl
  have hno := no_any
  have HT : Hid (TR W) := hT
  have HS0 : Hid (Scr W sa ops) := hS
  generalize hn : ops.length = m at *
  have HN : Hid (ops.length = m) := hn
  clear hT hS hn
  go_enter Tryd.func5, Tryd.ntmps5
  go_wp2_with (fail)
  go_at_call 8
  refine (new_any W HT.out).mono ?_
  rintro e w1 ⟨rfl, hf1, hb1⟩
  have H1 : Hid (Fi 63 w1 W.heap.size fZ ∧ Below W.heap.size W w1 ∧ TR w1) := ⟨hf1, hb1, HT.out.below hb1⟩
  clear hf1 hb1
  go_wp2_with (fail)
  go_at_call 8
  refine (new_any w1 H1.out.2.2).mono ?_
  rintro e w2 ⟨rfl, hf1, hb1⟩
  have HS : Hid _ := Tw.start HT.out H1.out.1 H1.out.2.1 hf1 hb1
  clear hf1 hb1 H1 HT
  go_wp2_with (fail)
  go_at_call 9
  refine (live_any w2 HS.out.tr).mono ?_
  rintro e w3 ⟨rfl, hb⟩
  have HS : Hid (Tw W w3 W.heap.size w1.heap.size fZ fZ) := HS.out.step hb
  clear hb
  go_wp2
  generalize w1.heap.size = q at *
  go_loopw [7] (fun s7 wr => ∃ (k : Nat) (F : List Nat), k ≤ m ∧ s7 = .int .i64 k ∧ Tw W wr W.heap.size q F fZ ∧ Kp F) (fun s7 _ => m - (intOf s7).toNat)
  case atStart => exact ⟨0, fZ, Nat.zero_le _, rfl, HS.out, Kp.zero⟩
  case round =>
    obtain ⟨k, F, hk, rfl, hX, hK⟩ := hrel
    clear HS
    have HS : Hid (Tw W wr W.heap.size q F fZ) := hX
    have HK : Hid (Kp F) := hK
    clear hX hK
    by_cases hlt : k < m
    · obtain ⟨o, b, off, rfl, hbl, ho, e0, e1, e2, e3, e4, e5, e6, e7⟩ := HS0.out.at HS.out.bel (k := k) (by rw [HN.out]; exact hlt)
      have hi : (k : Int) < (m : Int) := by omega
      have hd := does_any W.heap.size o F wr HS.out.f HS.out.tr ho
      have hw : IntKind.i64.wrap ((k : Int) + 1) = ((k + 1 : Nat) : Int) := by rw [IntKind.wrap_i64]; omega
      go_wp2_with (go_at_call 11; refine hd.mono ?_; clear hd; rintro e w4 ⟨rfl, hf, hb⟩; have HS2 : Hid (Tw W w4 W.heap.size q (dsF F o).2.2 fZ) := HS.out.turnF hf hb; clear hf hb)
      go_roundw
      case rel => exact ⟨k + 1, _, by omega, by go_num, HS2.out, dsF_kp HK.out HS.out.f.len o⟩
      case measure => simp [intOf]; omega
    · have hge : ¬ (k : Int) < (m : Int) := by omega
      have HL : Hid (F.length = 13) := HS.out.f.len
      have hz := zero31
      go_wp2_with (fail)
      go_at_call 10
      refine (held_any _ _ _ HS.out.f).mono ?_
      rintro e w5 ⟨rfl, hb⟩
      have HS : Hid (Tw W w5 W.heap.size q F fZ) := HS.out.step hb
      obtain ⟨h31a, h31b, h31c⟩ := store31 w5 F HL.out
      have HA : Hid _ := h31a
      have HB : Hid _ := h31b
      have HC : Hid (Bl _ w5.heap.size 31 (encF F)) := h31c
      have HI : Hid _ := info31F F HL.out
      have HO : Hid ((encF F).toArray.all (·.oneCell') = true) := all_oneCell_toArray (encF_one F)
      clear hb h31a h31b h31c HS0 HN
      generalize hE : encF F = E at *
      have HE : Hid (encF F = E) := hE
      clear hE
      generalize encF (List.replicate 13 0) = Z0 at *
      go_wp2_with (first
        | (guard_target =~ wpList _ _ _ (Oper.mk none _ _ _ _ _ :: _) _ _; refine wpList_store_mid rfl 31 (.tmp 8) (.tmp 37) rfl w5.heap.size 0 E.toArray rfl rfl HA.out HI.out HO.out ?_; clear HA HI HO; dsimp only at HB HC ⊢; generalize World.setCells _ w5.heap.size 0 _ = V at *)
        | go_in)
      have HS3 : Hid (Tw W V W.heap.size q F fZ) := HS.out.step HB.out
      have HC3 : Hid (Bl V w5.heap.size 31 (encF F)) := by rw [HE.out]; exact HC.out
      have hgq : ¬ w5.heap.size = q := by have := HS.out.g.lt; omega
      clear HB HC HS hz
      generalize w5.heap.size = g at *
      generalize wr = wz at *
      go_loopw [9] (fun s9 wr => ∃ (r : Nat) (G : List Nat), r ≤ 13 ∧ s9 = .int .i64 ((r : Int) - 1) ∧ Tw W wr W.heap.size q F G ∧ Put2 F G r ∧ Bl wr g 31 (encF F)) (fun s9 _ => (intOf s9 + 1).toNat)
      case atStart => exact ⟨13, fZ, Nat.le_refl _, rfl, HS3.out, fun j h1 h2 => by have := h2.1; omega, HC3.out⟩
      case round =>
        obtain ⟨r, G, hr, rfl, hX, hP, hC⟩ := hrel
        have HX : Hid (Tw W wr W.heap.size q F G) := hX
        have HP : Hid (Put2 F G r) := hP
        have HC : Hid (Bl wr g 31 (encF F)) := hC
        clear hX hP hC HS3 HC3
        by_cases h0 : 0 < r
        · obtain ⟨j, rfl⟩ : ∃ j, r = j + 1 := ⟨r - 1, by omega⟩
          have hj : j < 13 := by omega
          have hj1 : ((j + 1 : Nat) : Int) - 1 = (j : Int) := by omega
          rw [hj1]
          have hj2 : (j : Int) < 13 := by omega
          have c0 := bl13 HC.out HL.out hj
          have l0 := HC.out.lt
          have hws : IntKind.i64.wrap ((j : Int) - 1) = (j : Int) - 1 := by rw [IntKind.wrap_i64]; omega
          have hlt := HX.out.f.lt32 j
          have HPt : Hid (∀ v : Nat, v < 4294967296 → Calls Tryd.prog 14 #[.pointer (some ⟨q, 0, none⟩), .int .i64 (j : Int), .int .u32 (v : Int)] wr fun e w' => e = .returned (.int .i64 0) ∧ Fi 63 w' q (G.set j (keepW j v)) ∧ Turn (· = q) wr w') := fun v hv => by
            have := put_any q G j v wr HX.out.g HX.out.tr hv
            rwa [(pt_yes G j v hj).1, (pt_yes G j v hj).2] at this
          have HN : Hid (∀ v, (cxR j → v = F.getD j 0) → Put2 F (G.set j (keepW j v)) j) := fun v hv => HP.out.step HK.out HX.out.g.len hj v hv
          clear hj1 hr h0 HP
          by_cases h5 : 5 ≤ j ∧ j ≤ 9
          · have d5 : decide (5 ≤ (j : Int)) = true := by simp; omega
            have d9 : decide ((j : Int) ≤ 9) = true := by simp; omega
            have hnc : cxR j → x = F.getD j 0 := fun h => absurd h5 h.2
            have HNx : Hid (Put2 F (G.set j (keepW j x)) j) := HN.out x hnc
            have hput := HPt.out x hx
            clear h5 hnc HN HPt
            generalize F.getD j 0 = vj at *
            go_wp2_with (first
              | (go_at_call 13; refine (hno _ _).mono ?_; rintro e w' ⟨rfl, rfl⟩)
              | (go_at_call 14; refine hput.mono ?_; clear hput; rintro e w6 ⟨rfl, hf, hb⟩; have HX6 : Hid (Tw W w6 W.heap.size q F (G.set j (keepW j x))) := HX.out.turnG hf hb; have HC6 : Hid (Bl w6 g 31 (encF F)) := HC.out.turn hb hgq; clear hf hb))
            go_roundw
            case rel => exact ⟨j, _, by omega, rfl, HX6.out, HNx.out, HC6.out⟩
            case measure => simp [intOf]
          · have hd : (decide (5 ≤ (j : Int)) = true ∧ decide ((j : Int) ≤ 9) = false) ∨ decide (5 ≤ (j : Int)) = false := by
              by_cases h6 : 5 ≤ j
              · exact .inl ⟨by simp; omega, by simp; omega⟩
              · exact .inr (by simp; omega)
            have HNx : Hid (Put2 F (G.set j (keepW j (F.getD j 0))) j) := HN.out _ (fun _ => rfl)
            have hput := HPt.out _ hlt
            clear h5 HN HPt
            generalize F.getD j 0 = vj at *
            rcases hd with ⟨d5, d9⟩ | d5
            all_goals
              go_wp2_with (first
                | (go_at_call 13; refine (hno _ _).mono ?_; rintro e w' ⟨rfl, rfl⟩)
                | (go_at_call 14; refine hput.mono ?_; clear hput; rintro e w6 ⟨rfl, hf, hb⟩; have HX6 : Hid (Tw W w6 W.heap.size q F (G.set j (keepW j vj))) := HX.out.turnG hf hb; have HC6 : Hid (Bl w6 g 31 (encF F)) := HC.out.turn hb hgq; clear hf hb))
              go_roundw
              case rel => exact ⟨j, _, by omega, rfl, HX6.out, HNx.out, HC6.out⟩
              case measure => simp [intOf]
        · obtain rfl : r = 0 := by omega
          have HQ : Hid (ctF G = ctF F) := ctF_same (fun j hj => HP.out j (Nat.zero_le _) hj)
          clear h0 hr HP
          go_wp2_with (fail)
          go_at_call 19
          refine (context_any _ _ _ HX.out.f).mono ?_
          rintro e w7 ⟨rfl, hb⟩
          have HX7 : Hid (Tw W w7 W.heap.size q F G) := HX.out.step hb
          have HC7 : Hid (Bl w7 g 31 (encF F)) := HC.out.below hb
          clear hb HX HC
          have hcn : (ctF F).n < 8 := Nat.mod_lt _ (by omega)
          have hca : (ctF F).asid = F.getD 12 0 % 256 := rfl
          have hcd : (ctF F).dacr = F.getD 4 0 := rfl
          have hco : (ctF F).on = ((F.getD 0 0 : Int) % 2 == 1) := by
            show bitB (F.getD 0 0) 0 = _
            unfold bitB
            rw [Nat.pow_zero, Nat.div_one]
            generalize F.getD 0 0 = z
            rw [Bool.eq_iff_iff]
            simp
            omega
          have hcontext := context_any q G
          rw [HQ.out] at hcontext
          have heq := eqX (ctF F)
          have x12 := HX7.out.f.lt32 12
          have y12 := fun (w : World) (h : Bl w g 31 (encF F)) => bl13 h HL.out (show 12 < 13 by omega)
          have y4 := fun (w : World) (h : Bl w g 31 (encF F)) => bl13 h HL.out (show 4 < 13 by omega)
          have y0 := fun (w : World) (h : Bl w g 31 (encF F)) => bl13 h HL.out (show 0 < 13 by omega)
          generalize F.getD 12 0 = X12 at *
          generalize F.getD 4 0 = X4 at *
          generalize F.getD 0 0 = X0 at *
          generalize ctF F = C at *
          have HZ : Hid (∀ w' : World, Bl w' w7.heap.size 54 ([.bool C.on, .bool C.tre, .bool C.afe, .int .i64 (C.n : Nat), .bool C.pd0, .bool C.pd1, .int .u64 (C.b0 : Nat), .int .u64 (C.b1 : Nat), .int .u32 (C.dacr : Nat), .int .u32 (C.prrr : Nat), .int .u32 (C.nmrr : Nat), .int .i64 (C.asid : Nat)]) → Bl w' g 31 (encF F) → w'.cell? ⟨w7.heap.size, 0, none⟩ = some (.bool C.on) ∧ w'.cell? ⟨w7.heap.size, 1, none⟩ = some (.bool C.tre) ∧ w'.cell? ⟨w7.heap.size, 2, none⟩ = some (.bool C.afe) ∧ w'.cell? ⟨w7.heap.size, 3, none⟩ = some (.int .i64 (C.n : Nat)) ∧ w'.cell? ⟨w7.heap.size, 4, none⟩ = some (.bool C.pd0) ∧ w'.cell? ⟨w7.heap.size, 5, none⟩ = some (.bool C.pd1) ∧ w'.cell? ⟨w7.heap.size, 6, none⟩ = some (.int .u64 (C.b0 : Nat)) ∧ w'.cell? ⟨w7.heap.size, 7, none⟩ = some (.int .u64 (C.b1 : Nat)) ∧ w'.cell? ⟨w7.heap.size, 8, none⟩ = some (.int .u32 (C.dacr : Nat)) ∧ w'.cell? ⟨w7.heap.size, 9, none⟩ = some (.int .u32 (C.prrr : Nat)) ∧ w'.cell? ⟨w7.heap.size, 10, none⟩ = some (.int .u32 (C.nmrr : Nat)) ∧ w'.cell? ⟨w7.heap.size, 11, none⟩ = some (.int .i64 (C.asid : Nat)) ∧ w'.cell? ⟨g, 12, none⟩ = some (.int .u32 (X12 : Int)) ∧ w'.cell? ⟨g, 4, none⟩ = some (.int .u32 (X4 : Int)) ∧ w'.cell? ⟨g, 0, none⟩ = some (.int .u32 (X0 : Int))) := fun w' h1 h2 => ⟨by rw [h1.cell]; rfl, by rw [h1.cell]; rfl, by rw [h1.cell]; rfl, by rw [h1.cell]; rfl, by rw [h1.cell]; rfl, by rw [h1.cell]; rfl, by rw [h1.cell]; rfl, by rw [h1.cell]; rfl, by rw [h1.cell]; rfl, by rw [h1.cell]; rfl, by rw [h1.cell]; rfl, by rw [h1.cell]; rfl, y12 _ h2, y4 _ h2, y0 _ h2⟩
          have HD8 : Hid (Bl (w7.alloc (.cells ([.bool C.on, .bool C.tre, .bool C.afe, .int .i64 (C.n : Nat), .bool C.pd0, .bool C.pd1, .int .u64 (C.b0 : Nat), .int .u64 (C.b1 : Nat), .int .u32 (C.dacr : Nat), .int .u32 (C.prrr : Nat), .int .u32 (C.nmrr : Nat), .int .i64 (C.asid : Nat)]).toArray 54)) w7.heap.size 54 ([.bool C.on, .bool C.tre, .bool C.afe, .int .i64 (C.n : Nat), .bool C.pd0, .bool C.pd1, .int .u64 (C.b0 : Nat), .int .u64 (C.b1 : Nat), .int .u32 (C.dacr : Nat), .int .u32 (C.prrr : Nat), .int .u32 (C.nmrr : Nat), .int .i64 (C.asid : Nat)])) := Bl.new _ _ _
          have HC8 : Hid (Bl (w7.alloc (.cells ([.bool C.on, .bool C.tre, .bool C.afe, .int .i64 (C.n : Nat), .bool C.pd0, .bool C.pd1, .int .u64 (C.b0 : Nat), .int .u64 (C.b1 : Nat), .int .u32 (C.dacr : Nat), .int .u32 (C.prrr : Nat), .int .u32 (C.nmrr : Nat), .int .i64 (C.asid : Nat)]).toArray 54)) g 31 (encF F)) := HC7.out.below (below_new _ _)
          have HX8 : Hid (Tw W (w7.alloc (.cells ([.bool C.on, .bool C.tre, .bool C.afe, .int .i64 (C.n : Nat), .bool C.pd0, .bool C.pd1, .int .u64 (C.b0 : Nat), .int .u64 (C.b1 : Nat), .int .u32 (C.dacr : Nat), .int .u32 (C.prrr : Nat), .int .u32 (C.nmrr : Nat), .int .i64 (C.asid : Nat)]).toArray 54)) W.heap.size q F G) := HX7.out.step (below_new _ _)
          have HCt : Hid (∀ w, Fi 63 w q G → Calls Tryd.prog 19 #[.pointer (some ⟨q, 0, none⟩)] w fun e w' => e = .returned (.agg #[.bool C.on, .bool C.tre, .bool C.afe, .int .i64 (C.n : Nat), .bool C.pd0, .bool C.pd1, .int .u64 (C.b0 : Nat), .int .u64 (C.b1 : Nat), .int .u32 (C.dacr : Nat), .int .u32 (C.prrr : Nat), .int .u32 (C.nmrr : Nat), .int .i64 (C.asid : Nat)]) ∧ Below w.heap.size w w') := hcontext
          have d2 : decide ((C.n : Int) ≤ 7) = true := by simp; omega
          have d4 : decide ((C.asid : Int) ≤ 255) = true := by simp; omega
          have hm : (X12 : Int) % 256 = (C.asid : Int) := by omega
          have hwr : IntKind.i64.wrap (C.asid : Int) = C.asid := by rw [IntKind.wrap_i64]; omega
          clear y12 y4 y0 hcontext HX7 HC7 hcn hca x12 HQ
          subst hcd
          have hco2 : ((X0 : Int) % 2 == 1) = C.on := hco.symm
          have hm2 : (X12 : Int).tmod 256 = (C.asid : Int) := by rw [Int.tmod_eq_emod_of_nonneg (by omega)]; exact hm
          have hm3 : IntKind.u32.wrap ((C.asid : Int)) = (C.asid : Int) := by rw [IntKind.wrap_u32']; omega
          have hm4 : (X0 : Int).tmod 2 = (X0 : Int) % 2 := Int.tmod_eq_emod_of_nonneg (by omega)
          have hm5 : IntKind.u32.wrap ((X0 : Int) % 2) = (X0 : Int) % 2 := by rw [IntKind.wrap_u32']; omega
          clear hco
          go_wp2
          generalize w7.alloc _ = w8 at *
          refine wp_region_held_drew (S := fun w' => w'.cell? ⟨w7.heap.size, 0, none⟩ = some (.bool C.on) ∧ w'.cell? ⟨w7.heap.size, 1, none⟩ = some (.bool C.tre) ∧ w'.cell? ⟨w7.heap.size, 2, none⟩ = some (.bool C.afe) ∧ w'.cell? ⟨w7.heap.size, 3, none⟩ = some (.int .i64 (C.n : Nat)) ∧ w'.cell? ⟨w7.heap.size, 4, none⟩ = some (.bool C.pd0) ∧ w'.cell? ⟨w7.heap.size, 5, none⟩ = some (.bool C.pd1) ∧ w'.cell? ⟨w7.heap.size, 6, none⟩ = some (.int .u64 (C.b0 : Nat)) ∧ w'.cell? ⟨w7.heap.size, 7, none⟩ = some (.int .u64 (C.b1 : Nat)) ∧ w'.cell? ⟨w7.heap.size, 8, none⟩ = some (.int .u32 (C.dacr : Nat)) ∧ w'.cell? ⟨w7.heap.size, 9, none⟩ = some (.int .u32 (C.prrr : Nat)) ∧ w'.cell? ⟨w7.heap.size, 10, none⟩ = some (.int .u32 (C.nmrr : Nat)) ∧ w'.cell? ⟨w7.heap.size, 11, none⟩ = some (.int .i64 (C.asid : Nat)) ∧ w'.cell? ⟨g, 12, none⟩ = some (.int .u32 (X12 : Int)) ∧ w'.cell? ⟨g, 4, none⟩ = some (.int .u32 (C.dacr : Nat)) ∧ w'.cell? ⟨g, 0, none⟩ = some (.int .u32 (X0 : Int))) (by kernel_rfl) (HZ.out _ HD8.out.drew HC8.out.drew) (fun hHeld => ?_)
          refine wpAnyH_take (i := 0) (oi := { dst := some 60, op := Op.load 54 (Operand.tmp 11), type := 54, pos := _, after := #[], guard := none }) (v := ?_) rfl (by kernel_rfl) (by kernel_rfl) (by kernel_rfl) (fun _ _ _ h => h) (Or.inl ⟨by rfl, ?_⟩) (by assumption) ?_
          rotate_left
          · (intro w hSw; (try dsimp only at hSw); go_simp; try with_reducible rfl)
          simp only [Act.put, List.setIfInBounds_toArray, List.set_cons_zero, List.set_cons_succ]
          refine wpAnyH_take (i := 1) (oi := { dst := some 61, op := Op.move (Operand.tmp 6), type := 23, pos := _, after := #[], guard := none }) (v := ?_) rfl (by kernel_rfl) (by kernel_rfl) (by kernel_rfl) (fun _ _ _ h => h) (Or.inl ⟨by rfl, ?_⟩) (by assumption) ?_
          rotate_left
          · (intro w hSw; (try dsimp only at hSw); go_simp; try with_reducible rfl)
          simp only [Act.put, List.setIfInBounds_toArray, List.set_cons_zero, List.set_cons_succ]
          refine wpAnyH_ready (rs := [2]) (by kernel_rfl) (by simp) ?_
          refine AllReadyH.cons (o := { dst := some 62, op := Op.call { callee := Callee.value (Operand.func 19), args := #[Operand.tmp 61], argTypes := #[23] }, type := 54, pos := _, after := #[{ on := 1, ground := Ground.data }], guard := none }) rfl (fun K hK => ?_) AllReadyH.nil
          go_simp
          (go_at_call 19; refine (HCt.out _ HX8.out.g.drew).mono ?_; rintro e w9 ⟨rfl, hb⟩; have HD9 : Hid (Bl w9 w7.heap.size 54 ([.bool C.on, .bool C.tre, .bool C.afe, .int .i64 (C.n : Nat), .bool C.pd0, .bool C.pd1, .int .u64 (C.b0 : Nat), .int .u64 (C.b1 : Nat), .int .u32 (C.dacr : Nat), .int .u32 (C.prrr : Nat), .int .u32 (C.nmrr : Nat), .int .i64 (C.asid : Nat)])) := HD8.out.drew.below hb; have HC9 : Hid (Bl w9 g 31 (encF F)) := HC8.out.drew.below hb; have HB9 : Hid (Below W.heap.size W w9) := Below.step (below_drew HX8.out.bel) hb; clear hb; go_wp2_with fail)
          refine hK.out _ _ ?_ (fun hHeld => ?_)
          · ((try dsimp only); exact HZ.out _ HD9.out HC9.out)
          clear hK K
          try simp only [Act.put, List.setIfInBounds_toArray, List.set_cons_zero, List.set_cons_succ]
          refine wpAnyH_take (i := 3) (oi := { dst := some 63, op := Op.binOp BinOp.eql 54 (Operand.tmp 60) (Operand.tmp 62) 54, type := 4, pos := _, after := #[{ on := 0, ground := Ground.data }, { on := 2, ground := Ground.data }], guard := none }) (v := ?_) rfl (by kernel_rfl) (by kernel_rfl) (by kernel_rfl) (fun _ _ _ h => h) (Or.inl ⟨by rfl, ?_⟩) (by assumption) ?_
          rotate_left
          · (intro w hSw; (try dsimp only at hSw); go_simp; try with_reducible rfl)
          simp only [Act.put, List.setIfInBounds_toArray, List.set_cons_zero, List.set_cons_succ]
          refine wpAnyH_take (i := 4) (oi := { dst := some 64, op := Op.move (Operand.tmp 63), type := 4, pos := _, after := #[{ on := 3, ground := Ground.data }, { on := 2, ground := Ground.chain }], guard := none }) (v := ?_) rfl (by kernel_rfl) (by kernel_rfl) (by kernel_rfl) (fun _ _ _ h => h) (Or.inl ⟨by rfl, ?_⟩) (by assumption) ?_
          rotate_left
          · (intro w hSw; (try dsimp only at hSw); go_simp; try with_reducible rfl)
          simp only [Act.put, List.setIfInBounds_toArray, List.set_cons_zero, List.set_cons_succ]
          refine wpAnyH_take (i := 5) (oi := { dst := some 65, op := Op.fieldAddr 54 (Operand.tmp 11) 3, type := 0, pos := _, after := #[{ on := 4, ground := Ground.guard }], guard := some (4, true) }) (v := ?_) rfl (by kernel_rfl) (by kernel_rfl) (by kernel_rfl) (fun _ _ _ h => h) (Or.inl ⟨by rfl, ?_⟩) (by assumption) ?_
          rotate_left
          · (intro w hSw; (try dsimp only at hSw); go_simp; try with_reducible rfl)
          simp only [Act.put, List.setIfInBounds_toArray, List.set_cons_zero, List.set_cons_succ]
          refine wpAnyH_take (i := 6) (oi := { dst := some 66, op := Op.load 3 (Operand.tmp 65), type := 3, pos := _, after := #[{ on := 5, ground := Ground.data }, { on := 4, ground := Ground.guard }], guard := some (4, true) }) (v := ?_) rfl (by kernel_rfl) (by kernel_rfl) (by kernel_rfl) (fun _ _ _ h => h) (Or.inl ⟨by rfl, ?_⟩) (by assumption) ?_
          rotate_left
          · (intro w hSw; (try dsimp only at hSw); go_simp; try with_reducible rfl)
          simp only [Act.put, List.setIfInBounds_toArray, List.set_cons_zero, List.set_cons_succ]
          refine wpAnyH_take (i := 7) (oi := { dst := some 67, op := Op.binOp BinOp.geq 3 (Operand.tmp 66) (Operand.const (Value.int IntKind.i64 0)) 3, type := 4, pos := _, after := #[{ on := 6, ground := Ground.data }, { on := 4, ground := Ground.guard }], guard := some (4, true) }) (v := ?_) rfl (by kernel_rfl) (by kernel_rfl) (by kernel_rfl) (fun _ _ _ h => h) (Or.inl ⟨by rfl, ?_⟩) (by assumption) ?_
          rotate_left
          · (intro w hSw; (try dsimp only at hSw); go_simp; try with_reducible rfl)
          simp only [Act.put, List.setIfInBounds_toArray, List.set_cons_zero, List.set_cons_succ]
          refine wpAnyH_take (i := 8) (oi := { dst := some 68, op := Op.pick (Operand.tmp 64) (Operand.tmp 67) (Operand.const (Value.bool false)), type := 4, pos := _, after := #[{ on := 4, ground := Ground.data }, { on := 7, ground := Ground.data }], guard := none }) (v := ?_) rfl (by kernel_rfl) (by kernel_rfl) (by kernel_rfl) (fun _ _ _ h => h) (Or.inl ⟨by rfl, ?_⟩) (by assumption) ?_
          rotate_left
          · (intro w hSw; (try dsimp only at hSw); go_simp; try with_reducible rfl)
          simp only [Act.put, List.setIfInBounds_toArray, List.set_cons_zero, List.set_cons_succ]
          refine wpAnyH_take (i := 9) (oi := { dst := some 69, op := Op.move (Operand.tmp 68), type := 4, pos := _, after := #[{ on := 8, ground := Ground.data }, { on := 4, ground := Ground.chain }], guard := none }) (v := ?_) rfl (by kernel_rfl) (by kernel_rfl) (by kernel_rfl) (fun _ _ _ h => h) (Or.inl ⟨by rfl, ?_⟩) (by assumption) ?_
          rotate_left
          · (intro w hSw; (try dsimp only at hSw); go_simp; try with_reducible rfl)
          simp only [Act.put, List.setIfInBounds_toArray, List.set_cons_zero, List.set_cons_succ]
          refine wpAnyH_take (i := 10) (oi := { dst := some 70, op := Op.fieldAddr 54 (Operand.tmp 11) 3, type := 0, pos := _, after := #[{ on := 9, ground := Ground.guard }], guard := some (9, true) }) (v := ?_) rfl (by kernel_rfl) (by kernel_rfl) (by kernel_rfl) (fun _ _ _ h => h) (Or.inl ⟨by rfl, ?_⟩) (by assumption) ?_
          rotate_left
          · (intro w hSw; (try dsimp only at hSw); go_simp; try with_reducible rfl)
          simp only [Act.put, List.setIfInBounds_toArray, List.set_cons_zero, List.set_cons_succ]
          refine wpAnyH_take (i := 11) (oi := { dst := some 71, op := Op.load 3 (Operand.tmp 70), type := 3, pos := _, after := #[{ on := 10, ground := Ground.data }, { on := 9, ground := Ground.guard }], guard := some (9, true) }) (v := ?_) rfl (by kernel_rfl) (by kernel_rfl) (by kernel_rfl) (fun _ _ _ h => h) (Or.inl ⟨by rfl, ?_⟩) (by assumption) ?_
          rotate_left
          · (intro w hSw; (try dsimp only at hSw); go_simp; try with_reducible rfl)
          simp only [Act.put, List.setIfInBounds_toArray, List.set_cons_zero, List.set_cons_succ]
          refine wpAnyH_take (i := 12) (oi := { dst := some 72, op := Op.binOp BinOp.leq 3 (Operand.tmp 71) (Operand.const (Value.int IntKind.i64 7)) 3, type := 4, pos := _, after := #[{ on := 11, ground := Ground.data }, { on := 9, ground := Ground.guard }], guard := some (9, true) }) (v := ?_) rfl (by kernel_rfl) (by kernel_rfl) (by kernel_rfl) (fun _ _ _ h => h) (Or.inl ⟨by rfl, ?_⟩) (by assumption) ?_
          rotate_left
          · (intro w hSw; (try dsimp only at hSw); go_simp; try with_reducible rfl)
          simp only [Act.put, List.setIfInBounds_toArray, List.set_cons_zero, List.set_cons_succ]
          refine wpAnyH_take (i := 13) (oi := { dst := some 73, op := Op.pick (Operand.tmp 69) (Operand.tmp 72) (Operand.const (Value.bool false)), type := 4, pos := _, after := #[{ on := 9, ground := Ground.data }, { on := 12, ground := Ground.data }], guard := none }) (v := ?_) rfl (by kernel_rfl) (by kernel_rfl) (by kernel_rfl) (fun _ _ _ h => h) (Or.inl ⟨by rfl, ?_⟩) (by assumption) ?_
          rotate_left
          · (intro w hSw; (try dsimp only at hSw); go_simp; try with_reducible rfl)
          simp only [Act.put, List.setIfInBounds_toArray, List.set_cons_zero, List.set_cons_succ]
          refine wpAnyH_take (i := 14) (oi := { dst := some 74, op := Op.move (Operand.tmp 73), type := 4, pos := _, after := #[{ on := 13, ground := Ground.data }, { on := 9, ground := Ground.chain }], guard := none }) (v := ?_) rfl (by kernel_rfl) (by kernel_rfl) (by kernel_rfl) (fun _ _ _ h => h) (Or.inl ⟨by rfl, ?_⟩) (by assumption) ?_
          rotate_left
          · (intro w hSw; (try dsimp only at hSw); go_simp; try with_reducible rfl)
          simp only [Act.put, List.setIfInBounds_toArray, List.set_cons_zero, List.set_cons_succ]
          refine wpAnyH_take (i := 15) (oi := { dst := some 75, op := Op.fieldAddr 54 (Operand.tmp 11) 11, type := 0, pos := _, after := #[{ on := 14, ground := Ground.guard }], guard := some (14, true) }) (v := ?_) rfl (by kernel_rfl) (by kernel_rfl) (by kernel_rfl) (fun _ _ _ h => h) (Or.inl ⟨by rfl, ?_⟩) (by assumption) ?_
          rotate_left
          · (intro w hSw; (try dsimp only at hSw); go_simp; try with_reducible rfl)
          simp only [Act.put, List.setIfInBounds_toArray, List.set_cons_zero, List.set_cons_succ]
          refine wpAnyH_take (i := 16) (oi := { dst := some 76, op := Op.load 3 (Operand.tmp 75), type := 3, pos := _, after := #[{ on := 15, ground := Ground.data }, { on := 14, ground := Ground.guard }], guard := some (14, true) }) (v := ?_) rfl (by kernel_rfl) (by kernel_rfl) (by kernel_rfl) (fun _ _ _ h => h) (Or.inl ⟨by rfl, ?_⟩) (by assumption) ?_
          rotate_left
          · (intro w hSw; (try dsimp only at hSw); go_simp; try with_reducible rfl)
          simp only [Act.put, List.setIfInBounds_toArray, List.set_cons_zero, List.set_cons_succ]
          refine wpAnyH_take (i := 17) (oi := { dst := some 77, op := Op.binOp BinOp.geq 3 (Operand.tmp 76) (Operand.const (Value.int IntKind.i64 0)) 3, type := 4, pos := _, after := #[{ on := 16, ground := Ground.data }, { on := 14, ground := Ground.guard }], guard := some (14, true) }) (v := ?_) rfl (by kernel_rfl) (by kernel_rfl) (by kernel_rfl) (fun _ _ _ h => h) (Or.inl ⟨by rfl, ?_⟩) (by assumption) ?_
          rotate_left
          · (intro w hSw; (try dsimp only at hSw); go_simp; try with_reducible rfl)
          simp only [Act.put, List.setIfInBounds_toArray, List.set_cons_zero, List.set_cons_succ]
          refine wpAnyH_take (i := 18) (oi := { dst := some 78, op := Op.pick (Operand.tmp 74) (Operand.tmp 77) (Operand.const (Value.bool false)), type := 4, pos := _, after := #[{ on := 14, ground := Ground.data }, { on := 17, ground := Ground.data }], guard := none }) (v := ?_) rfl (by kernel_rfl) (by kernel_rfl) (by kernel_rfl) (fun _ _ _ h => h) (Or.inl ⟨by rfl, ?_⟩) (by assumption) ?_
          rotate_left
          · (intro w hSw; (try dsimp only at hSw); go_simp; try with_reducible rfl)
          simp only [Act.put, List.setIfInBounds_toArray, List.set_cons_zero, List.set_cons_succ]
          refine wpAnyH_take (i := 19) (oi := { dst := some 79, op := Op.move (Operand.tmp 78), type := 4, pos := _, after := #[{ on := 18, ground := Ground.data }, { on := 14, ground := Ground.chain }], guard := none }) (v := ?_) rfl (by kernel_rfl) (by kernel_rfl) (by kernel_rfl) (fun _ _ _ h => h) (Or.inl ⟨by rfl, ?_⟩) (by assumption) ?_
          rotate_left
          · (intro w hSw; (try dsimp only at hSw); go_simp; try with_reducible rfl)
          simp only [Act.put, List.setIfInBounds_toArray, List.set_cons_zero, List.set_cons_succ]
          refine wpAnyH_take (i := 20) (oi := { dst := some 80, op := Op.fieldAddr 54 (Operand.tmp 11) 11, type := 0, pos := _, after := #[{ on := 19, ground := Ground.guard }], guard := some (19, true) }) (v := ?_) rfl (by kernel_rfl) (by kernel_rfl) (by kernel_rfl) (fun _ _ _ h => h) (Or.inl ⟨by rfl, ?_⟩) (by assumption) ?_
          rotate_left
          · (intro w hSw; (try dsimp only at hSw); go_simp; try with_reducible rfl)
          simp only [Act.put, List.setIfInBounds_toArray, List.set_cons_zero, List.set_cons_succ]
          refine wpAnyH_take (i := 21) (oi := { dst := some 81, op := Op.load 3 (Operand.tmp 80), type := 3, pos := _, after := #[{ on := 20, ground := Ground.data }, { on := 19, ground := Ground.guard }], guard := some (19, true) }) (v := ?_) rfl (by kernel_rfl) (by kernel_rfl) (by kernel_rfl) (fun _ _ _ h => h) (Or.inl ⟨by rfl, ?_⟩) (by assumption) ?_
          rotate_left
          · (intro w hSw; (try dsimp only at hSw); go_simp; try with_reducible rfl)
          simp only [Act.put, List.setIfInBounds_toArray, List.set_cons_zero, List.set_cons_succ]
          refine wpAnyH_take (i := 22) (oi := { dst := some 82, op := Op.binOp BinOp.leq 3 (Operand.tmp 81) (Operand.const (Value.int IntKind.i64 255)) 3, type := 4, pos := _, after := #[{ on := 21, ground := Ground.data }, { on := 19, ground := Ground.guard }], guard := some (19, true) }) (v := ?_) rfl (by kernel_rfl) (by kernel_rfl) (by kernel_rfl) (fun _ _ _ h => h) (Or.inl ⟨by rfl, ?_⟩) (by assumption) ?_
          rotate_left
          · (intro w hSw; (try dsimp only at hSw); go_simp; try with_reducible rfl)
          simp only [Act.put, List.setIfInBounds_toArray, List.set_cons_zero, List.set_cons_succ]
          refine wpAnyH_take (i := 23) (oi := { dst := some 83, op := Op.pick (Operand.tmp 79) (Operand.tmp 82) (Operand.const (Value.bool false)), type := 4, pos := _, after := #[{ on := 19, ground := Ground.data }, { on := 22, ground := Ground.data }], guard := none }) (v := ?_) rfl (by kernel_rfl) (by kernel_rfl) (by kernel_rfl) (fun _ _ _ h => h) (Or.inl ⟨by rfl, ?_⟩) (by assumption) ?_
          rotate_left
          · (intro w hSw; (try dsimp only at hSw); go_simp; try with_reducible rfl)
          simp only [Act.put, List.setIfInBounds_toArray, List.set_cons_zero, List.set_cons_succ]
          refine wpAnyH_take (i := 24) (oi := { dst := some 84, op := Op.move (Operand.tmp 83), type := 4, pos := _, after := #[{ on := 23, ground := Ground.data }, { on := 19, ground := Ground.chain }], guard := none }) (v := ?_) rfl (by kernel_rfl) (by kernel_rfl) (by kernel_rfl) (fun _ _ _ h => h) (Or.inl ⟨by rfl, ?_⟩) (by assumption) ?_
          rotate_left
          · (intro w hSw; (try dsimp only at hSw); go_simp; try with_reducible rfl)
          simp only [Act.put, List.setIfInBounds_toArray, List.set_cons_zero, List.set_cons_succ]
          refine wpAnyH_take (i := 25) (oi := { dst := some 85, op := Op.fieldAddr 54 (Operand.tmp 11) 11, type := 0, pos := _, after := #[{ on := 24, ground := Ground.guard }], guard := some (24, true) }) (v := ?_) rfl (by kernel_rfl) (by kernel_rfl) (by kernel_rfl) (fun _ _ _ h => h) (Or.inl ⟨by rfl, ?_⟩) (by assumption) ?_
          rotate_left
          · (intro w hSw; (try dsimp only at hSw); go_simp; try with_reducible rfl)
          simp only [Act.put, List.setIfInBounds_toArray, List.set_cons_zero, List.set_cons_succ]
          refine wpAnyH_take (i := 26) (oi := { dst := some 86, op := Op.load 3 (Operand.tmp 85), type := 3, pos := _, after := #[{ on := 25, ground := Ground.data }, { on := 24, ground := Ground.guard }], guard := some (24, true) }) (v := ?_) rfl (by kernel_rfl) (by kernel_rfl) (by kernel_rfl) (fun _ _ _ h => h) (Or.inl ⟨by rfl, ?_⟩) (by assumption) ?_
          rotate_left
          · (intro w hSw; (try dsimp only at hSw); go_simp; try with_reducible rfl)
          simp only [Act.put, List.setIfInBounds_toArray, List.set_cons_zero, List.set_cons_succ]
          refine wpAnyH_take (i := 27) (oi := { dst := some 87, op := Op.indexAddr 31 (Operand.tmp 8) (Operand.const (Value.int IntKind.i64 12)), type := 0, pos := _, after := #[{ on := 24, ground := Ground.guard }], guard := some (24, true) }) (v := ?_) rfl (by kernel_rfl) (by kernel_rfl) (by kernel_rfl) (fun _ _ _ h => h) (Or.inl ⟨by rfl, ?_⟩) (by assumption) ?_
          rotate_left
          · (intro w hSw; (try dsimp only at hSw); go_simp; try with_reducible rfl)
          simp only [Act.put, List.setIfInBounds_toArray, List.set_cons_zero, List.set_cons_succ]
          refine wpAnyH_take (i := 28) (oi := { dst := some 88, op := Op.load 28 (Operand.tmp 87), type := 28, pos := _, after := #[{ on := 27, ground := Ground.data }, { on := 24, ground := Ground.guard }], guard := some (24, true) }) (v := ?_) rfl (by kernel_rfl) (by kernel_rfl) (by kernel_rfl) (fun _ _ _ h => h) (Or.inl ⟨by rfl, ?_⟩) (by assumption) ?_
          rotate_left
          · (intro w hSw; (try dsimp only at hSw); go_simp; try with_reducible rfl)
          simp only [Act.put, List.setIfInBounds_toArray, List.set_cons_zero, List.set_cons_succ]
          refine wpAnyH_take (i := 29) (oi := { dst := some 89, op := Op.binOp BinOp.rem 28 (Operand.tmp 88) (Operand.const (Value.int IntKind.u32 256)) 28, type := 28, pos := _, after := #[{ on := 28, ground := Ground.data }, { on := 24, ground := Ground.guard }], guard := some (24, true) }) (v := ?_) rfl (by kernel_rfl) (by kernel_rfl) (by kernel_rfl) (fun _ _ _ h => h) (Or.inl ⟨by rfl, ?_⟩) (by assumption) ?_
          rotate_left
          · (intro w hSw; (try dsimp only at hSw); go_simp; try with_reducible rfl)
          simp only [Act.put, List.setIfInBounds_toArray, List.set_cons_zero, List.set_cons_succ]
          refine wpAnyH_take (i := 30) (oi := { dst := some 90, op := Op.convert 28 3 (Operand.tmp 89), type := 3, pos := _, after := #[{ on := 29, ground := Ground.data }, { on := 24, ground := Ground.guard }], guard := some (24, true) }) (v := ?_) rfl (by kernel_rfl) (by kernel_rfl) (by kernel_rfl) (fun _ _ _ h => h) (Or.inl ⟨by rfl, ?_⟩) (by assumption) ?_
          rotate_left
          · (intro w hSw; (try dsimp only at hSw); go_simp; try with_reducible rfl)
          simp only [Act.put, List.setIfInBounds_toArray, List.set_cons_zero, List.set_cons_succ]
          refine wpAnyH_take (i := 31) (oi := { dst := some 91, op := Op.binOp BinOp.eql 3 (Operand.tmp 86) (Operand.tmp 90) 3, type := 4, pos := _, after := #[{ on := 26, ground := Ground.data }, { on := 30, ground := Ground.data }, { on := 24, ground := Ground.guard }], guard := some (24, true) }) (v := ?_) rfl (by kernel_rfl) (by kernel_rfl) (by kernel_rfl) (fun _ _ _ h => h) (Or.inl ⟨by rfl, ?_⟩) (by assumption) ?_
          rotate_left
          · (intro w hSw; (try dsimp only at hSw); go_simp; try with_reducible rfl)
          simp only [Act.put, List.setIfInBounds_toArray, List.set_cons_zero, List.set_cons_succ]
          refine wpAnyH_take (i := 32) (oi := { dst := some 92, op := Op.pick (Operand.tmp 84) (Operand.tmp 91) (Operand.const (Value.bool false)), type := 4, pos := _, after := #[{ on := 24, ground := Ground.data }, { on := 31, ground := Ground.data }], guard := none }) (v := ?_) rfl (by kernel_rfl) (by kernel_rfl) (by kernel_rfl) (fun _ _ _ h => h) (Or.inl ⟨by rfl, ?_⟩) (by assumption) ?_
          rotate_left
          · (intro w hSw; (try dsimp only at hSw); go_simp; try with_reducible rfl)
          simp only [Act.put, List.setIfInBounds_toArray, List.set_cons_zero, List.set_cons_succ]
          refine wpAnyH_take (i := 33) (oi := { dst := some 93, op := Op.move (Operand.tmp 92), type := 4, pos := _, after := #[{ on := 32, ground := Ground.data }, { on := 24, ground := Ground.chain }], guard := none }) (v := ?_) rfl (by kernel_rfl) (by kernel_rfl) (by kernel_rfl) (fun _ _ _ h => h) (Or.inl ⟨by rfl, ?_⟩) (by assumption) ?_
          rotate_left
          · (intro w hSw; (try dsimp only at hSw); go_simp; try with_reducible rfl)
          simp only [Act.put, List.setIfInBounds_toArray, List.set_cons_zero, List.set_cons_succ]
          refine wpAnyH_take (i := 34) (oi := { dst := some 94, op := Op.fieldAddr 54 (Operand.tmp 11) 8, type := 0, pos := _, after := #[{ on := 33, ground := Ground.guard }], guard := some (33, true) }) (v := ?_) rfl (by kernel_rfl) (by kernel_rfl) (by kernel_rfl) (fun _ _ _ h => h) (Or.inl ⟨by rfl, ?_⟩) (by assumption) ?_
          rotate_left
          · (intro w hSw; (try dsimp only at hSw); go_simp; try with_reducible rfl)
          simp only [Act.put, List.setIfInBounds_toArray, List.set_cons_zero, List.set_cons_succ]
          refine wpAnyH_take (i := 35) (oi := { dst := some 95, op := Op.load 28 (Operand.tmp 94), type := 28, pos := _, after := #[{ on := 34, ground := Ground.data }, { on := 33, ground := Ground.guard }], guard := some (33, true) }) (v := ?_) rfl (by kernel_rfl) (by kernel_rfl) (by kernel_rfl) (fun _ _ _ h => h) (Or.inl ⟨by rfl, ?_⟩) (by assumption) ?_
          rotate_left
          · (intro w hSw; (try dsimp only at hSw); go_simp; try with_reducible rfl)
          simp only [Act.put, List.setIfInBounds_toArray, List.set_cons_zero, List.set_cons_succ]
          refine wpAnyH_take (i := 36) (oi := { dst := some 96, op := Op.indexAddr 31 (Operand.tmp 8) (Operand.const (Value.int IntKind.i64 4)), type := 0, pos := _, after := #[{ on := 33, ground := Ground.guard }], guard := some (33, true) }) (v := ?_) rfl (by kernel_rfl) (by kernel_rfl) (by kernel_rfl) (fun _ _ _ h => h) (Or.inl ⟨by rfl, ?_⟩) (by assumption) ?_
          rotate_left
          · (intro w hSw; (try dsimp only at hSw); go_simp; try with_reducible rfl)
          simp only [Act.put, List.setIfInBounds_toArray, List.set_cons_zero, List.set_cons_succ]
          refine wpAnyH_take (i := 37) (oi := { dst := some 97, op := Op.load 28 (Operand.tmp 96), type := 28, pos := _, after := #[{ on := 36, ground := Ground.data }, { on := 33, ground := Ground.guard }], guard := some (33, true) }) (v := ?_) rfl (by kernel_rfl) (by kernel_rfl) (by kernel_rfl) (fun _ _ _ h => h) (Or.inl ⟨by rfl, ?_⟩) (by assumption) ?_
          rotate_left
          · (intro w hSw; (try dsimp only at hSw); go_simp; try with_reducible rfl)
          simp only [Act.put, List.setIfInBounds_toArray, List.set_cons_zero, List.set_cons_succ]
          refine wpAnyH_take (i := 38) (oi := { dst := some 98, op := Op.binOp BinOp.eql 28 (Operand.tmp 95) (Operand.tmp 97) 28, type := 4, pos := _, after := #[{ on := 35, ground := Ground.data }, { on := 37, ground := Ground.data }, { on := 33, ground := Ground.guard }], guard := some (33, true) }) (v := ?_) rfl (by kernel_rfl) (by kernel_rfl) (by kernel_rfl) (fun _ _ _ h => h) (Or.inl ⟨by rfl, ?_⟩) (by assumption) ?_
          rotate_left
          · (intro w hSw; (try dsimp only at hSw); go_simp; try with_reducible rfl)
          simp only [Act.put, List.setIfInBounds_toArray, List.set_cons_zero, List.set_cons_succ]
          refine wpAnyH_take (i := 39) (oi := { dst := some 99, op := Op.pick (Operand.tmp 93) (Operand.tmp 98) (Operand.const (Value.bool false)), type := 4, pos := _, after := #[{ on := 33, ground := Ground.data }, { on := 38, ground := Ground.data }], guard := none }) (v := ?_) rfl (by kernel_rfl) (by kernel_rfl) (by kernel_rfl) (fun _ _ _ h => h) (Or.inl ⟨by rfl, ?_⟩) (by assumption) ?_
          rotate_left
          · (intro w hSw; (try dsimp only at hSw); go_simp; try with_reducible rfl)
          simp only [Act.put, List.setIfInBounds_toArray, List.set_cons_zero, List.set_cons_succ]
          refine wpAnyH_take (i := 40) (oi := { dst := some 100, op := Op.move (Operand.tmp 99), type := 4, pos := _, after := #[{ on := 39, ground := Ground.data }, { on := 33, ground := Ground.chain }], guard := none }) (v := ?_) rfl (by kernel_rfl) (by kernel_rfl) (by kernel_rfl) (fun _ _ _ h => h) (Or.inl ⟨by rfl, ?_⟩) (by assumption) ?_
          rotate_left
          · (intro w hSw; (try dsimp only at hSw); go_simp; try with_reducible rfl)
          simp only [Act.put, List.setIfInBounds_toArray, List.set_cons_zero, List.set_cons_succ]
          refine wpAnyH_take (i := 41) (oi := { dst := some 101, op := Op.fieldAddr 54 (Operand.tmp 11) 0, type := 0, pos := _, after := #[{ on := 40, ground := Ground.guard }], guard := some (40, true) }) (v := ?_) rfl (by kernel_rfl) (by kernel_rfl) (by kernel_rfl) (fun _ _ _ h => h) (Or.inl ⟨by rfl, ?_⟩) (by assumption) ?_
          rotate_left
          · (intro w hSw; (try dsimp only at hSw); go_simp; try with_reducible rfl)
          simp only [Act.put, List.setIfInBounds_toArray, List.set_cons_zero, List.set_cons_succ]
          refine wpAnyH_take (i := 42) (oi := { dst := some 102, op := Op.load 4 (Operand.tmp 101), type := 4, pos := _, after := #[{ on := 41, ground := Ground.data }, { on := 40, ground := Ground.guard }], guard := some (40, true) }) (v := ?_) rfl (by kernel_rfl) (by kernel_rfl) (by kernel_rfl) (fun _ _ _ h => h) (Or.inl ⟨by rfl, ?_⟩) (by assumption) ?_
          rotate_left
          · (intro w hSw; (try dsimp only at hSw); go_simp; try with_reducible rfl)
          simp only [Act.put, List.setIfInBounds_toArray, List.set_cons_zero, List.set_cons_succ]
          refine wpAnyH_take (i := 43) (oi := { dst := some 103, op := Op.indexAddr 31 (Operand.tmp 8) (Operand.const (Value.int IntKind.i64 0)), type := 0, pos := _, after := #[{ on := 40, ground := Ground.guard }], guard := some (40, true) }) (v := ?_) rfl (by kernel_rfl) (by kernel_rfl) (by kernel_rfl) (fun _ _ _ h => h) (Or.inl ⟨by rfl, ?_⟩) (by assumption) ?_
          rotate_left
          · (intro w hSw; (try dsimp only at hSw); go_simp; try with_reducible rfl)
          simp only [Act.put, List.setIfInBounds_toArray, List.set_cons_zero, List.set_cons_succ]
          refine wpAnyH_take (i := 44) (oi := { dst := some 104, op := Op.load 28 (Operand.tmp 103), type := 28, pos := _, after := #[{ on := 43, ground := Ground.data }, { on := 40, ground := Ground.guard }], guard := some (40, true) }) (v := ?_) rfl (by kernel_rfl) (by kernel_rfl) (by kernel_rfl) (fun _ _ _ h => h) (Or.inl ⟨by rfl, ?_⟩) (by assumption) ?_
          rotate_left
          · (intro w hSw; (try dsimp only at hSw); go_simp; try with_reducible rfl)
          simp only [Act.put, List.setIfInBounds_toArray, List.set_cons_zero, List.set_cons_succ]
          refine wpAnyH_take (i := 45) (oi := { dst := some 105, op := Op.binOp BinOp.rem 28 (Operand.tmp 104) (Operand.const (Value.int IntKind.u32 2)) 28, type := 28, pos := _, after := #[{ on := 44, ground := Ground.data }, { on := 40, ground := Ground.guard }], guard := some (40, true) }) (v := ?_) rfl (by kernel_rfl) (by kernel_rfl) (by kernel_rfl) (fun _ _ _ h => h) (Or.inl ⟨by rfl, ?_⟩) (by assumption) ?_
          rotate_left
          · (intro w hSw; (try dsimp only at hSw); go_simp; try with_reducible rfl)
          simp only [Act.put, List.setIfInBounds_toArray, List.set_cons_zero, List.set_cons_succ]
          refine wpAnyH_take (i := 46) (oi := { dst := some 106, op := Op.binOp BinOp.eql 28 (Operand.tmp 105) (Operand.const (Value.int IntKind.u32 1)) 28, type := 4, pos := _, after := #[{ on := 45, ground := Ground.data }, { on := 40, ground := Ground.guard }], guard := some (40, true) }) (v := ?_) rfl (by kernel_rfl) (by kernel_rfl) (by kernel_rfl) (fun _ _ _ h => h) (Or.inl ⟨by rfl, ?_⟩) (by assumption) ?_
          rotate_left
          · (intro w hSw; (try dsimp only at hSw); go_simp; try with_reducible rfl)
          simp only [Act.put, List.setIfInBounds_toArray, List.set_cons_zero, List.set_cons_succ]
          refine wpAnyH_take (i := 47) (oi := { dst := some 107, op := Op.binOp BinOp.eql 4 (Operand.tmp 102) (Operand.tmp 106) 4, type := 4, pos := _, after := #[{ on := 42, ground := Ground.data }, { on := 46, ground := Ground.data }, { on := 40, ground := Ground.guard }], guard := some (40, true) }) (v := ?_) rfl (by kernel_rfl) (by kernel_rfl) (by kernel_rfl) (fun _ _ _ h => h) (Or.inl ⟨by rfl, ?_⟩) (by assumption) ?_
          rotate_left
          · (intro w hSw; (try dsimp only at hSw); go_simp; try with_reducible rfl)
          simp only [Act.put, List.setIfInBounds_toArray, List.set_cons_zero, List.set_cons_succ]
          refine wpAnyH_take (i := 48) (oi := { dst := some 108, op := Op.pick (Operand.tmp 100) (Operand.tmp 107) (Operand.const (Value.bool false)), type := 4, pos := _, after := #[{ on := 40, ground := Ground.data }, { on := 47, ground := Ground.data }], guard := none }) (v := ?_) rfl (by kernel_rfl) (by kernel_rfl) (by kernel_rfl) (fun _ _ _ h => h) (Or.inl ⟨by rfl, ?_⟩) (by assumption) ?_
          rotate_left
          · (intro w hSw; (try dsimp only at hSw); go_simp; try with_reducible rfl)
          simp only [Act.put, List.setIfInBounds_toArray, List.set_cons_zero, List.set_cons_succ]
          refine wpAnyH_take (i := 49) (oi := { dst := some 4, op := Op.assign (Operand.tmp 108), type := 4, pos := _, after := #[{ on := 48, ground := Ground.data }, { on := 40, ground := Ground.chain }, { on := 0, ground := Ground.phase }, { on := 1, ground := Ground.phase }, { on := 2, ground := Ground.phase }, { on := 3, ground := Ground.phase }, { on := 4, ground := Ground.phase }, { on := 5, ground := Ground.phase }, { on := 6, ground := Ground.phase }, { on := 7, ground := Ground.phase }, { on := 8, ground := Ground.phase }, { on := 9, ground := Ground.phase }, { on := 10, ground := Ground.phase }, { on := 11, ground := Ground.phase }, { on := 12, ground := Ground.phase }, { on := 13, ground := Ground.phase }, { on := 14, ground := Ground.phase }, { on := 15, ground := Ground.phase }, { on := 16, ground := Ground.phase }, { on := 17, ground := Ground.phase }, { on := 18, ground := Ground.phase }, { on := 19, ground := Ground.phase }, { on := 20, ground := Ground.phase }, { on := 21, ground := Ground.phase }, { on := 22, ground := Ground.phase }, { on := 23, ground := Ground.phase }, { on := 24, ground := Ground.phase }, { on := 25, ground := Ground.phase }, { on := 26, ground := Ground.phase }, { on := 27, ground := Ground.phase }, { on := 28, ground := Ground.phase }, { on := 29, ground := Ground.phase }, { on := 30, ground := Ground.phase }, { on := 31, ground := Ground.phase }, { on := 32, ground := Ground.phase }, { on := 33, ground := Ground.phase }, { on := 34, ground := Ground.phase }, { on := 35, ground := Ground.phase }, { on := 36, ground := Ground.phase }, { on := 37, ground := Ground.phase }, { on := 38, ground := Ground.phase }, { on := 39, ground := Ground.phase }, { on := 40, ground := Ground.phase }, { on := 41, ground := Ground.phase }, { on := 42, ground := Ground.phase }, { on := 43, ground := Ground.phase }, { on := 44, ground := Ground.phase }, { on := 45, ground := Ground.phase }, { on := 46, ground := Ground.phase }, { on := 47, ground := Ground.phase }, { on := 48, ground := Ground.phase }], guard := none }) (v := ?_) rfl (by kernel_rfl) (by kernel_rfl) (by kernel_rfl) (fun _ _ _ h => h) (Or.inl ⟨by rfl, ?_⟩) (by assumption) ?_
          rotate_left
          · (intro w hSw; (try dsimp only at hSw); go_simp; try with_reducible rfl)
          simp only [Act.put, List.setIfInBounds_toArray, List.set_cons_zero, List.set_cons_succ]
          refine wpAnyH_done (by kernel_rfl) ?_ _
          go_wp2
          go_ret
          exact ⟨rfl, HB9.out⟩
end Go.Proofs.YtdinmhjdnnhhjaaDoor
