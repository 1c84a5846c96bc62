import Derived.Test.YtdinmhjdnnhhjaaDoorLh
namespace Go.Proofs.YtdinmhjdnnhhjaaDoor
open Go.RowKit
set_option linter.unusedVariables false
set_option linter.unusedSimpArgs false
theorem split5 {J2 J4 OK JE : Bool} {a : Ac} (q1 : (J2 && OK && JE) = false) (q2 : (J4 && JE) = false) (q3 : (J2 && J4) = false) (q4 : JE = false → a = aZ) :
    (J2 = false ∧ J4 = false ∧ JE = true) ∨ (J2 = false ∧ JE = false ∧ a = aZ) ∨ (J2 = true ∧ J4 = false ∧ OK = false ∧ JE = true) ∨ (J2 = true ∧ J4 = false ∧ JE = false ∧ a = aZ ∧ OK = false) ∨ (J2 = true ∧ J4 = false ∧ JE = false ∧ a = aZ ∧ OK = true) := by
  cases J2 <;> cases J4 <;> cases OK <;> cases JE <;> simp_all
set_option maxRecDepth 100000 in
set_option maxHeartbeats 16000000 in
theorem law_each (W : World) (sa : Option Addr) (cap : Nat) (ops : List Opr) (hS : Scr W sa ops) (hT : TR W) (hl : ops.length ≤ maxLen) :
    Calls Tryd.prog 3 #[.slice sa ops.length cap] W fun e W' => e = .returned (.bool true) ∧ Below W.heap.size W W' := by
  unfold maxLen at hl
  have hno := no_any
  have HT : Hid (TR W) := hT
  have HS0 : Hid (Scr W sa ops) := hS
  generalize hn : ops.length = m at *
  have HN : Hid (ops.length = m) := hn
  clear hT hS hn
  go_enter Tryd.func3, Tryd.ntmps3
  go_wp2_with (fail)
  go_at_call 8
  refine (new_any W HT.out).mono ?_
  rintro e w1 ⟨rfl, hf1, hb1⟩
  have HS : Hid (Lx W w1 W.heap.size fZ) := ⟨hb1, hf1, HT.out.below hb1, Nat.le_refl _⟩
  clear hf1 hb1 HT
  go_wp2_with (fail)
  go_at_call 9
  refine (live_any w1 HS.out.tr).mono ?_
  rintro e w3 ⟨rfl, hb⟩
  have HS3 : Hid (Lx W w3 W.heap.size fZ) := HS.out.step hb
  clear hb HS
  go_wp2
  go_loopw [4] (fun s4 wr => ∃ (k : Nat) (F : List Nat), k ≤ m ∧ s4 = .int .i64 k ∧ Lx W wr W.heap.size F ∧ Kp F) (fun s4 _ => m - (intOf s4).toNat)
  case atStart => exact ⟨0, fZ, Nat.zero_le _, rfl, HS3.out, Kp.zero⟩
  case round =>
    obtain ⟨k, F, hk, rfl, hX, hK⟩ := hrel
    clear HS3
    have HS : Hid (Lx W wr W.heap.size F) := hX
    have HK : Hid (Kp F) := hK
    clear hX hK
    by_cases hlt : k < m
    · obtain ⟨o, b, off, rfl, hbl, ho, e0, e1, e2, e3, e4, e5, e6, e7⟩ := HS0.out.at HS.out.bel (k := k) (by rw [HN.out]; exact hlt)
      have hi : (k : Int) < (m : Int) := by omega
      have hw : IntKind.i64.wrap ((k : Int) + 1) = ((k + 1 : Nat) : Int) := by rw [IntKind.wrap_i64]; omega
      have HL : Hid (F.length = 13) := HS.out.fi.len
      have hz := zero31
      have HSa : Hid (Lx W (wr.alloc (.cells ([.int .i64 o.k, .int .i64 o.t.a, .int .i64 o.t.b, .int .i64 o.t.c, .int .i64 o.t.d, .bool o.priv, .int .u32 (o.w : Nat), .int .i64 o.reg]).toArray 30)) W.heap.size F) := HS.out.step (below_new _ _)
      have HO1 : Hid (Bl (wr.alloc (.cells ([.int .i64 o.k, .int .i64 o.t.a, .int .i64 o.t.b, .int .i64 o.t.c, .int .i64 o.t.d, .bool o.priv, .int .u32 (o.w : Nat), .int .i64 o.reg]).toArray 30)) wr.heap.size 30 ([.int .i64 o.k, .int .i64 o.t.a, .int .i64 o.t.b, .int .i64 o.t.c, .int .i64 o.t.d, .bool o.priv, .int .u32 (o.w : Nat), .int .i64 o.reg])) := Bl.new _ _ _
      have hoB : ¬ wr.heap.size = W.heap.size := by have := HS.out.fi.lt; omega
      have HDS : Hid (∀ F w, Fi 63 w W.heap.size F → TR w → Calls Tryd.prog 11 #[.pointer (some ⟨W.heap.size, 0, none⟩), .agg #[.int .i64 o.k, .int .i64 o.t.a, .int .i64 o.t.b, .int .i64 o.t.c, .int .i64 o.t.d, .bool o.priv, .int .u32 (o.w : Nat), .int .i64 o.reg]] w fun e w' => e = .returned (.tuple #[.agg #[.int .i64 ((dsF F o).1).k, .int .i64 ((dsF F o).1).tk, .int .u32 (((dsF F o).1).tva : Nat), .int .i64 (((dsF F o).1).tas : Nat), .int .u32 (((dsF F o).1).va : Nat), .bool ((dsF F o).1).us, .bool ((dsF F o).1).st], .int .i64 ((dsF F o).2.1 : Nat)]) ∧ Fi 63 w' W.heap.size (dsF F o).2.2 ∧ Turn (· = W.heap.size) w w') := fun F w h1 h2 => does_any W.heap.size o F w h1 h2 ho
      have HRG : Hid (∀ w, TR w → Calls Tryd.prog 12 #[.agg #[.int .i64 (o.t).a, .int .i64 (o.t).b, .int .i64 (o.t).c, .int .i64 (o.t).d]] w fun e w' => e = .returned (.tuple #[.int .i64 ((regOf o.t).getD 0 : Nat), .bool (regOf o.t).isSome]) ∧ Below w.heap.size w w') := fun w h => register_any o.t w h
      have HEC : Hid _ := each_cases F o HL.out
      have HKD : Hid (Kp (dsF F o).2.2) := dsF_kp HK.out HL.out o
      have HHeld : Hid (∀ F w, Fi 63 w W.heap.size F → Calls Tryd.prog 10 #[.pointer (some ⟨W.heap.size, 0, none⟩)] w fun e w' => e = .returned (.agg (encF F).toArray) ∧ Below w.heap.size w w') := fun F w h => held_any _ F w h
      clear HK HS0 HN
      go_wp2_with (fail)
      go_at_call 10
      refine (HHeld.out _ _ HSa.out.fi).mono ?_
      rintro e w5 ⟨rfl, hb⟩
      have hoB5 : wr.heap.size < w5.heap.size := by have := hb.size; simp at this; omega
      have HS5 : Hid (Lx W w5 W.heap.size F) := HSa.out.step hb
      have HO5 : Hid (Bl w5 wr.heap.size 30 ([.int .i64 o.k, .int .i64 o.t.a, .int .i64 o.t.b, .int .i64 o.t.c, .int .i64 o.t.d, .bool o.priv, .int .u32 (o.w : Nat), .int .i64 o.reg])) := HO1.out.below hb
      clear hb HSa HO1 e0 e1 e2 e3 e4 e5 e6 e7
      generalize wr.heap.size = oB at *
      obtain ⟨h31a, h31b, h31c⟩ := store31 w5 F HL.out
      have HA : Hid _ := h31a
      have HB : Hid _ := h31b
      have HC : Hid (Bl _ w5.heap.size 31 (encF F)) := h31c
      have HI : Hid _ := info31F F HL.out
      have HOC : Hid ((encF F).toArray.all (·.oneCell') = true) := all_oneCell_toArray (encF_one F)
      clear h31a h31b h31c
      generalize hE : encF F = E at *
      have HE : Hid (encF F = E) := hE
      clear hE
      generalize hZ0 : encF (List.replicate 13 0) = Z0 at *
      have HZ0 : Hid (encF (List.replicate 13 0) = Z0) := hZ0
      clear hZ0
      go_wp2_with (guard_target =~ wpList _ _ _ (Oper.mk none _ _ _ _ _ :: _) _ _; refine wpList_store_mid rfl 31 (.tmp 6) (.tmp 32) rfl w5.heap.size 0 E.toArray rfl rfl HA.out HI.out HOC.out ?_; clear HA HI HOC; dsimp only at HB HC ⊢; generalize World.setCells _ w5.heap.size 0 _ = V5 at *; have HO6 : Hid (Bl V5 oB 30 ([.int .i64 o.k, .int .i64 o.t.a, .int .i64 o.t.b, .int .i64 o.t.c, .int .i64 o.t.d, .bool o.priv, .int .u32 (o.w : Nat), .int .i64 o.reg])) := HO5.out.below HB.out; have ob0 := HO6.out.cell)
      have HS6 : Hid (Lx W V5 W.heap.size F) := HS5.out.step HB.out
      have HA6 : Hid (Bl V5 w5.heap.size 31 (encF F)) := by rw [HE.out]; exact HC.out
      have hAp : ¬ w5.heap.size = W.heap.size := by have := HS5.out.fi.lt; omega
      clear HB HC HS5 HO5
      generalize w5.heap.size = A at *
      go_at_call 11
      refine (HDS.out F _ HS6.out.fi HS6.out.tr).mono ?_
      rintro e w7 ⟨rfl, hf, ht⟩
      have HS7 : Hid (Lx W w7 W.heap.size (dsF F o).2.2) := HS6.out.turn hf ht
      have HO7 : Hid (Bl w7 oB 30 ([.int .i64 o.k, .int .i64 o.t.a, .int .i64 o.t.b, .int .i64 o.t.c, .int .i64 o.t.d, .bool o.priv, .int .u32 (o.w : Nat), .int .i64 o.reg])) := HO6.out.turn ht hoB
      have HA7 : Hid (Bl w7 A 31 (encF F)) := HA6.out.turn ht hAp
      clear hf ht HS6 HO6 HA6 ob0 hoB5
      generalize hZ : dsF F o = Z at *
      obtain ⟨a, ee, G⟩ := Z
      dsimp only at *
      clear hZ
      have HS8 : Hid (Lx W (w7.alloc (.cells ([.int .i64 a.k, .int .i64 a.tk, .int .u32 (a.tva : Nat), .int .i64 (a.tas : Nat), .int .u32 (a.va : Nat), .bool a.us, .bool a.st]).toArray 36)) W.heap.size G) := HS7.out.step (below_new _ _)
      have HO8 : Hid (Bl (w7.alloc (.cells ([.int .i64 a.k, .int .i64 a.tk, .int .u32 (a.tva : Nat), .int .i64 (a.tas : Nat), .int .u32 (a.va : Nat), .bool a.us, .bool a.st]).toArray 36)) oB 30 ([.int .i64 o.k, .int .i64 o.t.a, .int .i64 o.t.b, .int .i64 o.t.c, .int .i64 o.t.d, .bool o.priv, .int .u32 (o.w : Nat), .int .i64 o.reg])) := HO7.out.below (below_new _ _)
      have HA8 : Hid (Bl (w7.alloc (.cells ([.int .i64 a.k, .int .i64 a.tk, .int .u32 (a.tva : Nat), .int .i64 (a.tas : Nat), .int .u32 (a.va : Nat), .bool a.us, .bool a.st]).toArray 36)) A 31 (encF F)) := HA7.out.below (below_new _ _)
      have HD8 : Hid (Bl (w7.alloc (.cells ([.int .i64 a.k, .int .i64 a.tk, .int .u32 (a.tva : Nat), .int .i64 (a.tas : Nat), .int .u32 (a.va : Nat), .bool a.us, .bool a.st]).toArray 36)) w7.heap.size 36 ([.int .i64 a.k, .int .i64 a.tk, .int .u32 (a.tva : Nat), .int .i64 (a.tas : Nat), .int .u32 (a.va : Nat), .bool a.us, .bool a.st])) := Bl.new _ _ _
      have hDp : ¬ w7.heap.size = W.heap.size := by have := HS7.out.fi.lt; omega
      clear HS7 HO7 HA7
      go_wp2_with (fail)
      go_at_call 10
      generalize w7.alloc _ = w8 at *
      generalize w7.heap.size = D at *
      refine (HHeld.out _ _ HS8.out.fi).mono ?_
      rintro e w9 ⟨rfl, hb⟩
      have HS9 : Hid (Lx W w9 W.heap.size G) := HS8.out.step hb
      have HO9 : Hid (Bl w9 oB 30 ([.int .i64 o.k, .int .i64 o.t.a, .int .i64 o.t.b, .int .i64 o.t.c, .int .i64 o.t.d, .bool o.priv, .int .u32 (o.w : Nat), .int .i64 o.reg])) := HO8.out.below hb
      have HA9 : Hid (Bl w9 A 31 (encF F)) := HA8.out.below hb
      have HD9 : Hid (Bl w9 D 36 ([.int .i64 a.k, .int .i64 a.tk, .int .u32 (a.tva : Nat), .int .i64 (a.tas : Nat), .int .u32 (a.va : Nat), .bool a.us, .bool a.st])) := HD8.out.below hb
      have HLG : Hid (G.length = 13) := HS9.out.fi.len
      clear hb HS8 HO8 HA8 HD8
      obtain ⟨h31a, h31b, h31c⟩ := store31 w9 G HLG.out
      rw [HZ0.out] at h31a h31b h31c
      have HA : Hid _ := h31a
      have HB : Hid _ := h31b
      have HC : Hid (Bl _ w9.heap.size 31 (encF G)) := h31c
      have HI : Hid _ := info31F G HLG.out
      have HOC : Hid ((encF G).toArray.all (·.oneCell') = true) := all_oneCell_toArray (encF_one G)
      clear h31a h31b h31c
      generalize hE2 : encF G = E2 at *
      have HE2 : Hid (encF G = E2) := hE2
      clear hE2
      go_wp2_with (guard_target =~ wpList _ _ _ (Oper.mk none _ _ _ _ _ :: _) _ _; refine wpList_store_mid rfl 31 (.tmp 9) (.tmp 40) rfl w9.heap.size 0 E2.toArray rfl rfl HA.out HI.out HOC.out ?_; clear HA HI HOC; dsimp only at HB HC ⊢; generalize World.setCells _ w9.heap.size 0 _ = V9 at *; have HO9b : Hid (Bl V9 oB 30 ([.int .i64 o.k, .int .i64 o.t.a, .int .i64 o.t.b, .int .i64 o.t.c, .int .i64 o.t.d, .bool o.priv, .int .u32 (o.w : Nat), .int .i64 o.reg])) := HO9.out.below HB.out; have ob0 := HO9b.out.cell)
      have hBp : ¬ w9.heap.size = W.heap.size := by have := HS9.out.fi.lt; omega
      have HX : Hid (EX W V9 W.heap.size oB A D w9.heap.size o F G a) := ⟨HS9.out.step HB.out, HO9b.out, HA9.out.below HB.out, HD9.out.below HB.out, by rw [HE2.out]; exact HC.out, hoB, hAp, hDp, hBp⟩
      clear HB HC HS9 HO9 HA9 HD9 HO9b
      generalize w9.heap.size = B at *
      go_at_call 12
      refine (HRG.out _ HX.out.lx.tr).mono ?_
      rintro e w10 ⟨rfl, hb⟩
      have HX10 : Hid (EX W w10 W.heap.size oB A D B o F G a) := HX.out.step hb
      clear hb HX ob0 HRG hz
      have ob0 := HX10.out.ob.cell
      have ac0 := HX10.out.ac.cell
      rcases HEC.out with ⟨r, hr13, hG, hee, hagain, hwhich⟩ | ⟨hG, hac, h2, h4⟩
      · have HGet : Hid (∀ j, ¬ j = r → G.getD j 0 = F.getD j 0) := fun j hj => by rw [hG, getD_set F r j _ HL.out hr13, if_neg (fun e => hj e.symm)]
        have HGr : Hid (G.getD r 0 = keepW r o.w) := by show _ = _; rw [hG, getD_set F r r _ HL.out hr13, if_pos rfl]
        have HAgain : Hid ((dsF G o).2.2 = G) := hagain
        have hbit : bits .and .u32 ((keepW r o.w : Nat) : Int) (o.w : Nat) = ((keepW r o.w : Nat) : Int) := by
          rw [u32_and_nat _ _ (keepW_lt r _ ho) ho, keepW_and]
        have HPut : Hid (∀ w, Fi 63 w W.heap.size G → TR w → Calls Tryd.prog 14 #[.pointer (some ⟨W.heap.size, 0, none⟩), .int .i64 (r : Int), .int .u32 ((keepW r o.w : Nat) : Int)] w fun e w' => e = .returned (.int .i64 0) ∧ Fi 63 w' W.heap.size G ∧ Turn (· = W.heap.size) w w') := fun w h1 h2 => by
          have := put_any W.heap.size G r (keepW r o.w) w h1 h2 (keepW_lt r _ ho)
          rw [(pt_yes G r 0 hr13).1, (pt_yes G r _ hr13).2, keepW_twice] at this
          have e : G.set r (keepW r o.w) = G := by rw [hG]; exact List.set_set _
          rw [e] at this
          exact this
        subst hee
        clear hG hagain HEC
        generalize keepW r o.w = y at *
        rcases hwhich with ⟨hk2, hrg⟩ | ⟨hk4, hrg⟩
        · have j2 : (o.k == 2) = true := by simp [hk2]
          have j4 : (o.k == 4) = false := by simp [hk2]
          rw [hrg]
          clear hk2 hrg
          have hd1 : decide ((r : Int) < -1) = false := by first | (simp; done) | (simp; omega)
          have hd2 : decide (12 < (r : Int)) = false := by simp; omega
          have hd3 : decide ((r : Int) < 0) = false := by simp
          go_wp2_with (go_at_call 13; refine (hno _ _).mono ?_; rintro e w' ⟨rfl, rfl⟩)
          generalize wr = wz at *
          clear ob0 ac0
          go_loopw [13] (fun s13 wq => ∃ j : Nat, j ≤ 13 ∧ s13 = .int .i64 j ∧ EX W wq W.heap.size oB A D B o F G a) (fun s13 _ => 13 - (intOf s13).toNat)
          case atStart => exact ⟨0, by omega, rfl, HX10.out⟩
          case round =>
            obtain ⟨j, hj, rfl, hX⟩ := hrel
            have HX : Hid (EX W wr W.heap.size oB A D B o F G a) := hX
            clear hX HX10
            by_cases hj13 : j < 13
            · have hji : (j : Int) < 13 := by omega
              have c1 := bl13 HX.out.wa HL.out hj13
              have c2 := bl13 HX.out.no HLG.out hj13
              have l1 := HX.out.wa.lt
              have l2 := HX.out.no.lt
              have hjw : IntKind.i64.wrap ((j : Int) + 1) = ((j + 1 : Nat) : Int) := by rw [IntKind.wrap_i64]; omega
              clear hj
              by_cases hjr : j = r
              · subst hjr
                have hne : ((j : Int) != (j : Int)) = false := by simp
                go_wp2
                go_quiet (fail)
                go_wp2
                go_roundw
                case rel => exact ⟨j + 1, by omega, rfl, HX.out.drewN _⟩
                case measure => simp [intOf]; omega
              · have hne : ((j : Int) != (r : Int)) = true := by simp; omega
                rw [HGet.out j hjr] at c2
                generalize F.getD j 0 = vj at *
                go_wp2
                go_quiet (fail)
                go_wp2
                go_roundw
                case rel => exact ⟨j + 1, by omega, rfl, HX.out.drewN _⟩
                case measure => simp [intOf]; omega
            · obtain rfl : j = 13 := by omega
              have c2 := bl13 HX.out.no HLG.out hr13
              rw [HGr.out] at c2
              have ob6 := HX.out.ob.cell 6
              have l2 := HX.out.no.lt
              have hri : (r : Int) < 13 := by omega
              clear hj hj13
              go_wp2
              go_quiet (fail)
              have HX1 : Hid (EX W (wr.drewN nq) W.heap.size oB A D B o F G a) := HX.out.drewN nq
              clear c2 ob6 l2 HX
              generalize wr.drewN nq = wq at *
              have ob0 := HX1.out.ob.cell
              go_wp2_with (fail)
              go_at_call 11
              refine (HDS.out G _ HX1.out.lx.fi HX1.out.lx.tr).mono ?_
              rintro e w12 ⟨rfl, hf, ht⟩
              rw [HAgain.out] at hf
              have HX2 : Hid (EX W w12 W.heap.size oB A D B o F G a) := HX1.out.turn hf ht
              clear hf ht HX1 ob0
              go_wp2_with (fail)
              have HSS : Hid (∀ w' : World, Bl w' B 31 (encF G) → Hid (w'.rangeAt B 0 E2) ∧ w'.cell? ⟨B, r, none⟩ = some (.int .u32 (y : Int))) := fun w' h => ⟨by rw [← HE2.out]; exact h.range, by have := bl13 h HLG.out hr13; rwa [HGr.out] at this⟩
              have HHd : Hid (∀ w, Fi 63 w W.heap.size G → Calls Tryd.prog 10 #[.pointer (some ⟨W.heap.size, 0, none⟩)] w fun e w' => e = .returned (.agg E2.toArray) ∧ Below w.heap.size w w') := fun w h => by
                have := HHeld.out G w h
                rwa [HE2.out] at this
              have he : ∀ w, (Op.equalIn 10000 31 (.agg E2.toArray) (.agg E2.toArray)).run Tryd.prog w = .ok true w := fun w => by
                have := eqH G HLG.out w
                rwa [HE2.out] at this
              refine wp_region_held_drew (S := fun w' => Hid (w'.rangeAt B 0 E2) ∧ w'.cell? ⟨B, r, none⟩ = some (.int .u32 (y : Int))) (by kernel_rfl) (HSS.out _ HX2.out.no.drew) (fun hHeld => ?_)
              have HI31 : Hid ((Tryd.prog.info? 31).map (·.size) = some E2.length) := by rw [← HE2.out]; exact info31L G HLG.out
              have HXc : Hid (EX W w12.drew W.heap.size oB A D B o F G a) := HX2.out.drew
              clear HX2
              refine wpAnyH_take (i := 0) (oi := { dst := some 114, op := Op.move (Operand.tmp 3), type := 23, pos := _, after := #[], guard := none }) (v := ?_) rfl (by kernel_rfl) (by kernel_rfl) (by kernel_rfl) (fun _ _ _ h => h) (Or.inl ⟨by rfl, ?_⟩) (by assumption) ?_
              rotate_left
              · (intro w hSw; (try dsimp only at hSw); go_simp; try with_reducible rfl)
              simp only [Act.put, List.setIfInBounds_toArray, List.set_cons_zero, List.set_cons_succ]
              refine wpAnyH_take (i := 2) (oi := { dst := some 116, op := Op.load 31 (Operand.tmp 9), type := 31, pos := _, after := #[], guard := none }) (v := .agg E2.toArray) rfl (by kernel_rfl) (by kernel_rfl) (by kernel_rfl) (fun _ _ _ h => h) (Or.inl ⟨by rfl, fun w hSw => exec31 _ _ _ rfl B E2 rfl w hSw.1.out HI31.out⟩) (by assumption) ?_
              simp only [Act.put, List.setIfInBounds_toArray, List.set_cons_zero, List.set_cons_succ]
              refine wpAnyH_ready (rs := [1]) (by kernel_rfl) (by simp) ?_
              refine AllReadyH.cons (o := { dst := some 115, op := Op.call { callee := Callee.value (Operand.func 10), args := #[Operand.tmp 114], argTypes := #[23] }, type := 31, pos := _, after := #[{ on := 0, ground := Ground.data }], guard := none }) rfl (fun K hK => ?_) AllReadyH.nil
              go_simp
              (go_at_call 10; refine (HHd.out _ HXc.out.lx.fi).mono ?_; rintro e wn ⟨rfl, hb⟩; have HXc : Hid (EX W wn W.heap.size oB A D B o F G a) := HXc.out.step hb; clear hb; go_wp2_with fail)
              refine hK.out _ _ ?_ (fun hHeld => ?_)
              · ((try dsimp only); exact HSS.out _ HXc.out.no)
              clear hK K
              try simp only [Act.put, List.setIfInBounds_toArray, List.set_cons_zero, List.set_cons_succ]
              refine wpAnyH_take (i := 3) (oi := { dst := some 117, op := Op.binOp BinOp.neq 31 (Operand.tmp 115) (Operand.tmp 116) 31, type := 4, pos := _, after := #[{ on := 1, ground := Ground.data }, { on := 2, ground := Ground.data }], guard := none }) (v := ?_) rfl (by kernel_rfl) (by kernel_rfl) (by kernel_rfl) (fun _ _ _ h => h) (Or.inl ⟨by rfl, ?_⟩) (by assumption) ?_
              rotate_left
              · (intro w hSw; (try dsimp only at hSw); go_simp; try with_reducible rfl)
              simp only [Act.put, List.setIfInBounds_toArray, List.set_cons_zero, List.set_cons_succ]
              refine wpAnyH_take (i := 4) (oi := { dst := some 118, op := Op.move (Operand.tmp 117), type := 4, pos := _, after := #[{ on := 3, ground := Ground.data }, { on := 1, ground := Ground.chain }], guard := none }) (v := ?_) rfl (by kernel_rfl) (by kernel_rfl) (by kernel_rfl) (fun _ _ _ h => h) (Or.inl ⟨by rfl, ?_⟩) (by assumption) ?_
              rotate_left
              · (intro w hSw; (try dsimp only at hSw); go_simp; try with_reducible rfl)
              simp only [Act.put, List.setIfInBounds_toArray, List.set_cons_zero, List.set_cons_succ]
              refine wpAnyH_take (i := 5) (oi := { dst := some 119, op := Op.move (Operand.tmp 3), type := 23, pos := _, after := #[{ on := 4, ground := Ground.guard }], guard := some (4, false) }) (v := ?_) rfl (by kernel_rfl) (by kernel_rfl) (by kernel_rfl) (fun _ _ _ h => h) (Or.inl ⟨by rfl, ?_⟩) (by assumption) ?_
              rotate_left
              · (intro w hSw; (try dsimp only at hSw); go_simp; try with_reducible rfl)
              simp only [Act.put, List.setIfInBounds_toArray, List.set_cons_zero, List.set_cons_succ]
              refine wpAnyH_take (i := 6) (oi := { dst := some 120, op := Op.move (Operand.tmp 10), type := 3, pos := _, after := #[{ on := 4, ground := Ground.guard }], guard := some (4, false) }) (v := ?_) rfl (by kernel_rfl) (by kernel_rfl) (by kernel_rfl) (fun _ _ _ h => h) (Or.inl ⟨by rfl, ?_⟩) (by assumption) ?_
              rotate_left
              · (intro w hSw; (try dsimp only at hSw); go_simp; try with_reducible rfl)
              simp only [Act.put, List.setIfInBounds_toArray, List.set_cons_zero, List.set_cons_succ]
              refine wpAnyH_take (i := 7) (oi := { dst := some 121, op := Op.move (Operand.tmp 10), type := 3, pos := _, after := #[{ on := 4, ground := Ground.guard }], guard := some (4, false) }) (v := ?_) rfl (by kernel_rfl) (by kernel_rfl) (by kernel_rfl) (fun _ _ _ h => h) (Or.inl ⟨by rfl, ?_⟩) (by assumption) ?_
              rotate_left
              · (intro w hSw; (try dsimp only at hSw); go_simp; try with_reducible rfl)
              simp only [Act.put, List.setIfInBounds_toArray, List.set_cons_zero, List.set_cons_succ]
              refine wpAnyH_take (i := 8) (oi := { dst := some 122, op := Op.indexAddr 31 (Operand.tmp 9) (Operand.tmp 121), type := 0, pos := _, after := #[{ on := 7, ground := Ground.data }, { on := 4, ground := Ground.guard }], guard := some (4, false) }) (v := ?_) rfl (by kernel_rfl) (by kernel_rfl) (by kernel_rfl) (fun _ _ _ h => h) (Or.inl ⟨by rfl, ?_⟩) (by assumption) ?_
              rotate_left
              · (intro w hSw; (try dsimp only at hSw); go_simp; try with_reducible rfl)
              simp only [Act.put, List.setIfInBounds_toArray, List.set_cons_zero, List.set_cons_succ]
              refine wpAnyH_take (i := 9) (oi := { dst := some 123, op := Op.load 28 (Operand.tmp 122), type := 28, pos := _, after := #[{ on := 8, ground := Ground.data }, { on := 4, ground := Ground.guard }], guard := some (4, false) }) (v := ?_) rfl (by kernel_rfl) (by kernel_rfl) (by kernel_rfl) (fun _ _ _ h => h) (Or.inl ⟨by rfl, ?_⟩) (by assumption) ?_
              rotate_left
              · (intro w hSw; (try dsimp only at hSw); go_simp; try with_reducible rfl)
              simp only [Act.put, List.setIfInBounds_toArray, List.set_cons_zero, List.set_cons_succ]
              refine wpAnyH_ready (rs := [10]) (by kernel_rfl) (by simp) ?_
              refine AllReadyH.cons (o := { dst := some 124, op := Op.call { callee := Callee.value (Operand.func 14), args := #[Operand.tmp 119, Operand.tmp 120, Operand.tmp 123], argTypes := #[23, 3, 28] }, type := 37, pos := _, after := #[{ on := 5, ground := Ground.data }, { on := 6, ground := Ground.data }, { on := 9, ground := Ground.data }, { on := 4, ground := Ground.chain }, { on := 4, ground := Ground.guard }], guard := some (4, false) }) rfl (fun K hK => ?_) AllReadyH.nil
              go_simp
              (go_at_call 14; refine (HPut.out _ HXc.out.lx.fi HXc.out.lx.tr).mono ?_; rintro e wn ⟨rfl, hf, ht⟩; have HXc : Hid (EX W wn W.heap.size oB A D B o F G a) := HXc.out.turn hf ht; clear hf ht; go_wp2_with fail)
              refine hK.out _ _ ?_ (fun hHeld => ?_)
              · ((try dsimp only); exact HSS.out _ HXc.out.no)
              clear hK K
              try simp only [Act.put, List.setIfInBounds_toArray, List.set_cons_zero, List.set_cons_succ]
              refine wpAnyH_ready (rs := [11]) (by kernel_rfl) (by simp) ?_
              refine AllReadyH.cons (o := { dst := some 125, op := Op.call { callee := Callee.value (Operand.func 13), args := #[Operand.tmp 124], argTypes := #[37] }, type := 3, pos := _, after := #[{ on := 10, ground := Ground.data }, { on := 10, ground := Ground.chain }, { on := 4, ground := Ground.guard }], guard := some (4, false) }) rfl (fun K hK => ?_) AllReadyH.nil
              go_simp
              (go_at_call 13; refine (hno _ _).mono ?_; rintro e w' ⟨rfl, rfl⟩; go_wp2_with fail)
              refine hK.out _ _ ?_ (fun hHeld => ?_)
              · ((try dsimp only); exact HSS.out _ HXc.out.no)
              clear hK K
              try simp only [Act.put, List.setIfInBounds_toArray, List.set_cons_zero, List.set_cons_succ]
              refine wpAnyH_take (i := 12) (oi := { dst := some 126, op := Op.binOp BinOp.neq 3 (Operand.tmp 125) (Operand.const (Value.int IntKind.i64 0)) 3, type := 4, pos := _, after := #[{ on := 11, ground := Ground.data }, { on := 4, ground := Ground.guard }], guard := some (4, false) }) (v := ?_) rfl (by kernel_rfl) (by kernel_rfl) (by kernel_rfl) (fun _ _ _ h => h) (Or.inl ⟨by rfl, ?_⟩) (by assumption) ?_
              rotate_left
              · (intro w hSw; (try dsimp only at hSw); go_simp; try with_reducible rfl)
              simp only [Act.put, List.setIfInBounds_toArray, List.set_cons_zero, List.set_cons_succ]
              refine wpAnyH_take (i := 13) (oi := { dst := some 127, op := Op.pick (Operand.tmp 118) (Operand.const (Value.bool true)) (Operand.tmp 126), type := 4, pos := _, after := #[{ on := 4, ground := Ground.data }, { on := 12, ground := Ground.data }], guard := none }) (v := ?_) rfl (by kernel_rfl) (by kernel_rfl) (by kernel_rfl) (fun _ _ _ h => h) (Or.inl ⟨by rfl, ?_⟩) (by assumption) ?_
              rotate_left
              · (intro w hSw; (try dsimp only at hSw); go_simp; try with_reducible rfl)
              simp only [Act.put, List.setIfInBounds_toArray, List.set_cons_zero, List.set_cons_succ]
              refine wpAnyH_take (i := 14) (oi := { dst := some 128, op := Op.move (Operand.tmp 127), type := 4, pos := _, after := #[{ on := 13, ground := Ground.data }, { on := 11, ground := Ground.chain }], guard := none }) (v := ?_) rfl (by kernel_rfl) (by kernel_rfl) (by kernel_rfl) (fun _ _ _ h => h) (Or.inl ⟨by rfl, ?_⟩) (by assumption) ?_
              rotate_left
              · (intro w hSw; (try dsimp only at hSw); go_simp; try with_reducible rfl)
              simp only [Act.put, List.setIfInBounds_toArray, List.set_cons_zero, List.set_cons_succ]
              refine wpAnyH_take (i := 15) (oi := { dst := some 129, op := Op.move (Operand.tmp 3), type := 23, pos := _, after := #[{ on := 14, ground := Ground.guard }], guard := some (14, false) }) (v := ?_) rfl (by kernel_rfl) (by kernel_rfl) (by kernel_rfl) (fun _ _ _ h => h) (Or.inl ⟨by rfl, ?_⟩) (by assumption) ?_
              rotate_left
              · (intro w hSw; (try dsimp only at hSw); go_simp; try with_reducible rfl)
              simp only [Act.put, List.setIfInBounds_toArray, List.set_cons_zero, List.set_cons_succ]
              refine wpAnyH_take (i := 17) (oi := { dst := some 131, op := Op.load 31 (Operand.tmp 9), type := 31, pos := _, after := #[{ on := 14, ground := Ground.guard }], guard := some (14, false) }) (v := .agg E2.toArray) rfl (by kernel_rfl) (by kernel_rfl) (by kernel_rfl) (fun _ _ _ h => h) (Or.inl ⟨by rfl, fun w hSw => exec31 _ _ _ rfl B E2 rfl w hSw.1.out HI31.out⟩) (by assumption) ?_
              simp only [Act.put, List.setIfInBounds_toArray, List.set_cons_zero, List.set_cons_succ]
              refine wpAnyH_ready (rs := [16]) (by kernel_rfl) (by simp) ?_
              refine AllReadyH.cons (o := { dst := some 130, op := Op.call { callee := Callee.value (Operand.func 10), args := #[Operand.tmp 129], argTypes := #[23] }, type := 31, pos := _, after := #[{ on := 15, ground := Ground.data }, { on := 14, ground := Ground.chain }, { on := 14, ground := Ground.guard }], guard := some (14, false) }) rfl (fun K hK => ?_) AllReadyH.nil
              go_simp
              (go_at_call 10; refine (HHd.out _ HXc.out.lx.fi).mono ?_; rintro e wn ⟨rfl, hb⟩; have HXc : Hid (EX W wn W.heap.size oB A D B o F G a) := HXc.out.step hb; clear hb; go_wp2_with fail)
              refine hK.out _ _ ?_ (fun hHeld => ?_)
              · ((try dsimp only); exact HSS.out _ HXc.out.no)
              clear hK K
              try simp only [Act.put, List.setIfInBounds_toArray, List.set_cons_zero, List.set_cons_succ]
              refine wpAnyH_take (i := 18) (oi := { dst := some 132, op := Op.binOp BinOp.neq 31 (Operand.tmp 130) (Operand.tmp 131) 31, type := 4, pos := _, after := #[{ on := 16, ground := Ground.data }, { on := 17, ground := Ground.data }, { on := 14, ground := Ground.guard }], guard := some (14, false) }) (v := ?_) rfl (by kernel_rfl) (by kernel_rfl) (by kernel_rfl) (fun _ _ _ h => h) (Or.inl ⟨by rfl, ?_⟩) (by assumption) ?_
              rotate_left
              · (intro w hSw; (try dsimp only at hSw); go_simp; try with_reducible rfl)
              simp only [Act.put, List.setIfInBounds_toArray, List.set_cons_zero, List.set_cons_succ]
              refine wpAnyH_take (i := 19) (oi := { dst := some 133, op := Op.pick (Operand.tmp 128) (Operand.const (Value.bool true)) (Operand.tmp 132), type := 4, pos := _, after := #[{ on := 14, ground := Ground.data }, { on := 18, ground := Ground.data }], guard := none }) (v := ?_) rfl (by kernel_rfl) (by kernel_rfl) (by kernel_rfl) (fun _ _ _ h => h) (Or.inl ⟨by rfl, ?_⟩) (by assumption) ?_
              rotate_left
              · (intro w hSw; (try dsimp only at hSw); go_simp; try with_reducible rfl)
              simp only [Act.put, List.setIfInBounds_toArray, List.set_cons_zero, List.set_cons_succ]
              refine wpAnyH_done (by kernel_rfl) ?_ _
              go_wp2
              go_roundw
              case rel => exact ⟨k + 1, G, by omega, rfl, HXc.out.lx, HKD.out⟩
              case measure => simp [intOf]; omega
        · have j2 : (o.k == 2) = false := by simp [hk4]
          have j4 : (o.k == 4) = true := by simp [hk4]
          have HREG : Hid (o.reg = (r : Int)) := hrg
          generalize (regOf o.t).getD 0 = r0 at *
          generalize (regOf o.t).isSome = OK at *
          clear hk4 hrg
          rw [HREG.out] at ob0
          have hd1 : decide ((r : Int) < -1) = false := by first | (simp; done) | (simp; omega)
          have hd2 : decide (12 < (r : Int)) = false := by simp; omega
          have hd3 : decide ((r : Int) < 0) = false := by simp
          go_wp2_with (go_at_call 13; refine (hno _ _).mono ?_; rintro e w' ⟨rfl, rfl⟩)
          generalize wr = wz at *
          clear ob0 ac0
          go_loopw [13] (fun s13 wq => ∃ j : Nat, j ≤ 13 ∧ s13 = .int .i64 j ∧ EX W wq W.heap.size oB A D B o F G a) (fun s13 _ => 13 - (intOf s13).toNat)
          case atStart => exact ⟨0, by omega, rfl, HX10.out⟩
          case round =>
            obtain ⟨j, hj, rfl, hX⟩ := hrel
            have HX : Hid (EX W wr W.heap.size oB A D B o F G a) := hX
            clear hX HX10
            by_cases hj13 : j < 13
            · have hji : (j : Int) < 13 := by omega
              have c1 := bl13 HX.out.wa HL.out hj13
              have c2 := bl13 HX.out.no HLG.out hj13
              have l1 := HX.out.wa.lt
              have l2 := HX.out.no.lt
              have hjw : IntKind.i64.wrap ((j : Int) + 1) = ((j + 1 : Nat) : Int) := by rw [IntKind.wrap_i64]; omega
              clear hj
              by_cases hjr : j = r
              · subst hjr
                have hne : ((j : Int) != (j : Int)) = false := by simp
                go_wp2
                go_quiet (fail)
                go_wp2
                go_roundw
                case rel => exact ⟨j + 1, by omega, rfl, HX.out.drewN _⟩
                case measure => simp [intOf]; omega
              · have hne : ((j : Int) != (r : Int)) = true := by simp; omega
                rw [HGet.out j hjr] at c2
                generalize F.getD j 0 = vj at *
                go_wp2
                go_quiet (fail)
                go_wp2
                go_roundw
                case rel => exact ⟨j + 1, by omega, rfl, HX.out.drewN _⟩
                case measure => simp [intOf]; omega
            · obtain rfl : j = 13 := by omega
              have c2 := bl13 HX.out.no HLG.out hr13
              rw [HGr.out] at c2
              have ob6 := HX.out.ob.cell 6
              have l2 := HX.out.no.lt
              have hri : (r : Int) < 13 := by omega
              clear hj hj13
              go_wp2
              go_quiet (fail)
              have HX1 : Hid (EX W (wr.drewN nq) W.heap.size oB A D B o F G a) := HX.out.drewN nq
              clear c2 ob6 l2 HX
              generalize wr.drewN nq = wq at *
              have ob0 := HX1.out.ob.cell
              go_wp2_with (fail)
              go_at_call 11
              refine (HDS.out G _ HX1.out.lx.fi HX1.out.lx.tr).mono ?_
              rintro e w12 ⟨rfl, hf, ht⟩
              rw [HAgain.out] at hf
              have HX2 : Hid (EX W w12 W.heap.size oB A D B o F G a) := HX1.out.turn hf ht
              clear hf ht HX1 ob0
              go_wp2_with (fail)
              have HSS : Hid (∀ w' : World, Bl w' B 31 (encF G) → Hid (w'.rangeAt B 0 E2) ∧ w'.cell? ⟨B, r, none⟩ = some (.int .u32 (y : Int))) := fun w' h => ⟨by rw [← HE2.out]; exact h.range, by have := bl13 h HLG.out hr13; rwa [HGr.out] at this⟩
              have HHd : Hid (∀ w, Fi 63 w W.heap.size G → Calls Tryd.prog 10 #[.pointer (some ⟨W.heap.size, 0, none⟩)] w fun e w' => e = .returned (.agg E2.toArray) ∧ Below w.heap.size w w') := fun w h => by
                have := HHeld.out G w h
                rwa [HE2.out] at this
              have he : ∀ w, (Op.equalIn 10000 31 (.agg E2.toArray) (.agg E2.toArray)).run Tryd.prog w = .ok true w := fun w => by
                have := eqH G HLG.out w
                rwa [HE2.out] at this
              refine wp_region_held_drew (S := fun w' => Hid (w'.rangeAt B 0 E2) ∧ w'.cell? ⟨B, r, none⟩ = some (.int .u32 (y : Int))) (by kernel_rfl) (HSS.out _ HX2.out.no.drew) (fun hHeld => ?_)
              have HI31 : Hid ((Tryd.prog.info? 31).map (·.size) = some E2.length) := by rw [← HE2.out]; exact info31L G HLG.out
              have HXc : Hid (EX W w12.drew W.heap.size oB A D B o F G a) := HX2.out.drew
              clear HX2
              refine wpAnyH_take (i := 0) (oi := { dst := some 114, op := Op.move (Operand.tmp 3), type := 23, pos := _, after := #[], guard := none }) (v := ?_) rfl (by kernel_rfl) (by kernel_rfl) (by kernel_rfl) (fun _ _ _ h => h) (Or.inl ⟨by rfl, ?_⟩) (by assumption) ?_
              rotate_left
              · (intro w hSw; (try dsimp only at hSw); go_simp; try with_reducible rfl)
              simp only [Act.put, List.setIfInBounds_toArray, List.set_cons_zero, List.set_cons_succ]
              refine wpAnyH_take (i := 2) (oi := { dst := some 116, op := Op.load 31 (Operand.tmp 9), type := 31, pos := _, after := #[], guard := none }) (v := .agg E2.toArray) rfl (by kernel_rfl) (by kernel_rfl) (by kernel_rfl) (fun _ _ _ h => h) (Or.inl ⟨by rfl, fun w hSw => exec31 _ _ _ rfl B E2 rfl w hSw.1.out HI31.out⟩) (by assumption) ?_
              simp only [Act.put, List.setIfInBounds_toArray, List.set_cons_zero, List.set_cons_succ]
              refine wpAnyH_ready (rs := [1]) (by kernel_rfl) (by simp) ?_
              refine AllReadyH.cons (o := { dst := some 115, op := Op.call { callee := Callee.value (Operand.func 10), args := #[Operand.tmp 114], argTypes := #[23] }, type := 31, pos := _, after := #[{ on := 0, ground := Ground.data }], guard := none }) rfl (fun K hK => ?_) AllReadyH.nil
              go_simp
              (go_at_call 10; refine (HHd.out _ HXc.out.lx.fi).mono ?_; rintro e wn ⟨rfl, hb⟩; have HXc : Hid (EX W wn W.heap.size oB A D B o F G a) := HXc.out.step hb; clear hb; go_wp2_with fail)
              refine hK.out _ _ ?_ (fun hHeld => ?_)
              · ((try dsimp only); exact HSS.out _ HXc.out.no)
              clear hK K
              try simp only [Act.put, List.setIfInBounds_toArray, List.set_cons_zero, List.set_cons_succ]
              refine wpAnyH_take (i := 3) (oi := { dst := some 117, op := Op.binOp BinOp.neq 31 (Operand.tmp 115) (Operand.tmp 116) 31, type := 4, pos := _, after := #[{ on := 1, ground := Ground.data }, { on := 2, ground := Ground.data }], guard := none }) (v := ?_) rfl (by kernel_rfl) (by kernel_rfl) (by kernel_rfl) (fun _ _ _ h => h) (Or.inl ⟨by rfl, ?_⟩) (by assumption) ?_
              rotate_left
              · (intro w hSw; (try dsimp only at hSw); go_simp; try with_reducible rfl)
              simp only [Act.put, List.setIfInBounds_toArray, List.set_cons_zero, List.set_cons_succ]
              refine wpAnyH_take (i := 4) (oi := { dst := some 118, op := Op.move (Operand.tmp 117), type := 4, pos := _, after := #[{ on := 3, ground := Ground.data }, { on := 1, ground := Ground.chain }], guard := none }) (v := ?_) rfl (by kernel_rfl) (by kernel_rfl) (by kernel_rfl) (fun _ _ _ h => h) (Or.inl ⟨by rfl, ?_⟩) (by assumption) ?_
              rotate_left
              · (intro w hSw; (try dsimp only at hSw); go_simp; try with_reducible rfl)
              simp only [Act.put, List.setIfInBounds_toArray, List.set_cons_zero, List.set_cons_succ]
              refine wpAnyH_take (i := 5) (oi := { dst := some 119, op := Op.move (Operand.tmp 3), type := 23, pos := _, after := #[{ on := 4, ground := Ground.guard }], guard := some (4, false) }) (v := ?_) rfl (by kernel_rfl) (by kernel_rfl) (by kernel_rfl) (fun _ _ _ h => h) (Or.inl ⟨by rfl, ?_⟩) (by assumption) ?_
              rotate_left
              · (intro w hSw; (try dsimp only at hSw); go_simp; try with_reducible rfl)
              simp only [Act.put, List.setIfInBounds_toArray, List.set_cons_zero, List.set_cons_succ]
              refine wpAnyH_take (i := 6) (oi := { dst := some 120, op := Op.move (Operand.tmp 10), type := 3, pos := _, after := #[{ on := 4, ground := Ground.guard }], guard := some (4, false) }) (v := ?_) rfl (by kernel_rfl) (by kernel_rfl) (by kernel_rfl) (fun _ _ _ h => h) (Or.inl ⟨by rfl, ?_⟩) (by assumption) ?_
              rotate_left
              · (intro w hSw; (try dsimp only at hSw); go_simp; try with_reducible rfl)
              simp only [Act.put, List.setIfInBounds_toArray, List.set_cons_zero, List.set_cons_succ]
              refine wpAnyH_take (i := 7) (oi := { dst := some 121, op := Op.move (Operand.tmp 10), type := 3, pos := _, after := #[{ on := 4, ground := Ground.guard }], guard := some (4, false) }) (v := ?_) rfl (by kernel_rfl) (by kernel_rfl) (by kernel_rfl) (fun _ _ _ h => h) (Or.inl ⟨by rfl, ?_⟩) (by assumption) ?_
              rotate_left
              · (intro w hSw; (try dsimp only at hSw); go_simp; try with_reducible rfl)
              simp only [Act.put, List.setIfInBounds_toArray, List.set_cons_zero, List.set_cons_succ]
              refine wpAnyH_take (i := 8) (oi := { dst := some 122, op := Op.indexAddr 31 (Operand.tmp 9) (Operand.tmp 121), type := 0, pos := _, after := #[{ on := 7, ground := Ground.data }, { on := 4, ground := Ground.guard }], guard := some (4, false) }) (v := ?_) rfl (by kernel_rfl) (by kernel_rfl) (by kernel_rfl) (fun _ _ _ h => h) (Or.inl ⟨by rfl, ?_⟩) (by assumption) ?_
              rotate_left
              · (intro w hSw; (try dsimp only at hSw); go_simp; try with_reducible rfl)
              simp only [Act.put, List.setIfInBounds_toArray, List.set_cons_zero, List.set_cons_succ]
              refine wpAnyH_take (i := 9) (oi := { dst := some 123, op := Op.load 28 (Operand.tmp 122), type := 28, pos := _, after := #[{ on := 8, ground := Ground.data }, { on := 4, ground := Ground.guard }], guard := some (4, false) }) (v := ?_) rfl (by kernel_rfl) (by kernel_rfl) (by kernel_rfl) (fun _ _ _ h => h) (Or.inl ⟨by rfl, ?_⟩) (by assumption) ?_
              rotate_left
              · (intro w hSw; (try dsimp only at hSw); go_simp; try with_reducible rfl)
              simp only [Act.put, List.setIfInBounds_toArray, List.set_cons_zero, List.set_cons_succ]
              refine wpAnyH_ready (rs := [10]) (by kernel_rfl) (by simp) ?_
              refine AllReadyH.cons (o := { dst := some 124, op := Op.call { callee := Callee.value (Operand.func 14), args := #[Operand.tmp 119, Operand.tmp 120, Operand.tmp 123], argTypes := #[23, 3, 28] }, type := 37, pos := _, after := #[{ on := 5, ground := Ground.data }, { on := 6, ground := Ground.data }, { on := 9, ground := Ground.data }, { on := 4, ground := Ground.chain }, { on := 4, ground := Ground.guard }], guard := some (4, false) }) rfl (fun K hK => ?_) AllReadyH.nil
              go_simp
              (go_at_call 14; refine (HPut.out _ HXc.out.lx.fi HXc.out.lx.tr).mono ?_; rintro e wn ⟨rfl, hf, ht⟩; have HXc : Hid (EX W wn W.heap.size oB A D B o F G a) := HXc.out.turn hf ht; clear hf ht; go_wp2_with fail)
              refine hK.out _ _ ?_ (fun hHeld => ?_)
              · ((try dsimp only); exact HSS.out _ HXc.out.no)
              clear hK K
              try simp only [Act.put, List.setIfInBounds_toArray, List.set_cons_zero, List.set_cons_succ]
              refine wpAnyH_ready (rs := [11]) (by kernel_rfl) (by simp) ?_
              refine AllReadyH.cons (o := { dst := some 125, op := Op.call { callee := Callee.value (Operand.func 13), args := #[Operand.tmp 124], argTypes := #[37] }, type := 3, pos := _, after := #[{ on := 10, ground := Ground.data }, { on := 10, ground := Ground.chain }, { on := 4, ground := Ground.guard }], guard := some (4, false) }) rfl (fun K hK => ?_) AllReadyH.nil
              go_simp
              (go_at_call 13; refine (hno _ _).mono ?_; rintro e w' ⟨rfl, rfl⟩; go_wp2_with fail)
              refine hK.out _ _ ?_ (fun hHeld => ?_)
              · ((try dsimp only); exact HSS.out _ HXc.out.no)
              clear hK K
              try simp only [Act.put, List.setIfInBounds_toArray, List.set_cons_zero, List.set_cons_succ]
              refine wpAnyH_take (i := 12) (oi := { dst := some 126, op := Op.binOp BinOp.neq 3 (Operand.tmp 125) (Operand.const (Value.int IntKind.i64 0)) 3, type := 4, pos := _, after := #[{ on := 11, ground := Ground.data }, { on := 4, ground := Ground.guard }], guard := some (4, false) }) (v := ?_) rfl (by kernel_rfl) (by kernel_rfl) (by kernel_rfl) (fun _ _ _ h => h) (Or.inl ⟨by rfl, ?_⟩) (by assumption) ?_
              rotate_left
              · (intro w hSw; (try dsimp only at hSw); go_simp; try with_reducible rfl)
              simp only [Act.put, List.setIfInBounds_toArray, List.set_cons_zero, List.set_cons_succ]
              refine wpAnyH_take (i := 13) (oi := { dst := some 127, op := Op.pick (Operand.tmp 118) (Operand.const (Value.bool true)) (Operand.tmp 126), type := 4, pos := _, after := #[{ on := 4, ground := Ground.data }, { on := 12, ground := Ground.data }], guard := none }) (v := ?_) rfl (by kernel_rfl) (by kernel_rfl) (by kernel_rfl) (fun _ _ _ h => h) (Or.inl ⟨by rfl, ?_⟩) (by assumption) ?_
              rotate_left
              · (intro w hSw; (try dsimp only at hSw); go_simp; try with_reducible rfl)
              simp only [Act.put, List.setIfInBounds_toArray, List.set_cons_zero, List.set_cons_succ]
              refine wpAnyH_take (i := 14) (oi := { dst := some 128, op := Op.move (Operand.tmp 127), type := 4, pos := _, after := #[{ on := 13, ground := Ground.data }, { on := 11, ground := Ground.chain }], guard := none }) (v := ?_) rfl (by kernel_rfl) (by kernel_rfl) (by kernel_rfl) (fun _ _ _ h => h) (Or.inl ⟨by rfl, ?_⟩) (by assumption) ?_
              rotate_left
              · (intro w hSw; (try dsimp only at hSw); go_simp; try with_reducible rfl)
              simp only [Act.put, List.setIfInBounds_toArray, List.set_cons_zero, List.set_cons_succ]
              refine wpAnyH_take (i := 15) (oi := { dst := some 129, op := Op.move (Operand.tmp 3), type := 23, pos := _, after := #[{ on := 14, ground := Ground.guard }], guard := some (14, false) }) (v := ?_) rfl (by kernel_rfl) (by kernel_rfl) (by kernel_rfl) (fun _ _ _ h => h) (Or.inl ⟨by rfl, ?_⟩) (by assumption) ?_
              rotate_left
              · (intro w hSw; (try dsimp only at hSw); go_simp; try with_reducible rfl)
              simp only [Act.put, List.setIfInBounds_toArray, List.set_cons_zero, List.set_cons_succ]
              refine wpAnyH_take (i := 17) (oi := { dst := some 131, op := Op.load 31 (Operand.tmp 9), type := 31, pos := _, after := #[{ on := 14, ground := Ground.guard }], guard := some (14, false) }) (v := .agg E2.toArray) rfl (by kernel_rfl) (by kernel_rfl) (by kernel_rfl) (fun _ _ _ h => h) (Or.inl ⟨by rfl, fun w hSw => exec31 _ _ _ rfl B E2 rfl w hSw.1.out HI31.out⟩) (by assumption) ?_
              simp only [Act.put, List.setIfInBounds_toArray, List.set_cons_zero, List.set_cons_succ]
              refine wpAnyH_ready (rs := [16]) (by kernel_rfl) (by simp) ?_
              refine AllReadyH.cons (o := { dst := some 130, op := Op.call { callee := Callee.value (Operand.func 10), args := #[Operand.tmp 129], argTypes := #[23] }, type := 31, pos := _, after := #[{ on := 15, ground := Ground.data }, { on := 14, ground := Ground.chain }, { on := 14, ground := Ground.guard }], guard := some (14, false) }) rfl (fun K hK => ?_) AllReadyH.nil
              go_simp
              (go_at_call 10; refine (HHd.out _ HXc.out.lx.fi).mono ?_; rintro e wn ⟨rfl, hb⟩; have HXc : Hid (EX W wn W.heap.size oB A D B o F G a) := HXc.out.step hb; clear hb; go_wp2_with fail)
              refine hK.out _ _ ?_ (fun hHeld => ?_)
              · ((try dsimp only); exact HSS.out _ HXc.out.no)
              clear hK K
              try simp only [Act.put, List.setIfInBounds_toArray, List.set_cons_zero, List.set_cons_succ]
              refine wpAnyH_take (i := 18) (oi := { dst := some 132, op := Op.binOp BinOp.neq 31 (Operand.tmp 130) (Operand.tmp 131) 31, type := 4, pos := _, after := #[{ on := 16, ground := Ground.data }, { on := 17, ground := Ground.data }, { on := 14, ground := Ground.guard }], guard := some (14, false) }) (v := ?_) rfl (by kernel_rfl) (by kernel_rfl) (by kernel_rfl) (fun _ _ _ h => h) (Or.inl ⟨by rfl, ?_⟩) (by assumption) ?_
              rotate_left
              · (intro w hSw; (try dsimp only at hSw); go_simp; try with_reducible rfl)
              simp only [Act.put, List.setIfInBounds_toArray, List.set_cons_zero, List.set_cons_succ]
              refine wpAnyH_take (i := 19) (oi := { dst := some 133, op := Op.pick (Operand.tmp 128) (Operand.const (Value.bool true)) (Operand.tmp 132), type := 4, pos := _, after := #[{ on := 14, ground := Ground.data }, { on := 18, ground := Ground.data }], guard := none }) (v := ?_) rfl (by kernel_rfl) (by kernel_rfl) (by kernel_rfl) (fun _ _ _ h => h) (Or.inl ⟨by rfl, ?_⟩) (by assumption) ?_
              rotate_left
              · (intro w hSw; (try dsimp only at hSw); go_simp; try with_reducible rfl)
              simp only [Act.put, List.setIfInBounds_toArray, List.set_cons_zero, List.set_cons_succ]
              refine wpAnyH_done (by kernel_rfl) ?_ _
              go_wp2
              go_roundw
              case rel => exact ⟨k + 1, G, by omega, rfl, HXc.out.lx, HKD.out⟩
              case measure => simp [intOf]; omega
      · have hc : ∃ J2 J4 OK JE : Bool, (o.k == 2) = J2 ∧ (o.k == 4) = J4 ∧ (regOf o.t).isSome = OK ∧ ((ee : Int) == 0) = JE ∧ (J2 && OK && JE) = false ∧ (J4 && JE) = false ∧ (J2 && J4) = false ∧ (JE = false → a = aZ) := by
          refine ⟨_, _, _, _, rfl, rfl, rfl, rfl, ?_, ?_, ?_, ?_⟩
          · rcases h2 with h | h | h
            · simp [h]
            · simp [h]
            · have : ¬ (ee : Int) = 0 := by omega
              simp [h]
          · rcases h4 with h | h
            · simp [h]
            · have : ¬ (ee : Int) = 0 := by omega
              simp [h]
          · by_cases h : o.k = 2
            · simp [h]
            · simp [h]
          · intro h
            refine hac (fun e => ?_)
            rw [e] at h
            simp at h
        obtain ⟨J2, J4, OK, JE, j2, j4, hok, je, q1, q2, q3, q4⟩ := hc
        have jn : ((ee : Int) != 0) = !JE := by rw [← je]; rfl
        have heqz : ∀ w, (Op.equalIn 10000 36 (.agg #[.int .i64 aZ.k, .int .i64 aZ.tk, .int .u32 (aZ.tva : Nat), .int .i64 (aZ.tas : Nat), .int .u32 (aZ.va : Nat), .bool aZ.us, .bool aZ.st]) (.agg #[.int .i64 0, .int .i64 0, .int .u32 0, .int .i64 0, .int .u32 0, .bool false, .bool false])).run Tryd.prog w = .ok true w := fun w => (eqA aZ aZ w).trans (by rw [Ac.same_self])
        have HQ4 : Hid (JE = false → a = aZ) := q4
        have HJN : Hid (((ee : Int) != 0) = !JE) := jn
        subst hG
        clear hac h2 h4 HEC HE HE2 q4 jn HZ0
        rw [hok]
        generalize (regOf o.t).getD 0 = r0 at *
        clear hok
        have hsp := split5 q1 q2 q3 HQ4.out
        clear q1 q2 q3 HQ4
        rcases hsp with ⟨rfl, rfl, rfl⟩ | ⟨rfl, rfl, rfl⟩ | ⟨rfl, rfl, rfl, rfl⟩ | ⟨rfl, rfl, rfl, rfl, rfl⟩ | ⟨rfl, rfl, rfl, rfl, rfl⟩
        · have jn : ((ee : Int) != 0) = false := HJN.out
          clear HJN
          go_wp2_with (go_at_call 13; refine (hno _ _).mono ?_; rintro e w' ⟨rfl, rfl⟩)
          generalize wr = wz at *
          clear ob0 ac0
          go_loopw [13] (fun s13 wq => ∃ j : Nat, j ≤ 13 ∧ s13 = .int .i64 j ∧ EX W wq W.heap.size oB A D B o G G a) (fun s13 _ => 13 - (intOf s13).toNat)
          case atStart => exact ⟨0, by omega, rfl, HX10.out⟩
          case round =>
            obtain ⟨j, hj, rfl, hX⟩ := hrel
            have HX : Hid (EX W wr W.heap.size oB A D B o G G a) := hX
            clear hX HX10
            by_cases hj13 : j < 13
            · have hji : (j : Int) < 13 := by omega
              have c1 := bl13 HX.out.wa HL.out hj13
              have c2 := bl13 HX.out.no HL.out hj13
              have l1 := HX.out.wa.lt
              have l2 := HX.out.no.lt
              have hjw : IntKind.i64.wrap ((j : Int) + 1) = ((j + 1 : Nat) : Int) := by rw [IntKind.wrap_i64]; omega
              have hne : ((j : Int) != -1) = true := by simp
              generalize G.getD j 0 = vj at *
              clear hj
              go_wp2
              go_quiet (fail)
              go_wp2
              go_roundw
              case rel => exact ⟨j + 1, by omega, rfl, HX.out.drewN _⟩
              case measure => simp [intOf]; omega
            · obtain rfl : j = 13 := by omega
              clear hj hj13
              go_wp2
              go_roundw
              case rel => exact ⟨k + 1, G, by omega, rfl, HX.out.lx, HKD.out⟩
              case measure => simp [intOf]; omega
        · cases J4
          · have jn : ((ee : Int) != 0) = true := HJN.out
            clear HJN
            go_wp2_with (go_at_call 13; refine (hno _ _).mono ?_; rintro e w' ⟨rfl, rfl⟩)
            generalize wr = wz at *
            clear ob0 ac0
            go_loopw [13] (fun s13 wq => ∃ j : Nat, j ≤ 13 ∧ s13 = .int .i64 j ∧ EX W wq W.heap.size oB A D B o G G aZ) (fun s13 _ => 13 - (intOf s13).toNat)
            case atStart => exact ⟨0, by omega, rfl, HX10.out⟩
            case round =>
              obtain ⟨j, hj, rfl, hX⟩ := hrel
              have HX : Hid (EX W wr W.heap.size oB A D B o G G aZ) := hX
              clear hX HX10
              by_cases hj13 : j < 13
              · have hji : (j : Int) < 13 := by omega
                have c1 := bl13 HX.out.wa HL.out hj13
                have c2 := bl13 HX.out.no HL.out hj13
                have l1 := HX.out.wa.lt
                have l2 := HX.out.no.lt
                have hjw : IntKind.i64.wrap ((j : Int) + 1) = ((j + 1 : Nat) : Int) := by rw [IntKind.wrap_i64]; omega
                have hne : ((j : Int) != -1) = true := by simp
                generalize G.getD j 0 = vj at *
                clear hj
                go_wp2
                go_quiet (fail)
                go_wp2
                go_roundw
                case rel => exact ⟨j + 1, by omega, rfl, HX.out.drewN _⟩
                case measure => simp [intOf]; omega
              · obtain rfl : j = 13 := by omega
                clear hj hj13
                go_wp2
                go_roundw
                case rel => exact ⟨k + 1, G, by omega, rfl, HX.out.lx, HKD.out⟩
                case measure => simp [intOf]; omega
          · have jn : ((ee : Int) != 0) = true := HJN.out
            clear HJN
            go_wp2_with (go_at_call 13; refine (hno _ _).mono ?_; rintro e w' ⟨rfl, rfl⟩)
            generalize wr = wz at *
            clear ob0 ac0
            go_loopw [13] (fun s13 wq => ∃ j : Nat, j ≤ 13 ∧ s13 = .int .i64 j ∧ EX W wq W.heap.size oB A D B o G G aZ) (fun s13 _ => 13 - (intOf s13).toNat)
            case atStart => exact ⟨0, by omega, rfl, HX10.out⟩
            case round =>
              obtain ⟨j, hj, rfl, hX⟩ := hrel
              have HX : Hid (EX W wr W.heap.size oB A D B o G G aZ) := hX
              clear hX HX10
              by_cases hj13 : j < 13
              · have hji : (j : Int) < 13 := by omega
                have c1 := bl13 HX.out.wa HL.out hj13
                have c2 := bl13 HX.out.no HL.out hj13
                have l1 := HX.out.wa.lt
                have l2 := HX.out.no.lt
                have hjw : IntKind.i64.wrap ((j : Int) + 1) = ((j + 1 : Nat) : Int) := by rw [IntKind.wrap_i64]; omega
                have hne : ((j : Int) != -1) = true := by simp
                generalize G.getD j 0 = vj at *
                clear hj
                go_wp2
                go_quiet (fail)
                go_wp2
                go_roundw
                case rel => exact ⟨j + 1, by omega, rfl, HX.out.drewN _⟩
                case measure => simp [intOf]; omega
              · obtain rfl : j = 13 := by omega
                clear hj hj13
                go_wp2
                go_roundw
                case rel => exact ⟨k + 1, G, by omega, rfl, HX.out.lx, HKD.out⟩
                case measure => simp [intOf]; omega
        · have jn : ((ee : Int) != 0) = false := HJN.out
          clear HJN
          go_wp2_with (go_at_call 13; refine (hno _ _).mono ?_; rintro e w' ⟨rfl, rfl⟩)
          generalize wr = wz at *
          clear ob0 ac0
          go_loopw [13] (fun s13 wq => ∃ j : Nat, j ≤ 13 ∧ s13 = .int .i64 j ∧ EX W wq W.heap.size oB A D B o G G a) (fun s13 _ => 13 - (intOf s13).toNat)
          case atStart => exact ⟨0, by omega, rfl, HX10.out⟩
          case round =>
            obtain ⟨j, hj, rfl, hX⟩ := hrel
            have HX : Hid (EX W wr W.heap.size oB A D B o G G a) := hX
            clear hX HX10
            by_cases hj13 : j < 13
            · have hji : (j : Int) < 13 := by omega
              have c1 := bl13 HX.out.wa HL.out hj13
              have c2 := bl13 HX.out.no HL.out hj13
              have l1 := HX.out.wa.lt
              have l2 := HX.out.no.lt
              have hjw : IntKind.i64.wrap ((j : Int) + 1) = ((j + 1 : Nat) : Int) := by rw [IntKind.wrap_i64]; omega
              have hne : ((j : Int) != -1) = true := by simp
              generalize G.getD j 0 = vj at *
              clear hj
              go_wp2
              go_quiet (fail)
              go_wp2
              go_roundw
              case rel => exact ⟨j + 1, by omega, rfl, HX.out.drewN _⟩
              case measure => simp [intOf]; omega
            · obtain rfl : j = 13 := by omega
              clear hj hj13
              go_wp2
              go_roundw
              case rel => exact ⟨k + 1, G, by omega, rfl, HX.out.lx, HKD.out⟩
              case measure => simp [intOf]; omega
        · have jn : ((ee : Int) != 0) = true := HJN.out
          clear HJN
          go_wp2_with (go_at_call 13; refine (hno _ _).mono ?_; rintro e w' ⟨rfl, rfl⟩)
          generalize wr = wz at *
          clear ob0 ac0
          go_loopw [13] (fun s13 wq => ∃ j : Nat, j ≤ 13 ∧ s13 = .int .i64 j ∧ EX W wq W.heap.size oB A D B o G G aZ) (fun s13 _ => 13 - (intOf s13).toNat)
          case atStart => exact ⟨0, by omega, rfl, HX10.out⟩
          case round =>
            obtain ⟨j, hj, rfl, hX⟩ := hrel
            have HX : Hid (EX W wr W.heap.size oB A D B o G G aZ) := hX
            clear hX HX10
            by_cases hj13 : j < 13
            · have hji : (j : Int) < 13 := by omega
              have c1 := bl13 HX.out.wa HL.out hj13
              have c2 := bl13 HX.out.no HL.out hj13
              have l1 := HX.out.wa.lt
              have l2 := HX.out.no.lt
              have hjw : IntKind.i64.wrap ((j : Int) + 1) = ((j + 1 : Nat) : Int) := by rw [IntKind.wrap_i64]; omega
              have hne : ((j : Int) != -1) = true := by simp
              generalize G.getD j 0 = vj at *
              clear hj
              go_wp2
              go_quiet (fail)
              go_wp2
              go_roundw
              case rel => exact ⟨j + 1, by omega, rfl, HX.out.drewN _⟩
              case measure => simp [intOf]; omega
            · obtain rfl : j = 13 := by omega
              clear hj hj13
              go_wp2
              go_roundw
              case rel => exact ⟨k + 1, G, by omega, rfl, HX.out.lx, HKD.out⟩
              case measure => simp [intOf]; omega
        · have jn : ((ee : Int) != 0) = true := HJN.out
          clear HJN
          go_wp2_with (go_at_call 13; refine (hno _ _).mono ?_; rintro e w' ⟨rfl, rfl⟩)
          generalize wr = wz at *
          clear ob0 ac0
          go_loopw [13] (fun s13 wq => ∃ j : Nat, j ≤ 13 ∧ s13 = .int .i64 j ∧ EX W wq W.heap.size oB A D B o G G aZ) (fun s13 _ => 13 - (intOf s13).toNat)
          case atStart => exact ⟨0, by omega, rfl, HX10.out⟩
          case round =>
            obtain ⟨j, hj, rfl, hX⟩ := hrel
            have HX : Hid (EX W wr W.heap.size oB A D B o G G aZ) := hX
            clear hX HX10
            by_cases hj13 : j < 13
            · have hji : (j : Int) < 13 := by omega
              have c1 := bl13 HX.out.wa HL.out hj13
              have c2 := bl13 HX.out.no HL.out hj13
              have l1 := HX.out.wa.lt
              have l2 := HX.out.no.lt
              have hjw : IntKind.i64.wrap ((j : Int) + 1) = ((j + 1 : Nat) : Int) := by rw [IntKind.wrap_i64]; omega
              have hne : ((j : Int) != -1) = true := by simp
              generalize G.getD j 0 = vj at *
              clear hj
              go_wp2
              go_quiet (fail)
              go_wp2
              go_roundw
              case rel => exact ⟨j + 1, by omega, rfl, HX.out.drewN _⟩
              case measure => simp [intOf]; omega
            · obtain rfl : j = 13 := by omega
              clear hj hj13
              go_wp2
              go_roundw
              case rel => exact ⟨k + 1, G, by omega, rfl, HX.out.lx, HKD.out⟩
              case measure => simp [intOf]; omega
    · have hge : ¬ (k : Int) < (m : Int) := by omega
      go_wp2
      go_ret
      exact ⟨rfl, HS.out.bel⟩
end Go.Proofs.YtdinmhjdnnhhjaaDoor
