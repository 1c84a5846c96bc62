import Derived.Test.YtliiblaodhcjhaaApA
import Derived.Test.YtliiblaodhcjhaaApD
import Derived.Test.YtliiblaodhcjhaaDif
import Derived.Test.YtliiblaodhcjhaaEq
import Derived.Test.YtliiblaodhcjhaaClm
namespace Go.Proofs.Ytliiblaodhcjhaa
open Go.RowKit
set_option linter.unusedVariables false

theorem Script.keep {W W' : World} {a : Option Addr} {ops : List Op4} (h : Script W a ops) (hb : Below W.heap.size W W') : Script W' a ops := by
  refine ⟨fun i o ho => ?_, h.rng⟩
  obtain ⟨b, off, h1, h2, q0, q1, q2, q3⟩ := h.lies i o ho
  obtain ⟨hc, _⟩ := bcell hb
  exact ⟨b, off, h1, Nat.lt_of_lt_of_le h2 hb.size, by rw [hc _ _ h2]; exact q0, by rw [hc _ _ h2]; exact q1, by rw [hc _ _ h2]; exact q2, by rw [hc _ _ h2]; exact q3⟩

/-- A map that lies above another one's blocks stays as it is. -/
theorem MapAt.above {W W' : World} {lo p q : Nat} {u v : Value} {L : List (Sp Int)} (h : MapAt W lo q u L) (t : Turn W W' p v) (hp : p < lo) (hv : ∀ g, v.ownBlock = some g → g < lo) : MapAt W' lo q u L := by
  have hlow := h.low
  refine ⟨?_, row_turn h.own t ?_ ?_, h.low, h.good⟩
  · rw [t.block q h.lt (by omega) (fun e => by have := hv q e.symm; omega)]
    exact h.box
  · intro g hg
    have := (h.own.lt g hg).1
    omega
  · intro g hg e
    have h1 := (h.own.lt g hg).1
    have h2 := hv g e.symm
    omega

theorem wpl_append_g {P : Program} {ops : Array Oper} {rest : List Oper} {o : Oper} {a : Act} {w : World} {Q : Exit → Act → World → Prop}
    (hw : Region.wanted o (yielded ops a.tmps) = true) (d x : Operand) (dT sT : TypeId) (hop : o.op = Op.call { callee := Callee.builtin Builtin.append, args := #[d, x], argTypes := #[dT, sT] })
    (v u : Value) (hd : a.eval d = v) (hx : a.eval x = u) {v' : Value} {w' : World} (hr : (Builtin.append_ #[dT, sT] o.type #[v, u]).run P w = .ok v' w') (hK : wpList P ops Q rest (a.put o.dst v') w') :
    wpList P ops Q (o :: rest) a w := by
  rw [wpList, if_pos hw]
  left
  unfold Oper.wp
  simp [execOp, hop, resolve, invoke, builtin, hd, hx, hr, Result.andThen]
  exact hK

theorem Hid.mk' {p : Prop} (h : p) : Hid p := h

theorem Ap.drewN {w : World} {t0 t1 t2 t3 t4 : Nat} {la lb lx ly : Option Addr} {gp gq gu gw n r ka kx : Nat} (h : Ap w t0 t1 t2 t3 t4 la lb lx ly gp gq gu gw n r ka kx) (q : Nat) : Ap (w.drewN q) t0 t1 t2 t3 t4 la lb lx ly gp gq gu gw n r ka kx :=
  ⟨h.ord, h.a, h.b, h.x, h.y, ⟨h.p.place, h.p.cell⟩, ⟨h.q.place, h.q.cell⟩, ⟨h.u.place, h.u.cell⟩, ⟨h.v.place, h.v.cell⟩⟩

theorem layC_len {L : List (Sp Int)} (hg : Good 0 none L) {o : Op4} (ha : 0 ≤ o.lo) (hb : o.hi ≤ 18446744073709551615) : (layC L o).length ≤ L.length + 2 := by
  rw [layC]
  split
  · exact setR_len hg ha hb _
  · exact clearR_len hg

theorem whole {L : List (Sp Int)} (hg : Good 0 none L) (x : Int) : setR L 0 18446744073709551615 x = [⟨0, 18446744073709551615, x⟩] := by
  rw [setR, if_pos (by decide)]
  refine (setL_good hg (by decide) (by decide) (by decide) x).uniq (u' := none) (c := 0) ⟨by simp, by simp, by simp, by simp, trivial⟩ (fun k h0 h1 => ?_)
  rw [setL_get hg (by decide) (by decide) (by decide), if_pos ⟨h0, h1⟩, get, if_pos ⟨h0, h1⟩]

set_option maxHeartbeats 8000000 in
set_option maxRecDepth 100000 in
theorem law_apart (W : World) (a1 a2 : Option Addr) (c0 c1 : Nat) (ops more : List Op4) (S0 : Script W a1 ops) (B0 : ops.length ≤ 1048576) (S1 : Script W a2 more) (B1 : more.length ≤ 1048576) :
    Calls Try.prog 7 #[.slice a1 ops.length c0, .slice a2 more.length c1] W fun e W' => e = .returned (.bool true) ∧ Below W.heap.size W W' := by
  have hC := laid_any W a1 c0 ops S0 (by omega)
  have HL : Hid (∀ w, Below W.heap.size W w → Calls Try.prog 17 #[.slice a1 ops.length c0] w fun e W' => e = .returned (.pointer (some ⟨w.heap.size, 0, none⟩)) ∧ (∃ v, MapAt W' w.heap.size w.heap.size v (layL ops) ∧ (layL ops).length ≤ 2 * ops.length) ∧ Below w.heap.size w W') := fun w hw => laid_any w a1 c0 ops (S0.keep hw) (by omega)
  have HS0 : Hid (Script W a1 ops) := S0
  have HS1 : Hid (Script W a2 more) := S1
  clear S0 S1
  generalize hA : layL ops = A at *
  have HA : Hid (layL ops = A) := hA
  clear hA
  generalize hn0 : ops.length = m0 at *
  have HN0 : Hid (ops.length = m0) := hn0
  clear hn0
  generalize hn1 : more.length = m1 at *
  have HN1 : Hid (more.length = m1) := hn1
  clear hn1
  go_enter Try.func7, Try.ntmps7
  go_wp2_with (fail)
  refine hC.mono ?_
  rintro e w1 ⟨rfl, ⟨v, hM, hl⟩, hB1⟩
  have hC2 := HL.out w1 hB1
  clear hC
  go_wp2_with (fail)
  refine hC2.mono ?_
  rintro e w2 ⟨rfl, ⟨vn, hN, _⟩, hb2⟩
  have hM2 := hM.keep hb2
  have hmv : ∀ g, v.ownBlock = some g → g < w1.heap.size := fun g hg => (hM.own.lt g hg).2
  have hmp := hM.lt
  have hB2 := below_go hB1 hb2
  have hgd := hM.good
  clear hC2 hM
  go_wp2_with (fail)
  refine (live_any _).mono ?_
  rintro e w3 ⟨rfl, hb3⟩
  have hM3 := hM2.keep hb3
  have hN3 := hN.keep hb3
  have hB3 := below_go hB2 hb3
  have hs31 := Nat.le_trans hb2.size hb3.size
  clear hM2 hN hB2 hb2 hb3
  have hC := clonem_any w3 _ W.heap.size v A hM3 (by omega)
  go_wp2_with (fail)
  refine hC.mono ?_
  rintro e w4 ⟨pc, rfl, ⟨vc, hCl⟩, hb4⟩
  clear hC
  go_wp2
  go_loopw [8] (fun si wr => ∃ (k : Nat), k ≤ m1 ∧ si = .int .i64 k ∧ Hid (∃ v', MapAt wr w3.heap.size pc v' ((more.take k).foldl layC A) ∧ ((more.take k).foldl layC A).length ≤ 2 * m0 + 2 * k) ∧ Hid (Below w3.heap.size w3 wr)) (fun si _ => m1 - (intOf si).toNat)
  case atStart => exact ⟨0, Nat.zero_le _, rfl, ⟨_, hCl, by simpa using hl⟩, hb4⟩
  case round =>
    obtain ⟨k, hk, rfl, HC, HB⟩ := hrel
    clear hCl hb4
    by_cases hlt : k < m1
    · obtain ⟨o, ho⟩ : ∃ o, more[k]? = some o := ⟨_, List.getElem?_eq_getElem (by rw [HN1.out]; exact hlt)⟩
      obtain ⟨b, off, rfl, hbl, e0, e1, e2, e3⟩ := HS1.out.lies k o ho
      obtain ⟨⟨r1, r2⟩, ⟨r3, r4⟩, ⟨r5, r6⟩, ⟨r7, r8⟩⟩ := HS1.out.rng o (List.mem_of_getElem? ho)
      obtain ⟨hcc, _⟩ := bcell (below_go hB3 HB.out)
      have f0 : wr.cell? ⟨b, off + k * 4, none⟩ = some (.int .i64 o.kind) := by rw [hcc b _ hbl]; exact e0
      have f1 : wr.cell? ⟨b, off + k * 4 + 1, none⟩ = some (.int .u64 o.lo) := by rw [hcc b _ hbl]; exact e1
      have f2 : wr.cell? ⟨b, off + k * 4 + 2, none⟩ = some (.int .u64 o.hi) := by rw [hcc b _ hbl]; exact e2
      have f3 : wr.cell? ⟨b, off + k * 4 + 3, none⟩ = some (.int .i64 o.val) := by rw [hcc b _ hbl]; exact e3
      have HT : Hid ((more.take (k + 1)).foldl layC A = layC ((more.take k).foldl layC A) o) := by
        have hk' : k < more.length := (List.getElem?_eq_some_iff.1 ho).1
        have ho' : more[k] = o := (List.getElem?_eq_some_iff.1 ho).2
        show _ = _
        rw [List.take_succ_eq_append_getElem hk', List.foldl_append, ho']
        rfl
      clear hcc ho
      obtain ⟨v', hMc, hMl⟩ := HC.out
      clear HC
      generalize (more.take k).foldl layC A = M at *
      have hltz : (k : Int) < (m1 : Int) := by omega
      have hk0 : (0 : Int) ≤ (k : Int) := by omega
      have hszL : (M.length + 4) * 24 ≤ 140737488355328 := by omega
      have hl2 := layC_len hMc.good r1 r4
      have hMd : MapAt wr.drew w3.heap.size pc v' M := hMc.drewN 1
      have hBd : Below w3.heap.size w3 wr.drew := HB.out.drew
      have hb0 : Below W.heap.size W w3 := hB3
      by_cases hk1 : o.kind = 1
      · have hk2 : (o.kind == 1) = true := by simp [hk1]
        have HT2 : Hid ((more.take (k + 1)).foldl layC A = setR M o.lo o.hi o.val) := by show _ = _; rw [HT.out, layC, if_pos hk1]
        rw [layC, if_pos hk1] at hl2
        have hC := set_at w3 wr.drew hBd _ _ v' M o.lo o.hi o.val hMd (Nat.le_refl _) hszL r1 r4
        clear hk1 HT
        go_wp2_with (fail)
        go_region_held3 (fun w' => w'.cell? ⟨b, off + k * 4, none⟩ = some (.int .i64 o.kind) ∧ w'.cell? ⟨b, off + k * 4 + 1, none⟩ = some (.int .u64 o.lo) ∧ w'.cell? ⟨b, off + k * 4 + 2, none⟩ = some (.int .u64 o.hi) ∧ w'.cell? ⟨b, off + k * 4 + 3, none⟩ = some (.int .i64 o.val)) (first | go_keep | exact ⟨z0, z1, z2, z3⟩)
          ((go_at_call 11; refine hC.mono ?_; rintro e w5 ⟨rfl, v5, hM5, hB5⟩; have hBW := below_go hb0 hB5; have z0 : w5.cell? ⟨b, off + k * 4, none⟩ = some (.int .i64 o.kind) := (bcell hBW).1 b _ hbl |>.trans e0; have z1 : w5.cell? ⟨b, off + k * 4 + 1, none⟩ = some (.int .u64 o.lo) := (bcell hBW).1 b _ hbl |>.trans e1; have z2 : w5.cell? ⟨b, off + k * 4 + 2, none⟩ = some (.int .u64 o.hi) := (bcell hBW).1 b _ hbl |>.trans e2; have z3 : w5.cell? ⟨b, off + k * 4 + 3, none⟩ = some (.int .i64 o.val) := (bcell hBW).1 b _ hbl |>.trans e3))
        go_wp2
        go_roundw
        case rel => exact ⟨k + 1, by omega, by go_num, ⟨v5, by rw [HT2.out]; exact hM5, by rw [HT2.out]; omega⟩, hB5⟩
        case measure => simp [intOf]; omega
      · have hk2 : (o.kind == 1) = false := by simp [hk1]
        have HT2 : Hid ((more.take (k + 1)).foldl layC A = clearR M o.lo o.hi) := by show _ = _; rw [HT.out, layC, if_neg hk1]
        rw [layC, if_neg hk1] at hl2
        have hC := clear_at w3 wr.drew hBd _ _ v' M o.lo o.hi hMd (Nat.le_refl _) hszL r1 r4
        clear hk1 HT
        go_wp2_with (fail)
        go_region_held3 (fun w' => w'.cell? ⟨b, off + k * 4 + 1, none⟩ = some (.int .u64 o.lo) ∧ w'.cell? ⟨b, off + k * 4 + 2, none⟩ = some (.int .u64 o.hi)) (first | go_keep | exact ⟨z1, z2⟩)
          ((go_at_call 12; refine hC.mono ?_; rintro e w5 ⟨rfl, v5, hM5, hB5⟩; have hBW := below_go hb0 hB5; have z1 : w5.cell? ⟨b, off + k * 4 + 1, none⟩ = some (.int .u64 o.lo) := (bcell hBW).1 b _ hbl |>.trans e1; have z2 : w5.cell? ⟨b, off + k * 4 + 2, none⟩ = some (.int .u64 o.hi) := (bcell hBW).1 b _ hbl |>.trans e2))
        go_wp2
        go_roundw
        case rel => exact ⟨k + 1, by omega, by go_num, ⟨v5, by rw [HT2.out]; exact hM5, by rw [HT2.out]; omega⟩, hB5⟩
        case measure => simp [intOf]; omega
    · obtain rfl : k = m1 := by omega
      have hkz : ¬ ((k : Int) < (k : Int)) := by omega
      have HX : Hid (∃ v', MapAt wr w3.heap.size pc v' (layL (ops ++ more.map clrO)) ∧ (layL (ops ++ more.map clrO)).length ≤ 2 * m0 + 2 * k) := by
        obtain ⟨v', h1, h2⟩ := HC.out
        rw [show more.take k = more by rw [← HN1.out]; exact List.take_length] at h1 h2
        rw [layL_clr, HA.out]
        exact ⟨v', h1, h2⟩
      obtain ⟨v5, hMc, hMl⟩ := HX.out
      have hB5 := HB.out
      clear HX HC HB
      generalize wr = w5 at *
      have hC := equal_any w5 (some ⟨W.heap.size, 0, none⟩) (some ⟨w1.heap.size, 0, none⟩) A A (hM3.keep hB5).pm (hN3.keep hB5).pm (by omega) (by omega) true (by simp)
      go_wp2_with (fail)
      refine hC.mono ?_
      rintro e w6 ⟨rfl, hb6⟩
      have hMc6 := hMc.keep hb6
      have hB6 := below_go hB5 hb6
      clear hC hMc hB5 hb6
      have hps : ∀ (w : World), Sem.run Try.prog (pure (#[] : Array Value)) w = Result.ok #[] w := fun _ => rfl
      have hst : ∀ (a : Addr) (w : World), Sem.run Try.prog (storeCells a []) w = Result.ok () w := fun _ _ => rfl
      have hb6a := below_alloc (Below.refl w6.heap.size w6) (.cells #[] 28)
      have hO0 : Opl (w6.alloc (.cells #[] 28)) w6.heap.size (.slice (some ⟨w6.heap.size, 0, none⟩) 0 0) [] := own_of_row (cur := []) (heap_alloc_new w6 _) (Nat.le_refl _) (Nat.le_refl _) (by decide) rfl rfl
      have hBW6 := below_go hB3 hB6
      obtain ⟨v7, w7, hr7, hO7, hg7⟩ := os_append _ w6.heap.size _ (.slice a1 ops.length c0) [] ops hO0 (src_script HS0.out (below_go hBW6 hb6a) c0) hb6a.size (by rw [HN0.out, List.length_nil]; omega)
      have hb7 : Below w6.heap.size w6 w7 := hb6a.grown hg7 hb6a.size (fun g hg => by cases hg; exact Nat.le_refl _)
      rw [List.nil_append] at hO7
      obtain ⟨va7, vc7, hv7⟩ := slice_form hO7
      subst hv7
      rw [HN0.out] at hr7
      have HO7 : Hid (Opl w7 w6.heap.size (.slice va7 ops.length vc7) ops) := hO7
      clear hO7 hg7 hO0
      rw [HN0.out] at HO7
      go_wp2_with (first | (at_builtin; refine wpl_append_g (by simp [Region.wanted, yielded]) _ _ 22 22 rfl _ _ (by rfl) (by rfl) (hr7 _) ?_) | fail)
      have hBW7 := below_go hBW6 hb7
      have hC := cleared_any W w7 hBW7 a2 c1 more HS1.out (by rw [HN1.out]; omega)
      rw [HN1.out] at hC
      clear hr7 hb6a hps hst
      refine hC.mono ?_
      rintro e w8 ⟨v8, rfl, hO8, hb8⟩
      obtain ⟨v9, w9, hr9, hO9, hg9⟩ := os_append w8 w6.heap.size (.slice va7 m0 vc7) v8 ops (more.map clrO) (by rw [Opl, HN0.out]; have h := row_keep HO7.out hb8; rw [HN0.out] at h; exact h) (by have h := src_of_own (P := Try.prog) Try.underlying22 hO8 (cellsO_one _); exact h) (Nat.le_trans hb7.size hb8.size) (by rw [List.length_map, HN0.out, HN1.out]; omega)
      have hb9 : Below w6.heap.size w6 w9 := (below_go hb7 hb8).grown hg9 (Nat.le_trans hb7.size hb8.size) (fun g hg => (World.ownsRow.lt HO7.out g hg).1)
      obtain ⟨va8, vc8, hv8⟩ := slice_form hO8
      obtain ⟨a9, c9, hv9, hS9⟩ := hO9.script (by
        intro o ho
        rcases List.mem_append.1 ho with h | h
        · exact HS0.out.rng o h
        · obtain ⟨o', h1, h2⟩ := List.mem_map.1 h
          have h3 := HS1.out.rng o' h1
          subst h2
          rw [clrO]
          split
          · exact h3
          · exact ⟨h3.1, h3.2.1, ⟨by show (-9223372036854775808 : Int) ≤ 2; decide, by show (2 : Int) ≤ 9223372036854775807; decide⟩, h3.2.2.2⟩)
      subst hv8 hv9
      have hlen9 : (ops ++ more.map clrO).length ≤ 2097152 := by rw [List.length_append, List.length_map, HN0.out, HN1.out]; omega
      have hC2 := laid_any w9 a9 c9 (ops ++ more.map clrO) hS9 hlen9
      have hMc9 := hMc6.keep hb9
      have hB9 := below_go hB6 hb9
      have hBW9 := below_go hBW6 hb9
      clear hO8 hO9 hg9 hS9 hb9 hb8 hb7 hMc6 hB6 hBW7 hBW6 hlen9
      generalize layL (ops ++ more.map clrO) = C at *
      generalize (ops ++ more.map clrO).length = n9 at *
      generalize (more.map clrO).length = n8 at *
      go_wp2_with (first | (at_builtin; refine wpl_append_g (by simp [Region.wanted, yielded]) _ _ 22 22 rfl _ _ (by rfl) (by rfl) (hr9 _) ?_) | fail)
      refine hC2.mono ?_
      rintro e wa ⟨rfl, ⟨va, hMa, _⟩, hba⟩
      have hMca := hMc9.keep hba
      have hBa := below_go hB9 hba
      have hBWa := below_go hBW9 hba
      clear hC2 hC hr9 hMc9 hB9 hBW9 hba HO7
      have hC := equal_any wa (some ⟨pc, 0, none⟩) (some ⟨w9.heap.size, 0, none⟩) C C hMca.pm hMa.pm (by omega) (by omega) true (by simp)
      go_wp2_with (fail)
      refine hC.mono ?_
      rintro e wb ⟨rfl, hbb⟩
      have hMcb := hMca.keep hbb
      have hBb := below_go hBa hbb
      have hBWb := below_go hBWa hbb
      clear hC hMca hBa hBWa hbb hMa
      have hC := clonem_any wb _ pc v5 C hMcb (by omega)
      go_wp2_with (fail)
      refine hC.mono ?_
      rintro e wc ⟨pd, rfl, ⟨vd, hMd⟩, hbc⟩
      have hMcc := hMcb.keep hbc
      have hBc := below_go hBb hbc
      have hBWc := below_go hBWb hbc
      have hMm := hM3.keep hBc
      have hMn := hN3.keep hBc
      have hsb := hBb.size
      clear hC hMcb hBb hBWb hM3 hN3
      have hC := set_any wc _ W.heap.size v A 0 18446744073709551615 3 hMm (by omega) (by decide) (by decide)
      rw [whole hgd, show errC 0 18446744073709551615 = 0 from rfl] at hC
      go_wp2_with (fail)
      refine hC.mono ?_
      rintro e wd ⟨rfl, vm, hMm2, hT, _⟩
      have hcb := hbc.size
      have hsz3c := hBc.size
      have hMn2 : MapAt wd w1.heap.size w1.heap.size vn A := hMn.above hT hmp hmv
      have hMc2 : MapAt wd w3.heap.size pc v5 C := hMcc.above hT (by omega) (fun g hg => by have := hmv g hg; omega)
      have hMd2 : MapAt wd wb.heap.size pd vd C := hMd.above hT (by omega) (fun g hg => by have := hmv g hg; omega)
      have hBWd : Below W.heap.size W wd := turn_below hBWc hMm (Nat.le_refl _) hT
      clear hC hMm hMn hMcc hMd hT hBWc hBc hbc hcb hsz3c
      go_wp2_with (fail)
      refine (no_any _ _).mono ?_
      rintro e we ⟨rfl, rfl⟩
      have hC := equal_any wd (some ⟨pc, 0, none⟩) (some ⟨pd, 0, none⟩) C C hMc2.pm hMd2.pm (by omega) (by omega) true (by simp)
      go_wp2_with (fail)
      refine hC.mono ?_
      rintro e wf ⟨rfl, hbf⟩
      have hMnf := hMn2.keep hbf
      have hMmf := hMm2.keep hbf
      have hBWf := below_go hBWd hbf
      clear hC hMn2 hMm2 hBWd hbf hMc2 hMd2
      have hC := len_any wf _ _ _ _ hMmf
      go_wp2_with (fail)
      refine hC.mono ?_
      rintro e wf' ⟨rfl, rfl⟩
      simp only [List.length_cons, List.length_nil, Nat.zero_add]
      clear hC hMmf
      have hC := spans_any wf _ w1.heap.size vn A hMnf (by omega)
      go_wp2_with (fail)
      refine hC.mono ?_
      rintro e wA ⟨xa, rfl, hLa, hbA⟩
      have hMnA := hMnf.keep hbA
      clear hC
      have hC := spans_any wA _ w1.heap.size vn A hMnA (by omega)
      obtain ⟨la, ca, rfl⟩ := slice_form hLa
      go_wp2_with (fail)
      refine hC.mono ?_
      rintro e wB ⟨xb, rfl, hLb, hbB⟩
      have hMnB := hMnA.keep hbB
      clear hC hMnA
      obtain ⟨lb, cb, rfl⟩ := slice_form hLb
      have hC := diff_any wB (some ⟨w1.heap.size, 0, none⟩) none A [] hMnB.pm (PM.nil _) (by simp only [List.length_nil]; omega)
      go_wp2_with (fail)
      refine hC.mono ?_
      rintro e wX ⟨xx, rfl, ⟨R, hLx, hRi, hRl⟩, hbX⟩
      have hMnX := hMnB.keep hbX
      clear hC hMnB
      obtain ⟨lx, cx, rfl⟩ := slice_form hLx
      have hC := diff_any wX (some ⟨w1.heap.size, 0, none⟩) none A [] hMnX.pm (PM.nil _) (by simp only [List.length_nil]; omega)
      go_wp2_with (fail)
      refine hC.mono ?_
      rintro e wY ⟨xy, rfl, ⟨R', hLy, hRi', _⟩, hbY⟩
      obtain rfl : R' = R := hRi'.uniq hRi
      obtain ⟨ly, cy, rfl⟩ := slice_form hLy
      clear hC hMnX hRi hRi'
      have hYA := below_go hbB (below_go hbX hbY)
      obtain ⟨gp, cp, w5, hr5, g5, p5, l5, c5, _, b5⟩ := ap_spans wY wf.heap.size (.slice la A.length ca) A 71 72 (row_keep hLa hYA) (by have := hbA.size; have := hYA.size; omega) (by omega)
      have hqb : ∀ g, (Value.slice lb A.length cb).ownBlock = some g → some g ≠ (Value.slice la A.length ca).ownBlock := fun g hg e => by
        have h1 := (hLb.lt g hg).1
        have h2 := (hLa.lt g e.symm).2
        omega
      have hqx : ∀ g, (Value.slice lx R'.length cx).ownBlock = some g → some g ≠ (Value.slice la A.length ca).ownBlock ∧ some g ≠ (Value.slice lb A.length cb).ownBlock := fun g hg => by
        have h1 := (World.ownsRow.lt hLx g hg).1
        have h0 := hbB.size
        exact ⟨fun e => by have h2 := (hLa.lt g e.symm).2; omega, fun e => by have h2 := (hLb.lt g e.symm).2; omega⟩
      have hqy : ∀ g, (Value.slice ly R'.length cy).ownBlock = some g → some g ≠ (Value.slice la A.length ca).ownBlock ∧ some g ≠ (Value.slice lb A.length cb).ownBlock ∧ some g ≠ (Value.slice lx R'.length cx).ownBlock := fun g hg => by
        have h1 := (World.ownsRow.lt hLy g hg).1
        have h0 := hbB.size
        have h9 := hbX.size
        exact ⟨fun e => by have h2 := (hLa.lt g e.symm).2; omega, fun e => by have h2 := (hLb.lt g e.symm).2; omega, fun e => by have h2 := (World.ownsRow.lt hLx g e.symm).2; omega⟩
      obtain ⟨gq, cq, w6, hr6, g6, p6, l6, _, c6, b6⟩ := ap_spans w5 wA.heap.size (.slice lb A.length cb) A 73 74 (own_grown (row_keep hLb (below_go hbX hbY)) g5 hqb) (by have := hbB.size; have := hbX.size; have := hbY.size; have := g5.size; omega) (by omega)
      obtain ⟨gu, cu, w7, hr7, g7, p7, l7, c7, b7⟩ := ap_rooms w6 wB.heap.size (.slice lx R'.length cx) R' 75 (own_grown (own_grown (row_keep hLx hbY) g5 (fun g hg => (hqx g hg).1)) g6 (fun g hg => (hqx g hg).2)) (by have := hbX.size; have := hbY.size; have := g5.size; have := g6.size; omega) (by omega)
      obtain ⟨gw, cw, w8, hr8, g8, p8, l8, c8, b8⟩ := ap_rooms w7 wX.heap.size (.slice ly R'.length cy) R' 76 (own_grown (own_grown (own_grown hLy g5 (fun g hg => (hqy g hg).1)) g6 (fun g hg => (hqy g hg).2.1)) g7 (fun g hg => (hqy g hg).2.2)) (by have := hbY.size; have := g5.size; have := g6.size; have := g7.size; omega) (by omega)
      have HAP : Hid (Ap w8 wf.heap.size wA.heap.size wB.heap.size wX.heap.size wY.heap.size la lb lx ly gp gq gu gw A.length R'.length 0 0) := ap_make hLa hLb hLx hLy hbA.size hbB.size hbX.size hbY.size g5 p5 l5 c5 b5 g6 p6 l6 c6 b6 g7 p7 l7 c7 b7 g8 p8 l8 c8 b8
      have HB8 : Hid (Below wf.heap.size wf w8) := by
        have q1 := below_go (below_go (below_go hbA hbB) hbX) hbY
        have q2 := q1.grown g5 q1.size (fun g hg => (hLa.lt g hg).1)
        have q3 := q2.grown g6 q2.size (fun g hg => by have := (hLb.lt g hg).1; have := hbA.size; omega)
        have q4 := q3.grown g7 q3.size (fun g hg => by have := (World.ownsRow.lt hLx g hg).1; have := hbA.size; have := hbB.size; omega)
        exact q4.grown g8 q4.size (fun g hg => by have := (World.ownsRow.lt hLy g hg).1; have := hbA.size; have := hbB.size; have := hbX.size; omega)
      clear hLa hLb hLx hLy hbA hbB hbX hbY hYA hqb hqx hqy g5 p5 l5 c5 b5 g6 p6 l6 c6 b6 g7 p7 l7 c7 b7 g8 p8 l8 c8 b8
      generalize hnA : A.length = n at *
      have HNA : Hid (A.length = n) := hnA
      clear hnA
      generalize hrR : R'.length = r at *
      clear hrR
      go_wp2_with (first | (at_builtin; refine Lib.wpList_append_run _ rfl _ _ 32 32 rfl _ _ (by rfl) (by rfl) _ _ (hr5 _) ?_; clear hr5) | (at_builtin; refine Lib.wpList_append_run _ rfl _ _ 32 32 rfl _ _ (by rfl) (by rfl) _ _ (hr6 _) ?_; clear hr6) | (at_builtin; refine Lib.wpList_append_run _ rfl _ _ 54 54 rfl _ _ (by rfl) (by rfl) _ _ (hr7 _) ?_; clear hr7) | (at_builtin; refine Lib.wpList_append_run _ rfl _ _ 54 54 rfl _ _ (by rfl) (by rfl) _ _ (hr8 _) ?_; clear hr8) | fail)
      go_loopw [18] (fun si wr => ∃ (k : Nat), k ≤ n ∧ si = .int .i64 k ∧ Hid (Ap wr wf.heap.size wA.heap.size wB.heap.size wX.heap.size wY.heap.size la lb lx ly gp gq gu gw n r k 0) ∧ Hid (Below wf.heap.size wf wr)) (fun si _ => n - (intOf si).toNat)
      case atStart => exact ⟨0, Nat.zero_le _, rfl, HAP, HB8⟩
      case round =>
        obtain ⟨j, hj, rfl, HP, HB⟩ := hrel
        clear HAP HB8
        by_cases hjn : j < n
        · obtain ⟨ga, hla, a1', a2', a3', _⟩ := HP.out.a j hjn
          obtain ⟨gb, hlb, d1, d2, d3, _⟩ := HP.out.b j hjn
          obtain ⟨x0, y0⟩ := Option.isSome_iff_exists.1 (a3'.cell (o := j * 3) (by omega))
          obtain ⟨x1, y1⟩ := Option.isSome_iff_exists.1 (a3'.cell (o := j * 3 + 1) (by omega))
          obtain ⟨x2, y2⟩ := Option.isSome_iff_exists.1 (a3'.cell (o := j * 3 + 2) (by omega))
          obtain ⟨x3, y3⟩ := Option.isSome_iff_exists.1 (d3.cell (o := j * 3) (by omega))
          obtain ⟨x4, y4⟩ := Option.isSome_iff_exists.1 (d3.cell (o := j * 3 + 1) (by omega))
          obtain ⟨x5, y5⟩ := Option.isSome_iff_exists.1 (d3.cell (o := j * 3 + 2) (by omega))
          have ff1 := a3'.frozen
          have ff2 := d3.frozen
          have hab : ga ≠ gb := by omega
          have hba : gb ≠ ga := by omega
          have HR := Hid.mk' (HP.out.roundA hla hlb hjn)
          have HB6 := Hid.mk' ((((((HB.out.setCell (p := ⟨ga, j * 3, none⟩) a1' (.int .u64 0)).setCell (p := ⟨ga, j * 3 + 1, none⟩) a1' (.int .u64 0)).setCell (p := ⟨ga, j * 3 + 2, none⟩) a1' (.int .i64 77)).setCell (p := ⟨gb, j * 3, none⟩) (by show wf.heap.size ≤ gb; omega) (.int .u64 0)).setCell (p := ⟨gb, j * 3 + 1, none⟩) (by show wf.heap.size ≤ gb; omega) (.int .u64 0)).setCell (p := ⟨gb, j * 3 + 2, none⟩) (by show wf.heap.size ≤ gb; omega) (.int .i64 78))
          subst hla hlb
          have hjz : (j : Int) < (n : Int) := by omega
          have hj0 : (0 : Int) ≤ (j : Int) := by omega
          clear HP HB a1' a2' a3' d1 d2 d3
          go_wp2
          go_roundw
          case rel => exact ⟨j + 1, by omega, by go_num, HR, HB6⟩
          case measure => simp [intOf]; omega
        · obtain rfl : n = j := by omega
          have hjz : ¬ ((n : Int) < (n : Int)) := by omega
          clear hjn
          generalize wr = wz at *
          go_wp2
          go_loopw [19] (fun si wr => ∃ (k : Nat), k ≤ r ∧ si = .int .i64 k ∧ Hid (Ap wr wf.heap.size wA.heap.size wB.heap.size wX.heap.size wY.heap.size la lb lx ly gp gq gu gw n r n k) ∧ Hid (Below wf.heap.size wf wr)) (fun si _ => r - (intOf si).toNat)
          case atStart => exact ⟨0, Nat.zero_le _, rfl, HP, HB⟩
          case round =>
            obtain ⟨j, hj, rfl, HP, HB⟩ := hrel
            by_cases hjn : j < r
            · obtain ⟨ga, hla, a1', a2', a3', _⟩ := HP.out.x j hjn
              obtain ⟨gb, hlb, d1, d2, d3, _⟩ := HP.out.y j hjn
              have hord := HP.out.ord
              obtain ⟨x0, y0⟩ := Option.isSome_iff_exists.1 (a3'.cell (o := j * 2) (by omega))
              obtain ⟨x1, y1⟩ := Option.isSome_iff_exists.1 (a3'.cell (o := j * 2 + 1) (by omega))
              obtain ⟨x3, y3⟩ := Option.isSome_iff_exists.1 (d3.cell (o := j * 2) (by omega))
              obtain ⟨x4, y4⟩ := Option.isSome_iff_exists.1 (d3.cell (o := j * 2 + 1) (by omega))
              have ff1 := a3'.frozen
              have ff2 := d3.frozen
              have hab : ga ≠ gb := by omega
              have hba : gb ≠ ga := by omega
              have HR := Hid.mk' (HP.out.roundX hla hlb hjn)
              have HB6 := Hid.mk' ((((HB.out.setCell (p := ⟨ga, j * 2, none⟩) (by show wf.heap.size ≤ ga; omega) (.int .u64 79)).setCell (p := ⟨ga, j * 2 + 1, none⟩) (by show wf.heap.size ≤ ga; omega) (.int .u64 0)).setCell (p := ⟨gb, j * 2, none⟩) (by show wf.heap.size ≤ gb; omega) (.int .u64 80)).setCell (p := ⟨gb, j * 2 + 1, none⟩) (by show wf.heap.size ≤ gb; omega) (.int .u64 0))
              subst hla hlb
              have hjz' : (j : Int) < (r : Int) := by omega
              have hj0 : (0 : Int) ≤ (j : Int) := by omega
              clear HP HB a1' a2' a3' d1 d2 d3 hord
              go_wp2
              go_roundw
              case rel => exact ⟨j + 1, by omega, by go_num, HR, HB6⟩
              case measure => simp [intOf]; omega
            · obtain rfl : r = j := by omega
              have hjz2 : ¬ ((r : Int) < (r : Int)) := by omega
              clear hjn
              generalize wr = wy at *
              go_wp2
              go_loopw [20] (fun si wr => ∃ (k : Nat), k ≤ n ∧ si = .int .i64 k ∧ Hid (Ap wr wf.heap.size wA.heap.size wB.heap.size wX.heap.size wY.heap.size la lb lx ly gp gq gu gw n r n r) ∧ Hid (Below wf.heap.size wf wr)) (fun si _ => n - (intOf si).toNat)
              case atStart => exact ⟨0, Nat.zero_le _, rfl, HP, HB⟩
              case round =>
                obtain ⟨j, hj, rfl, HP, HB⟩ := hrel
                by_cases hjn : j < n
                · obtain ⟨ga, rfl, _, _, _, y0⟩ := HP.out.a j hjn
                  obtain ⟨gb, rfl, _, _, _, y1⟩ := HP.out.b j hjn
                  have y0 := y0 hjn
                  have y1 := y1 hjn
                  have hjz' : (j : Int) < (n : Int) := by omega
                  have hj0 : (0 : Int) ≤ (j : Int) := by omega
                  go_wp2
                  go_roundw
                  case rel => exact ⟨j + 1, by omega, by go_num, HP, HB⟩
                  case measure => simp [intOf]; omega
                · obtain rfl : n = j := by omega
                  clear hjn
                  generalize wr = wx at *
                  go_wp2
                  go_loopw [21] (fun si wr => ∃ (k : Nat), k ≤ r ∧ si = .int .i64 k ∧ Hid (Ap wr wf.heap.size wA.heap.size wB.heap.size wX.heap.size wY.heap.size la lb lx ly gp gq gu gw n r n r) ∧ Hid (Below wf.heap.size wf wr)) (fun si _ => r - (intOf si).toNat)
                  case atStart => exact ⟨0, Nat.zero_le _, rfl, HP, HB⟩
                  case round =>
                    obtain ⟨j, hj, rfl, HP, HB⟩ := hrel
                    by_cases hjn : j < r
                    · obtain ⟨ga, rfl, _, _, _, y0⟩ := HP.out.x j hjn
                      obtain ⟨gb, rfl, _, _, _, y1⟩ := HP.out.y j hjn
                      have y0 := y0 hjn
                      have y1 := y1 hjn
                      simp only [Nat.add_zero] at y0 y1
                      have hjz' : (j : Int) < (r : Int) := by omega
                      have hj0 : (0 : Int) ≤ (j : Int) := by omega
                      go_wp2
                      go_roundw
                      case rel => exact ⟨j + 1, by omega, by go_num, HP, HB⟩
                      case measure => simp [intOf]; omega
                    · obtain rfl : r = j := by omega
                      clear hjn
                      have hp := HP.out.p.cell
                      have hq := HP.out.q.cell
                      have hu := HP.out.u.cell
                      have hw := HP.out.v.cell
                      have hn1 : (n : Int) < (n : Int) + 2 := by omega
                      have hn2 : (n : Int) + 1 < (n : Int) + 2 := by omega
                      have hn3 : (0 : Int) ≤ (n : Int) := by omega
                      have hr1 : (r : Int) < (r : Int) + 1 := by omega
                      have hr3 : (0 : Int) ≤ (r : Int) := by omega
                      have hnb : n ≤ 2097152 := by omega
                      have hBz := HB.out
                      clear HP HB
                      have hBW := below_go hBWf hBz
                      have hC := HL.out wr hBW
                      go_wp2_with (fail)
                      refine hC.mono ?_
                      rintro e wl ⟨rfl, ⟨vl, hMl', _⟩, hbl⟩
                      have hC2 := equal_any wl (some ⟨w1.heap.size, 0, none⟩) (some ⟨wr.heap.size, 0, none⟩) A A ((hMnf.keep hBz).keep hbl).pm hMl'.pm (by rw [HNA.out]; omega) (by rw [HNA.out]; omega) true (by simp)
                      have hBl := below_go hBW hbl
                      clear hC hBW hbl hMl'
                      go_wp2_with (fail)
                      refine hC2.mono ?_
                      rintro e wm ⟨rfl, hbm⟩
                      have hBm := below_go hBl hbm
                      clear hC2 hBl hbm
                      go_wp2
                      go_ret
                      exact ⟨rfl, hBm⟩
end Go.Proofs.Ytliiblaodhcjhaa
