import Derived.Test.YtplobjdghaokoaaFd
namespace Go.Proofs.Ytplobjdghaokoaa
open Go.RowKit
set_option linter.unusedVariables false

theorem own_add {w w' : World} {b0 : Nat} {es : List Ent} (h : Own w b0 es) (X : Turn (fun _ => False) w w') {t : TypeId} {sz n : Nat} {v : Value} {xs : List Value} (ho : w'.ownsRow w.heap.size t sz v n xs) (hb : b0 ≤ w.heap.size) : ∃ e : Ent, Own w' b0 (es ++ [e]) ∧ e.v = v ∧ e.t = t ∧ e.sz = sz ∧ e.n = n ∧ e.xs = xs :=
  ⟨_, h.add X ho hb, rfl, rfl, rfl, rfl, rfl⟩
theorem wpList_append_eq {P : Program} {w : World} {ops : Array Oper} {rest : List Oper} {o : Oper} {a : Act} {Q : Exit → Act → World → Prop} (hgd : o.guard = none) (s x : Operand) (t : TypeId)
    (ho : o.op = .call { callee := .builtin .append, args := #[s, x], argTypes := #[t, t] }) (v u : Value) (hs : a.eval s = v) (hx : a.eval x = u) {v' : Value} {w' : World} (hr : (Builtin.append_ #[t, t] o.type #[v, u]).run P w = .ok v' w')
    (h : wpList P ops Q rest (a.put o.dst v') w') : wpList P ops Q (o :: rest) a w :=
  wpList_plain hgd fun _ hK => by
    unfold Oper.wp execOp
    simp only [ho, resolve, invoke, builtin, Sem.run_bind, Sem.run_pure, Result.andThen_ok, List.map_toArray, List.map_cons, List.map_nil, hs, hx, hr]
    exact hK _ _ h
def kf (ja jx : Nat) : Nat → Nat := fun i => if i = 0 ∨ i = 1 then ja else if i = 3 ∨ i = 4 then jx else 0
theorem kf_up0 (j x : Nat) : ∀ i, kf (j + 1) x i ≤ up (up (kf j x) 0 (j + 1)) 1 (j + 1) i := fun i => by
  by_cases h1 : i = 1
  · subst h1; simp [kf, up]
  · by_cases h0 : i = 0
    · subst h0; simp [kf, up]
    · simp [kf, up, h1, h0]
theorem kf_up1 (j x : Nat) : ∀ i, kf j (x + 1) i ≤ up (up (kf j x) 3 (x + 1)) 4 (x + 1) i := fun i => by
  by_cases h1 : i = 4
  · subst h1; simp [kf, up]
  · by_cases h0 : i = 3
    · subst h0; simp [kf, up]
    · simp [kf, up, h1, h0]

set_option maxHeartbeats 64000000 in
set_option maxRecDepth 100000 in
theorem law_fresh (W : World) (first count : Int) (a : Option Addr) (cap : Nat) (ops : List Op4) (hs : Scr W a ops) (hl : ops.length ≤ 140737488355328) :
    Calls Try.prog 7 #[.int .i64 first, .int .i64 count, .slice a ops.length cap] W fun e W' => e = .returned (.bool true) ∧ Below W.heap.size W W' := by
  have hpr := pressed_any W first count
  obtain ⟨f1, f2⟩ := pf_lt first
  obtain ⟨c1, c2, c3⟩ := pc_lt count
  have HS : Hid (Scr W a ops) := hs
  clear hs f2 c3
  generalize pf first = f0 at *
  generalize pc count = n at *
  generalize hn : ops.length = m at *
  have HN : Hid (ops.length = m) := hn
  clear hn
  go_enter Try.func7, Try.ntmps7
  go_wp2_with (first
    | (go_at_call 9; refine hpr.mono ?_; clear hpr; rintro e w1 ⟨rfl, hp1, ht1, hz1⟩;
       have hlv := live_any w1;
       have HP1 : Hid (PP w1 (W.heap.size + 1) W.heap.size f0 (List.replicate n 0) ∧ Turn (fun _ => False) W w1) := ⟨hp1, ht1⟩; clear hp1 ht1 hz1)
    | (go_at_call 10; refine hlv.mono ?_; clear hlv; rintro e w2 ⟨rfl, ht2⟩; have HP2 : Hid (PP w2 (W.heap.size + 1) W.heap.size f0 (List.replicate n 0) ∧ Turn (fun _ => False) W w2) := ⟨HP1.out.1.keep ht2 (fun h => h) (fun h => h), HP1.out.2.trans ht2 (fun _ h => h.elim)⟩; have hn1 := newSlab_any w2 (W.heap.size + 1); clear ht2 HP1)
    | (go_at_call 23; refine hn1.mono ?_; clear hn1; rintro e w3 ⟨rfl, hs3, ht3, hz3⟩; have HP3 : Hid (PS w3 (· = w2.heap.size) w2.heap.size (W.heap.size + 1) [] ∧ Turn (fun _ => False) w2 w3 ∧ w3.heap.size = w2.heap.size + 1) := ⟨hs3, ht3, hz3⟩; clear hs3 ht3 hz3)
    | (go_at_call 15; refine (no_any _ _).mono ?_; rintro e w' ⟨rfl, rfl⟩)
    | go_in)
  have HX0 : Hid (FX W w3 (W.heap.size + 1) W.heap.size f0 w2.heap.size n (· = w2.heap.size) (List.replicate n 0) []) := by
    have hz := HP2.out.2.size
    have hl := HP2.out.1.lt
    refine ⟨HP2.out.2.trans HP3.out.2.1 (fun _ h => h.elim), HP2.out.1.keep HP3.out.2.1 (fun h => h) (fun h => h), HP3.out.1, ⟨by omega, by omega⟩, fun b hb => by rw [hb]; exact hz, fun b hb => ⟨by omega, by omega⟩, fun c hc => absurd hc (by simp), List.length_replicate⟩
  clear HP2 HP3
  generalize W.heap.size + 1 = p at *
  generalize w2.heap.size = s at *
  generalize hub : W.heap.size = ub at *
  have HUB : Hid (W.heap.size = ub) := hub
  clear hub
  go_loopw [12] (fun s12 wr => ∃ (k : Nat) (S : Nat → Prop) (u : List Nat) (cs : List Cut), k ≤ m ∧ s12 = .int .i64 k ∧ Hid (FX W wr p ub f0 s n S u cs)) (fun s12 _ => m - (intOf s12).toNat)
  case atStart => exact ⟨0, _, _, _, Nat.zero_le _, rfl, HX0⟩
  case round =>
    obtain ⟨k, S, u, cs, hk, rfl, HX⟩ := hrel
    clear HX0
    by_cases hlt : k < m
    · obtain ⟨o, ho⟩ : ∃ o, ops[k]? = some o := ⟨_, List.getElem?_eq_getElem (by rw [HN.out]; omega)⟩
      obtain ⟨b, off, rfl, hbl, e0, e1, e2, e3, e4⟩ := HS.out.lies k o ho
      have T := HX.out.trn
      rw [← T.cell hbl (fun h => h)] at e0 e1 e2 e3 e4
      have hiz : (k : Int) < (m : Int) := by omega
      have hok := HS.out.oks o (List.mem_of_getElem? ho)
      clear T ho
      by_cases h6 : o.kind = 6
      · have htk := fx_take HX.out
        rw [h6] at e0
        go_wp2_with (first
          | (go_at_call 28; refine htk.mono ?_; clear htk; rintro e w3 ⟨r0, r1, rfl, S2, u2, cs2, hX2⟩; have HX2 : Hid (FX W w3 p ub f0 s n S2 u2 cs2) := hX2; clear hX2)
          | go_in)
        go_roundw
        case rel => exact ⟨k + 1, _, _, _, by omega, by go_num, HX2⟩
        case measure => simp [intOf]; omega
      · by_cases h3 : o.kind = 3
        · rw [h3] at e0
          go_wp2
          go_roundw
          case rel => exact ⟨k + 1, _, _, _, by omega, by go_num, HX⟩
          case measure => simp [intOf]; omega
        · have hpo := fx_pool HX.out o hok h3
          unfold Op4.val at hpo
          go_wp2_with (first
            | (go_at_call 11; refine hpo.mono ?_; clear hpo; rintro e w3 ⟨r0, r1, rfl, u2, hX2⟩; have HX2 : Hid (FX W w3 p ub f0 s n S u2 cs) := hX2; clear hX2)
            | go_in)
          go_roundw
          case rel => exact ⟨k + 1, _, _, _, by omega, by go_num, HX2⟩
          case measure => simp [intOf]; omega
    · -- LISTS
      have HB0 : Hid (p < wr.heap.size ∧ ub < wr.heap.size ∧ (∀ b, S b → b < wr.heap.size) ∧ W.heap.size ≤ wr.heap.size) := ⟨HX.out.pp.lt.1, HX.out.pp.lt.2, HX.out.ps.lowb, HX.out.trn.size⟩
      have hruA : ∀ w : World, PP w p ub f0 u → Calls Try.prog 17 #[.pointer (some ⟨p, 0, none⟩)] w fun e W' => ∃ v, e = .returned v ∧ W'.ownsRow w.heap.size 42 2 v (runs f0 u).length ((runs f0 u).flatMap encR) ∧ Turn (fun _ => False) w W' := fun w h => runs_any w p ub f0 u h
      have htbA : ∀ w : World, PS w S s p cs → Calls Try.prog 26 #[.pointer (some ⟨s, 0, none⟩)] w fun e W' => ∃ v, e = .returned v ∧ W'.ownsRow w.heap.size 3 1 v (tabsL cs).length (encI (tabsL cs)) ∧ Turn (fun _ => False) w W' := fun w h => tables_any w S s p cs h
      have hfrA : ∀ w : World, PS w S s p cs → Calls Try.prog 27 #[.pointer (some ⟨s, 0, none⟩)] w fun e W' => ∃ v, e = .returned v ∧ W'.ownsRow w.heap.size 3 1 v (framesL cs).length (encI (framesL cs)) ∧ Turn (fun _ => False) w W' := fun w h => framesS_any w S s p cs h
      have hR1 : (runs f0 u).length ≤ 200 := by have := runsTo_len f0 u u.length; unfold runs; have := HX.out.len; omega
      have hT1 := tabs_le HX.out.ps
      have hF1 : (framesL cs).length ≤ 268435456 := by rw [framesL_len]; exact HX.out.ps.len
      have HFIT : Hid (∀ (w : World) (x y : Option Addr) (cx cy : Nat), IAt w x (framesL cs) → IAt w y (tabsL cs) → Calls Try.prog 29 #[.slice x (framesL cs).length cx, .slice y (tabsL cs).length cy] w fun e W' => e = .returned (.bool true) ∧ ∃ q, W' = w.drewN q) := fun w x y cx cy h1 h2 => fitted_any w x y cx cy cs h1 h2 HX.out.ps.srt HX.out.ps.2 HX.out.ps.fb
      generalize runs f0 u = rs at *
      generalize tabsL cs = T at *
      generalize framesL cs = F at *
      generalize hRn : rs.length = R at *
      have HRn : Hid (rs.length = R) := hRn
      generalize hTn : T.length = TL at *
      have HTn : Hid (T.length = TL) := hTn
      generalize hFn : F.length = FL at *
      have HFn : Hid (F.length = FL) := hFn
      clear hRn hTn hFn
      have HRA : Hid (∀ w : World, PP w p ub f0 u → Calls Try.prog 17 #[.pointer (some ⟨p, 0, none⟩)] w fun e W' => ∃ v, e = .returned v ∧ W'.ownsRow w.heap.size 42 2 v R (rs.flatMap encR) ∧ Turn (fun _ => False) w W') := hruA
      have HTA : Hid (∀ w : World, PS w S s p cs → Calls Try.prog 26 #[.pointer (some ⟨s, 0, none⟩)] w fun e W' => ∃ v, e = .returned v ∧ W'.ownsRow w.heap.size 3 1 v TL (encI T) ∧ Turn (fun _ => False) w W') := htbA
      have HFA : Hid (∀ w : World, PS w S s p cs → Calls Try.prog 27 #[.pointer (some ⟨s, 0, none⟩)] w fun e W' => ∃ v, e = .returned v ∧ W'.ownsRow w.heap.size 3 1 v FL (encI F) ∧ Turn (fun _ => False) w W') := hfrA
      clear hruA htbA hfrA
      have hru := HRA.out wr HX.out.pp
      go_wp2_with (first
        | (go_at_call 17; refine hru.mono ?_; clear hru; rintro e w1 ⟨va, rfl, ho1, ht1⟩; obtain ⟨aa, ca, rfl⟩ := slice_form ho1;
           have HX1 : Hid (FX W w1 p ub f0 s n S u cs) := HX.out.keep ht1;
           obtain ⟨ea, hO1, hEA⟩ := own_add (own_nil wr wr.heap.size) ht1 ho1 (Nat.le_refl _);
           have HEA : Hid (Is ea (.slice aa R ca) 42 2 R (rs.flatMap encR)) := hEA;
           have HO1 : Hid (Own w1 wr.heap.size [ea] ∧ w1.ownsRow wr.heap.size 42 2 (.slice aa R ca) R (rs.flatMap encR) ∧ wr.heap.size ≤ w1.heap.size) := ⟨hO1, ho1, ht1.size⟩;
           have hru2 := HRA.out w1 HX1.out.pp; clear ho1 ht1 hO1 hEA HX)
        | (go_at_call 17; refine hru2.mono ?_; clear hru2; rintro e w2 ⟨vb, rfl, ho2, ht2⟩; obtain ⟨ab, cb, rfl⟩ := slice_form ho2;
           obtain ⟨eb, hO2, hEB⟩ := own_add HO1.out.1 ht2 ho2 HO1.out.2.2;
           have HEB : Hid (Is eb (.slice ab R cb) 42 2 R (rs.flatMap encR)) := hEB;
           obtain ⟨vw, w3, hr3, ho3, ht3⟩ := copy_list infoR rfl Try.underlying39 (by omega) (own_turn HO1.out.2.1 ht2 (fun _ _ h => h)) (encR_one rs) (by omega);
           obtain ⟨aw, cw, rfl⟩ := slice_form ho3;
           obtain ⟨ew, hO3, hEW⟩ := own_add hO2 ht3 ho3 (Nat.le_trans HO1.out.2.2 ht2.size);
           have HEW : Hid (Is ew (.slice aw R cw) 42 2 R (rs.flatMap encR)) := hEW;
           have HX3 : Hid (FX W w3 p ub f0 s n S u cs) := (HX1.out.keep ht2).keep ht3;
           have HO3 : Hid (Own w3 wr.heap.size [ea, eb, ew] ∧ wr.heap.size ≤ w3.heap.size) := ⟨hO3, Nat.le_trans HO1.out.2.2 (Nat.le_trans ht2.size ht3.size)⟩;
           have htb := HTA.out w3 HX3.out.ps; clear ho2 ht2 hO2 hEB ho3 ht3 hO3 hEW HX1 HO1)
        | (go_at_call 26; refine htb.mono ?_; clear htb; rintro e w4 ⟨vx, rfl, ho4, ht4⟩; obtain ⟨ax, cx, rfl⟩ := slice_form ho4;
           obtain ⟨ex, hO4, hEX⟩ := own_add HO3.out.1 ht4 ho4 HO3.out.2;
           have HEX : Hid (Is ex (.slice ax TL cx) 3 1 TL (encI T)) := hEX;
           have HX4 : Hid (FX W w4 p ub f0 s n S u cs) := HX3.out.keep ht4;
           have HO4 : Hid (Own w4 wr.heap.size [ea, eb, ew, ex] ∧ wr.heap.size ≤ w4.heap.size) := ⟨hO4, Nat.le_trans HO3.out.2 ht4.size⟩;
           have htb2 := HTA.out w4 HX4.out.ps; clear ho4 ht4 hO4 hEX HX3 HO3)
        | (go_at_call 26; refine htb2.mono ?_; clear htb2; rintro e w5 ⟨vy, rfl, ho5, ht5⟩; obtain ⟨ay, cy, rfl⟩ := slice_form ho5;
           obtain ⟨ey, hO5, hEY⟩ := own_add HO4.out.1 ht5 ho5 HO4.out.2;
           have HEY : Hid (Is ey (.slice ay TL cy) 3 1 TL (encI T)) := hEY;
           have HX5 : Hid (FX W w5 p ub f0 s n S u cs) := HX4.out.keep ht5;
           have HO5 : Hid (Own w5 wr.heap.size [ea, eb, ew, ex, ey] ∧ wr.heap.size ≤ w5.heap.size) := ⟨hO5, Nat.le_trans HO4.out.2 ht5.size⟩;
           have hfr := HFA.out w5 HX5.out.ps; clear ho5 ht5 hO5 hEY HX4 HO4)
        | (go_at_call 27; refine hfr.mono ?_; clear hfr; rintro e w6 ⟨vz, rfl, ho6, ht6⟩; obtain ⟨az, cz, rfl⟩ := slice_form ho6;
           obtain ⟨ez, hO6, hEZ⟩ := own_add HO5.out.1 ht6 ho6 HO5.out.2;
           have HEZ : Hid (Is ez (.slice az FL cz) 3 1 FL (encI F)) := hEZ;
           have HX6 : Hid (FX W w6 p ub f0 s n S u cs) := HX5.out.keep ht6;
           obtain ⟨at_, ct, w7, g0, k0, w8, g1, k1, w9, g2, k2, w10, g3, k3, w11, r7, r8, r9, r10, r11, ht11, hFS⟩ := chain hO6 (Nat.le_trans HO5.out.2 ht6.size) ⟨HEA.out.2.1, HEA.out.2.2.1, (by rw [HEA.out.2.2.2.1]; omega)⟩ ⟨HEB.out.2.1, HEB.out.2.2.1, (by rw [HEB.out.2.2.2.1]; omega)⟩ ⟨HEX.out.2.1, HEX.out.2.2.1, (by rw [HEX.out.2.2.2.1]; omega)⟩ ⟨HEY.out.2.1, HEY.out.2.2.1, (by rw [HEY.out.2.2.2.1]; omega)⟩ (by rw [HEX.out.2.2.2.2]; exact encI_one T);
           rw [HEX.out.1, HEX.out.2.2.2.1] at r7; rw [HEA.out.1, HEA.out.2.2.2.1] at r8; rw [HEB.out.1, HEB.out.2.2.2.1] at r9; rw [HEX.out.1, HEX.out.2.2.2.1] at r10; rw [HEY.out.1, HEY.out.2.2.2.1] at r11;
           have HX11 : Hid (FX W w11 p ub f0 s n S u cs) := HX6.out.turn (b0 := wr.heap.size) (fun b _ h => h) ht11 HB0.out.1 HB0.out.2.1 HB0.out.2.2.1 HB0.out.2.2.2;
           have HFS : Hid (FW w11 w11 wr.heap.size w7.heap.size [ea, eb, ew, ex, ey, ez, ⟨.slice at_ ex.n ct, 3, 1, ex.n, ex.xs, w6.heap.size, w7.heap.size⟩] [⟨0, g0, .int .i64 (-1)⟩, ⟨1, g1, .int .i64 (-2)⟩, ⟨3, g2, .int .i64 (-3)⟩, ⟨4, g3, .int .i64 (-4)⟩] (fun _ => 0)) := hFS;
           clear ho6 ht6 hO6 hEZ HX5 HO5 hFS ht11 HX6)
        | (at_builtin; refine wpList_append_eq rfl (.tmp 84) (.tmp 85) 39 rfl _ _ rfl rfl (hr3 _) ?_; clear hr3)
        | (at_builtin; refine wpList_append_eq rfl (.tmp 93) (.tmp 94) 32 rfl _ _ rfl rfl (r7 _) ?_; clear r7)
        | (at_builtin; refine wpList_append_eq rfl (.tmp 96) (.tmp 98) 39 rfl _ _ rfl rfl (r8 _) ?_; clear r8)
        | (at_builtin; refine wpList_append_eq rfl (.tmp 100) (.tmp 102) 39 rfl _ _ rfl rfl (r9 _) ?_; clear r9)
        | (at_builtin; refine wpList_append_eq rfl (.tmp 104) (.tmp 105) 32 rfl _ _ rfl rfl (r10 _) ?_; clear r10)
        | (at_builtin; refine wpList_append_eq rfl (.tmp 107) (.tmp 108) 32 rfl _ _ rfl rfl (r11 _) ?_; clear r11)
        | go_in)
      have HET : Hid (Is (⟨.slice at_ ex.n ct, 3, 1, ex.n, ex.xs, w6.heap.size, w7.heap.size⟩ : Ent) (.slice at_ TL ct) 3 1 TL (encI T)) := ⟨by rw [HEX.out.2.2.2.1], rfl, rfl, HEX.out.2.2.2.1, HEX.out.2.2.2.2⟩
      generalize (⟨.slice at_ ex.n ct, 3, 1, ex.n, ex.xs, w6.heap.size, w7.heap.size⟩ : Ent) = et at *
      obtain ⟨es, hes⟩ : ∃ es, es = [ea, eb, ew, ex, ey, ez, et] := ⟨_, rfl⟩
      obtain ⟨ps, hps⟩ : ∃ ps : List Ap, ps = [⟨0, g0, .int .i64 (-1)⟩, ⟨1, g1, .int .i64 (-2)⟩, ⟨3, g2, .int .i64 (-3)⟩, ⟨4, g3, .int .i64 (-4)⟩] := ⟨_, rfl⟩
      rw [← hes, ← hps] at HFS
      have i0 : Hid (es[0]? = some ea) := (by rw [hes]; rfl : es[0]? = some ea)
      have i1 : Hid (es[1]? = some eb) := (by rw [hes]; rfl : es[1]? = some eb)
      have i2 : Hid (es[2]? = some ew) := (by rw [hes]; rfl : es[2]? = some ew)
      have i3 : Hid (es[3]? = some ex) := (by rw [hes]; rfl : es[3]? = some ex)
      have i4 : Hid (es[4]? = some ey) := (by rw [hes]; rfl : es[4]? = some ey)
      have i5 : Hid (es[5]? = some ez) := (by rw [hes]; rfl : es[5]? = some ez)
      have i6 : Hid (es[6]? = some et) := (by rw [hes]; rfl : es[6]? = some et)
      generalize hb0 : wr.heap.size = b0 at *
      generalize hb1 : w7.heap.size = b1 at *
      have HAP : Hid (∀ (w : World) (kk : Nat → Nat), FW w11 w b0 b1 es ps kk → w.cell? ⟨g0, R * 2, none⟩ = some (.int .i64 (-1)) ∧ w.cell? ⟨g1, R * 2, none⟩ = some (.int .i64 (-2)) ∧ w.cell? ⟨g2, TL, none⟩ = some (.int .i64 (-3)) ∧ w.cell? ⟨g3, TL, none⟩ = some (.int .i64 (-4))) := by
        intro w kk h
        obtain ⟨q0, z0, y0⟩ := h.app ⟨0, g0, .int .i64 (-1)⟩ (by rw [hps]; simp)
        obtain ⟨q1, z1, y1⟩ := h.app ⟨1, g1, .int .i64 (-2)⟩ (by rw [hps]; simp)
        obtain ⟨q2, z2, y2⟩ := h.app ⟨3, g2, .int .i64 (-3)⟩ (by rw [hps]; simp)
        obtain ⟨q3, z3, y3⟩ := h.app ⟨4, g3, .int .i64 (-4)⟩ (by rw [hps]; simp)
        cases z0.symm.trans i0.out
        cases z1.symm.trans i1.out
        cases z2.symm.trans i3.out
        cases z3.symm.trans i4.out
        rw [HEA.out.2.2.1, HEA.out.2.2.2.1] at y0
        rw [HEB.out.2.2.1, HEB.out.2.2.2.1] at y1
        rw [HEX.out.2.2.1, HEX.out.2.2.2.1, Nat.mul_one] at y2
        rw [HEY.out.2.2.1, HEY.out.2.2.2.1, Nat.mul_one] at y3
        exact ⟨y0, y1, y2, y3⟩
      clear hes hps hb0 hb1
      generalize wr = wz at *
      go_loopw [24] (fun s24 wr => ∃ j : Nat, j ≤ R ∧ s24 = .int .i64 j ∧ Hid (FW w11 wr b0 b1 es ps (kf j 0))) (fun s24 _ => R - (intOf s24).toNat)
      case atStart => exact ⟨0, Nat.zero_le _, rfl, HFS.out.le (fun i => by unfold kf; split; exact Nat.le_refl _; split; exact Nat.le_refl _; exact Nat.le_refl _)⟩
      case round =>
        obtain ⟨j, hj, rfl, HF⟩ := hrel
        clear HFS
        by_cases hjR : j < R
        · obtain ⟨ga, rfl, hxa, hfa⟩ := fs_at HF.out i0.out (.inl rfl) HEA.out hjR
          obtain ⟨gb, rfl, hxb, hfb⟩ := fs_at HF.out i1.out (.inr (.inl rfl)) HEB.out hjR
          have hne : ga ≠ gb := fun e => HF.out.o0.apart i0.out i1.out (by omega) (g := ga) (by rw [HEA.out.1]; rfl) (by rw [HEB.out.1, e]; rfl)
          obtain ⟨x1, hx1⟩ := hxa (j * 2) (by omega)
          obtain ⟨x2, hx2⟩ := hxa (j * 2 + 1) (by omega)
          obtain ⟨y1, hy1⟩ := hxb (j * 2) (by omega)
          obtain ⟨y2, hy2⟩ := hxb (j * 2 + 1) (by omega)
          have f1 := hfa (j * 2)
          have f2 := hfa (j * 2 + 1)
          have f3 := hfb (j * 2)
          have f4 := hfb (j * 2 + 1)
          have hjz : (j : Int) < (R : Int) := by omega
          clear hxa hxb
          go_wp2
          go_roundw
          case rel =>
            refine ⟨j + 1, by omega, by go_num, ?_⟩
            have h1 := fs_run HF.out i0.out (.inl rfl) HEA.out.2.2.1 (by rw [HEA.out.1, HEA.out.2.2.2.1]) (j := j) (by simp [kf]) (by rw [HEA.out.2.2.2.1]; exact hjR) rfl (.int .i64 0)
            have h2 := fs_run h1 i1.out (.inr (.inl rfl)) HEB.out.2.2.1 (by rw [HEB.out.1, HEB.out.2.2.2.1]) (j := j) (by simp [up, kf]) (by rw [HEB.out.2.2.2.1]; exact hjR) rfl (.int .i64 0)
            exact h2.le (kf_up0 j 0)
          case measure => simp [intOf]; omega
        · obtain rfl : j = R := by omega
          go_wp2
          generalize wr = wy at *
          go_loopw [25] (fun s25 wr => ∃ i : Nat, i ≤ TL ∧ s25 = .int .i64 i ∧ Hid (FW w11 wr b0 b1 es ps (kf j i))) (fun s25 _ => TL - (intOf s25).toNat)
          case atStart => exact ⟨0, Nat.zero_le _, rfl, HF⟩
          case round =>
            clear HF
            obtain ⟨i, hi, rfl, HF⟩ := hrel
            by_cases hiT : i < TL
            · obtain ⟨gx, rfl, hxa, hfa⟩ := fs_at HF.out i3.out (.inr (.inr (.inl rfl))) HEX.out hiT
              obtain ⟨gy, rfl, hxb, hfb⟩ := fs_at HF.out i4.out (.inr (.inr (.inr (.inl rfl)))) HEY.out hiT
              have hne : gx ≠ gy := fun e => HF.out.o0.apart i3.out i4.out (by omega) (g := gx) (by rw [HEX.out.1]; rfl) (by rw [HEY.out.1, e]; rfl)
              obtain ⟨x1, hx1⟩ := hxa i (by omega)
              obtain ⟨y1, hy1⟩ := hxb i (by omega)
              have f1 := hfa i
              have f3 := hfb i
              have hiz : (i : Int) < (TL : Int) := by omega
              clear hxa hxb
              go_wp2
              go_roundw
              case rel =>
                refine ⟨i + 1, by omega, by go_num, ?_⟩
                have h1 := fs_int HF.out i3.out (.inr (.inr (.inl rfl))) HEX.out.2.2.1 (by rw [HEX.out.1, HEX.out.2.2.2.1]) (j := i) (by simp [kf]) (by rw [HEX.out.2.2.2.1]; exact hiT) rfl
                have h2 := fs_int h1 i4.out (.inr (.inr (.inr (.inl rfl)))) HEY.out.2.2.1 (by rw [HEY.out.1, HEY.out.2.2.2.1]) (j := i) (by simp [up, kf]) (by rw [HEY.out.2.2.2.1]; exact hiT) rfl
                exact h2.le (kf_up1 j i)
              case measure => simp [intOf]; omega
            · obtain rfl : i = TL := by omega
              go_wp2
              generalize wr = wx at *
              go_loopw [26] (fun s26 wr => ∃ q : Nat, q ≤ FL ∧ s26 = .int .i64 q ∧ Hid (FW w11 wr b0 b1 es ps (kf j i))) (fun s26 _ => FL - (intOf s26).toNat)
              case atStart => exact ⟨0, Nat.zero_le _, rfl, HF⟩
              case round =>
                clear HF
                obtain ⟨q, hq, rfl, HF⟩ := hrel
                by_cases hqF : q < FL
                · obtain ⟨gz, rfl, hxa, hfa⟩ := fs_at HF.out i5.out (.inr (.inr (.inr (.inr rfl)))) HEZ.out hqF
                  obtain ⟨x1, hx1⟩ := hxa q (by omega)
                  have f1 := hfa q
                  have hqz : (q : Int) < (FL : Int) := by omega
                  clear hxa
                  go_wp2
                  go_roundw
                  case rel => exact ⟨q + 1, by omega, by go_num, HF.out.set i5.out (.inr (.inr (.inr (.inr rfl)))) (by rw [HEZ.out.1]; rfl) (by rw [HEZ.out.2.2.2.1, HEZ.out.2.2.1]; omega) _ (fun k hk _ => by simp [kf] at hk)⟩
                  case measure => simp [intOf]; omega
                · obtain rfl : q = FL := by omega
                  go_wp2
                  go_loop [27] (fun s27 => ∃ t : Nat, t ≤ j ∧ s27 = .int .i64 t) (fun s27 => j - (intOf s27).toNat)
                  case atStart => exact ⟨0, Nat.zero_le _, rfl⟩
                  case round =>
                    obtain ⟨t, ht, rfl⟩ := hrel
                    by_cases htR : t < j
                    · obtain ⟨ga, rfl, _, _⟩ := fs_at HF.out i0.out (.inl rfl) HEA.out htR
                      obtain ⟨gb, rfl, _, _⟩ := fs_at HF.out i1.out (.inr (.inl rfl)) HEB.out htR
                      have z1 := HF.out.marked (j := t) i0.out (.inl rfl) (by rw [HEA.out.1, HEA.out.2.2.2.1]) (by simp [kf]; exact htR) rfl
                      have z2 := HF.out.marked (j := t) i1.out (.inr (.inl rfl)) (by rw [HEB.out.1, HEB.out.2.2.2.1]) (by simp [kf]; exact htR) rfl
                      rw [HEA.out.2.2.1] at z1
                      rw [HEB.out.2.2.1] at z2
                      have htz : (t : Int) < (j : Int) := by omega
                      go_wp2
                      go_round
                      case rel => exact ⟨t + 1, by omega, by go_num⟩
                      case measure => simp [intOf]; omega
                    · obtain rfl : t = j := by omega
                      go_wp2
                      go_loop [28] (fun s28 => ∃ r : Nat, r ≤ i ∧ s28 = .int .i64 r) (fun s28 => i - (intOf s28).toNat)
                      case atStart => exact ⟨0, Nat.zero_le _, rfl⟩
                      case round =>
                        obtain ⟨r, hr, rfl⟩ := hrel
                        by_cases hrT : r < i
                        · obtain ⟨gx, rfl, _, _⟩ := fs_at HF.out i3.out (.inr (.inr (.inl rfl))) HEX.out hrT
                          obtain ⟨gy, rfl, _, _⟩ := fs_at HF.out i4.out (.inr (.inr (.inr (.inl rfl)))) HEY.out hrT
                          have z1 := HF.out.marked (j := r) i3.out (.inr (.inr (.inl rfl))) (by rw [HEX.out.1, HEX.out.2.2.2.1]) (by simp [kf]; exact hrT) rfl
                          have z2 := HF.out.marked (j := r) i4.out (.inr (.inr (.inr (.inl rfl)))) (by rw [HEY.out.1, HEY.out.2.2.2.1]) (by simp [kf]; exact hrT) rfl
                          rw [HEX.out.2.2.1, Nat.mul_one] at z1
                          rw [HEY.out.2.2.1, Nat.mul_one] at z2
                          have hrz : (r : Int) < (i : Int) := by omega
                          go_wp2
                          go_round
                          case rel => exact ⟨r + 1, by omega, by go_num⟩
                          case measure => simp [intOf]; omega
                        · obtain rfl : r = i := by omega
                          obtain ⟨d0, d1, d2, d3⟩ := HAP.out wr _ HF.out
                          have HXE : Hid (FX W wr p ub f0 s n S u cs) := HX11.out.turn (b0 := b0) (fun b _ hb => by
                            obtain ⟨i9, e9, z1, _, z3⟩ := hb
                            have z4 := HF.out.o0.hi e9 (List.mem_of_getElem? z1) b z3
                            have z5 := HF.out.o0.top e9 (List.mem_of_getElem? z1)
                            omega) HF.out.turn HB0.out.1 HB0.out.2.1 HB0.out.2.2.1 HB0.out.2.2.2
                          have HWAS : Hid (RAt wr aw rs) := by
                            have h1 := HF.out.keeps i2.out (by unfold wri; omega)
                            rw [HEW.out.1, HEW.out.2.1, HEW.out.2.2.1, HEW.out.2.2.2.1, HEW.out.2.2.2.2, ← HRn.out] at h1
                            obtain ⟨a9, c9, e9, h2, _⟩ := own_rat h1
                            cases e9
                            exact h2
                          have HTAB : Hid (IAt wr at_ T) := by
                            have h1 := HF.out.keeps i6.out (by unfold wri; omega)
                            rw [HET.out.1, HET.out.2.1, HET.out.2.2.1, HET.out.2.2.2.1, HET.out.2.2.2.2, ← HTn.out] at h1
                            obtain ⟨a9, c9, e9, h2, _⟩ := own_iat h1
                            cases e9
                            exact h2
                          have hru := HRA.out wr HXE.out.pp
                          clear HF
                          go_wp2_with (first
                            | (go_at_call 17; refine hru.mono ?_; clear hru; rintro e v1 ⟨va, rfl, ho1, ht1⟩;
                               rw [← HRn.out] at ho1;
                               obtain ⟨aq, cq, rfl, hr1, _⟩ := own_rat ho1;
                               have hsm := sameRuns_any v1 aq aw cq cw rs rs hr1 (HWAS.out.turn ht1 (fun _ _ h => h)) (by rw [HRn.out]; omega) (by rw [HRn.out]; omega);
                               rw [decide_eq_true rfl] at hsm;
                               rw [HRn.out] at hsm ⊢;
                               have HV1 : Hid (FX W v1 p ub f0 s n S u cs ∧ IAt v1 at_ T) := ⟨HXE.out.keep ht1, HTAB.out.turn ht1 (fun _ _ h => h)⟩; clear ho1 ht1 hr1)
                            | (go_at_call 21; refine hsm.mono ?_; clear hsm; rintro e v2 ⟨rfl, q2, rfl⟩;
                               have HV2 : Hid (FX W (v1.drewN q2) p ub f0 s n S u cs ∧ IAt (v1.drewN q2) at_ T) := ⟨HV1.out.1.keep ((Turn.refl _ _).drewN q2), HV1.out.2⟩;
                               have htb := HTA.out (v1.drewN q2) HV2.out.1.ps)
                            | (go_at_call 26; refine htb.mono ?_; clear htb; rintro e v3 ⟨va3, rfl, ho3, ht3⟩;
                               rw [← HTn.out] at ho3;
                               obtain ⟨a3, c3, rfl, hr3, _⟩ := own_iat ho3;
                               have hsi := sameInts_any v3 a3 at_ c3 ct T T hr3 (HV2.out.2.turn ht3 (fun _ _ h => h)) (by rw [HTn.out]; omega) (by rw [HTn.out]; omega);
                               rw [decide_eq_true rfl] at hsi;
                               rw [HTn.out] at hsi ⊢;
                               have HV3 : Hid (FX W v3 p ub f0 s n S u cs ∧ IAt v3 at_ T) := ⟨HV2.out.1.keep ht3, HV2.out.2.turn ht3 (fun _ _ h => h)⟩; clear ho3 ht3 hr3)
                            | (go_at_call 16; refine hsi.mono ?_; clear hsi; rintro e v4 ⟨rfl, q4, rfl⟩;
                               have HV4 : Hid (FX W (v3.drewN q4) p ub f0 s n S u cs ∧ IAt (v3.drewN q4) at_ T) := ⟨HV3.out.1.keep ((Turn.refl _ _).drewN q4), HV3.out.2⟩;
                               have hfr := HFA.out (v3.drewN q4) HV4.out.1.ps)
                            | (go_at_call 27; refine hfr.mono ?_; clear hfr; rintro e v5 ⟨va5, rfl, ho5, ht5⟩;
                               rw [← HFn.out] at ho5;
                               obtain ⟨a5, c5, rfl, hr5, _⟩ := own_iat ho5;
                               have hfi := HFIT.out v5 a5 at_ c5 ct hr5 (HV4.out.2.turn ht5 (fun _ _ h => h));
                               rw [HFn.out];
                               have HV5 : Hid (FX W v5 p ub f0 s n S u cs) := HV4.out.1.keep ht5; clear ho5 ht5 hr5)
                            | (go_at_call 29; refine hfi.mono ?_; clear hfi; rintro e v6 ⟨rfl, q6, rfl⟩)
                            | go_in)
                          go_ret
                          exact ⟨rfl, (HV5.out.trn.drewN _).to (fun _ h => h.elim) (Nat.le_refl _)⟩
end Go.Proofs.Ytplobjdghaokoaa
