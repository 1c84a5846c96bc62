import Derived.Test.YtlfgnbjioofplabWh

namespace Go.Proofs.Ytlfgnbjioofplab
open Go.RowKit
set_option linter.unusedVariables false

def St.clP (s : St) (i j q : Nat) : St := { s with pp := up s.pp i q, np := up s.np i (s.np j), mp := up s.mp i (s.mp j) }
def St.clR (s : St) (i j q : Nat) : St := { s with rr := up s.rr i q, nr := up s.nr i (s.nr j), mr := up s.mr i (s.mr j) }
theorem boxL_clP (s : St) (i j q : Nat) (hi : i < 3) : boxL (s.clP i j q) = (boxL s).set i (.pointer (some ⟨q, 0, none⟩)) := by
  rcases (show i = 0 ∨ i = 1 ∨ i = 2 by omega) with rfl | rfl | rfl <;> simp [boxL, St.clP, up]
theorem boxL_clR (s : St) (i j q : Nat) (hi : i < 3) : boxL (s.clR i j q) = (boxL s).set (3 + i) (.pointer (some ⟨q, 0, none⟩)) := by
  rcases (show i = 0 ∨ i = 1 ∨ i = 2 by omega) with rfl | rfl | rfl <;> simp [boxL, St.clR, up]

section
variable {W0 w w' : World} {B tb : Nat} {S : Nat → Nat → Prop} {s : St} {xs : List (Nat × TypeId × List Value)}
/-- A memory is another one from now on. -/
theorem KSx.swap (h : KSx W0 w B tb S s xs) (hB : B ≤ w.heap.size) {k : Nat} (hk : k < 6) (T : Turn (fun _ => False) w w') (q : Nat) {s' : St} (hbx : boxL s' = (boxL s).set k (.pointer (some ⟨q, 0, none⟩)))
    (hp : ∀ i, i < 3 → i ≠ k → s'.pp i = s.pp i ∧ s'.np i = s.np i ∧ s'.mp i = s.mp i) (hr : ∀ i, i < 3 → 3 + i ≠ k → s'.rr i = s.rr i ∧ s'.nr i = s.nr i ∧ s'.mr i = s.mr i)
    (hpk : ∀ i, i < 3 → i = k → PM w' (gr (fun _ => False) w w') (s'.pp i) (s'.np i) (s'.mp i)) (hrk : ∀ i, i < 3 → 3 + i = k → RM w' (gr (fun _ => False) w w') (s'.rr i) (s'.nr i) (s'.mr i)) :
    KS W0 (w'.setCell ⟨tb, k, none⟩ (.pointer (some ⟨q, 0, none⟩))) B tb s' xs := by
  have hl := h.low
  have htb := h.box.lt
  have T2 : Turn (fun b => b = tb) w' (w'.setCell ⟨tb, k, none⟩ (.pointer (some ⟨q, 0, none⟩))) := (Turn.refl (fun b => b = tb) w').setCell (p := ⟨tb, k, none⟩) (.inl rfl) _
  have hgt : ∀ b, gr (fun _ => False) w w' b → b ≠ tb := fun b hb e => by
    rcases hb with h1 | ⟨h1, _⟩
    · exact h1
    · omega
  have hgl : ∀ b, gr (fun _ => False) w w' b → w.heap.size ≤ b := fun b hb => by
    rcases hb with h1 | ⟨h1, _⟩
    · exact h1.elim
    · exact h1
  refine ⟨up S k (gr (fun _ => False) w w'), ⟨?_, fun i hi => ?_, fun i hi => ?_, fun a j b ha hj hne hb => ?_, fun j hj => ?_, fun j b hj hb => ?_, h.loT, fun x hx => ?_, (h.trn.trans T (fun _ h => h.elim)).trans T2 (fun x hx => .inl (by rw [hx]; exact h.loT))⟩⟩
  · rw [hbx]
    exact (h.box.turn T (fun h => h)).set k _
  · by_cases e : i = k
    · subst e
      rw [up_same]
      exact (hpk i hi rfl).keep T2 hgt
    · rw [up_other _ _ e, (hp i hi e).1, (hp i hi e).2.1, (hp i hi e).2.2]
      exact ((h.pm i hi).keep T (fun _ _ h => h)).keep T2 (fun b hb e => h.tbS i (by omega) (e ▸ hb))
  · by_cases e : 3 + i = k
    · subst e
      rw [up_same]
      exact (hrk i hi rfl).keep T2 hgt
    · rw [up_other _ _ e, (hr i hi e).1, (hr i hi e).2.1, (hr i hi e).2.2]
      exact ((h.rm i hi).keep T (fun _ _ h => h)).keep T2 (fun b hb e => h.tbS (3 + i) (by omega) (e ▸ hb))
  · by_cases e1 : a = k
    · subst e1
      rw [up_same] at hb
      rw [up_other _ _ (Ne.symm hne)]
      intro hs
      have := hl j b hj hs
      have := hgl b hb
      omega
    · rw [up_other _ _ e1] at hb
      by_cases e2 : j = k
      · subst e2
        rw [up_same]
        intro hg
        have := hl a b ha hb
        have := hgl b hg
        omega
      · rw [up_other _ _ e2]
        exact h.dis a j b ha hj hne hb
  · by_cases e : j = k
    · subst e
      rw [up_same]
      exact fun hg => hgt tb hg rfl
    · rw [up_other _ _ e]; exact h.tbS j hj
  · by_cases e : j = k
    · subst e
      rw [up_same] at hb
      have := hgl b hb
      omega
    · rw [up_other _ _ e] at hb; exact h.lo j b hj hb
  · obtain ⟨r1, r2, r3, r4⟩ := h.out x hx
    refine ⟨(r1.turn T (fun h => h)).turn T2 r2, r2, r3, fun j hj => ?_⟩
    by_cases e : j = k
    · subst e
      rw [up_same]
      intro hg
      have := hgl x.1 hg
      have := r1.lt
      omega
    · rw [up_other _ _ e]; exact r4 j hj
theorem KS.clP (h : KS W0 w B tb s xs) (hB : B ≤ w.heap.size) {i j q : Nat} (hi : i < 3) (T : Turn (fun _ => False) w w') (hq : PM w' (gr (fun _ => False) w w') q (s.np j) (s.mp j)) :
    KS W0 (w'.setCell ⟨tb, i, none⟩ (.pointer (some ⟨q, 0, none⟩))) B tb (s.clP i j q) xs := by
  obtain ⟨S, h⟩ := h
  refine h.swap hB (by omega : i < 6) T q (boxL_clP s i j q hi) (fun k hk hne => ⟨up_other _ _ hne, up_other _ _ hne, up_other _ _ hne⟩) (fun k hk hne => ⟨rfl, rfl, rfl⟩) (fun k hk hki => ?_) (fun k hk hki => by omega)
  subst hki
  show PM w' _ (up s.pp k q k) (up s.np k (s.np j) k) (up s.mp k (s.mp j) k)
  rw [up_same, up_same, up_same]
  exact hq
theorem KS.clR (h : KS W0 w B tb s xs) (hB : B ≤ w.heap.size) {i j q : Nat} (hi : i < 3) (T : Turn (fun _ => False) w w') (hq : RM w' (gr (fun _ => False) w w') q (s.nr j) (s.mr j)) :
    KS W0 (w'.setCell ⟨tb, 3 + i, none⟩ (.pointer (some ⟨q, 0, none⟩))) B tb (s.clR i j q) xs := by
  obtain ⟨S, h⟩ := h
  refine h.swap hB (by omega : 3 + i < 6) T q (boxL_clR s i j q hi) (fun k hk hne => ⟨rfl, rfl, rfl⟩) (fun k hk hne => ⟨up_other _ _ (by omega), up_other _ _ (by omega), up_other _ _ (by omega)⟩) (fun k hk hki => by omega) (fun k hk hki => ?_)
  have e : k = i := by omega
  subst e
  show RM w' _ (up s.rr k q k) (up s.nr k (s.nr j) k) (up s.mr k (s.mr j) k)
  rw [up_same, up_same, up_same]
  exact hq
theorem good_cl {s : St} (h : s.good) (i j q q' : Nat) (hj : j < 3) : ((s.clP i j q).clR i j q').good := by
  refine ⟨fun k hk => ?_, fun k hk => ?_⟩
  · show up s.np i (s.np j) k = up s.nr i (s.nr j) k
    by_cases e : k = i
    · subst e; rw [up_same, up_same]; exact h.1 j hj
    · rw [up_other _ _ e, up_other _ _ e]; exact h.1 k hk
  · show up s.mp i (s.mp j) k = up s.mr i (s.mr j) k
    by_cases e : k = i
    · subst e; rw [up_same, up_same]; exact h.2 j hj
    · rw [up_other _ _ e, up_other _ _ e]; exact h.2 k hk
end

set_option maxHeartbeats 8000000 in
set_option maxRecDepth 100000 in
theorem step11 (W0 w : World) (B tb : Nat) (s : St) (o : Op3) {zs : List (Nat × TypeId × List Value)} (hK : KS W0 w B tb s zs) (hB : B ≤ w.heap.size) (hg : s.good) (ho : o.ok W0 B) (hk : o.kind = 11) :
    Calls Try.prog 5 #[.pointer (some ⟨tb, 0, none⟩), .agg #[.int .i64 o.kind, .int .i64 o.who, .int .i64 o.n, .int .u64 o.pa, .int .u32 o.v, .slice o.a o.bs.length o.cap]] w fun e w' => e = .returned (.bool true) ∧ ∃ s', KS W0 w' B tb s' zs ∧ s'.good ∧ w.heap.size ≤ w'.heap.size := by
  have hK1 := hK.add ((Turn.refl _ w).alloc (.cells #[.int .i64 o.kind, .int .i64 o.who, .int .i64 o.n, .int .u64 o.pa, .int .u32 o.v, .slice o.a o.bs.length o.cap] 35)) (Nat.le_refl _) (row_new w o.cells 35) hB
  have hwh := fun W => who_q W o.who ho.w1 ho.w2
  have hi3 := w3_lt o.who
  have hwn := fun W => who_q W o.n ho.n1 ho.n2
  have hj3 := w3_lt o.n
  have HWH := fun W => who_any W o.who ho.w1 ho.w2
  have HWN := fun W => who_any W o.n ho.n1 ho.n2
  have htl := hK.box.lt
  generalize w3 o.who = i at *
  generalize w3 o.n = j at *
  have hj3z : (j : Int) < 3 := by omega
  have cP := hK.cellP hi3
  have cR := hK.cellR hi3
  have hi3z : (i : Int) < 3 := by omega
  have hn := hg.1 i hi3
  have hm := hg.2 i hi3
  have hp2 := ho.p2
  have hv1 := ho.v1
  have hv2 := ho.v2
  have HG : Hid s.good := hg
  have HO : Hid (o.ok W0 B) := ho
  rw [hk] at hK1 ⊢
  have hc0 : o.cells = [.int .i64 11, .int .i64 o.who, .int .i64 o.n, .int .u64 o.pa, .int .u32 o.v, .slice o.a o.bs.length o.cap] := by rw [Op3.cells, hk]
  rw [hc0] at hK1
  clear hc0
  clear hg
  go_enter Try.func5, Try.ntmps5
  go_wp2
  go_quiet ((go_at_call 6; exact Calls.quiet_of_same (hwh _)))
  have hK2 := hK1.drewN nq
  have hsz : w.heap.size ≤ ((w.alloc (.cells #[.int .i64 11, .int .i64 o.who, .int .i64 o.n, .int .u64 o.pa, .int .u32 o.v, .slice o.a o.bs.length o.cap] 35)).drewN nq).heap.size := by simp
  generalize (w.alloc (.cells #[.int .i64 11, .int .i64 o.who, .int .i64 o.n, .int .u64 o.pa, .int .u32 o.v, .slice o.a o.bs.length o.cap] 35)).drewN nq = w1 at *
  generalize hbx : w.heap.size = bx at *
  have HBX : Hid (w.heap.size = bx) := hbx
  clear hbx
  have hrow := hK2.row (List.mem_cons_self ..)
  have c0 : w1.cell? ⟨bx, 0, none⟩ = some (.int .i64 11) := by rw [hrow.cell]; rfl
  have c1 : w1.cell? ⟨bx, 1, none⟩ = some (.int .i64 o.who) := by rw [hrow.cell]; rfl
  have c2 : w1.cell? ⟨bx, 2, none⟩ = some (.int .i64 o.n) := by rw [hrow.cell]; rfl
  have c3 : w1.cell? ⟨bx, 3, none⟩ = some (.int .u64 o.pa) := by rw [hrow.cell]; rfl
  have c4 : w1.cell? ⟨bx, 4, none⟩ = some (.int .u32 o.v) := by rw [hrow.cell]; rfl
  have c5 : w1.cell? ⟨bx, 5, none⟩ = some (.slice o.a o.bs.length o.cap) := by rw [hrow.cell]; rfl
  have hbxl := hrow.lt
  have HSZ : Hid (bx ≤ w1.heap.size) := hsz
  clear hK1 cP cR hK
  obtain ⟨S1, hP⟩ := hK2.pm hj3
  have hB1 : B ≤ w1.drew.heap.size := by show B ≤ w1.heap.size; omega
  have hK := hK2.keep (w' := w1.drew) ⟨rfl, rfl, rfl, Nat.le_refl _, fun _ _ _ => rfl⟩
  have hcP := clone_any w1.drew S1 (s.pp j) (s.np j) (s.mp j) (hP.keep (S' := fun _ => False) ⟨rfl, rfl, rfl, Nat.le_refl _, fun _ _ _ => rfl⟩ (fun _ _ h => h))
  have cPj := hK2.cellP hj3
  have hnj := HG.out.1 j hj3
  have HMJ : Hid (s.np j = s.nr j) := hnj
  clear hn hm hK2 hrow hsz hP hnj
  go_wp2
  go_region_held3 (fun w' => w'.cell? ⟨bx, 2, none⟩ = some (.int .i64 o.n) ∧ w'.cell? ⟨tb, j, none⟩ = some (.pointer (some ⟨s.pp j, 0, none⟩))) (first | go_keep | exact ⟨by rw [(hK.row (List.mem_cons_self ..)).cell]; rfl, hK.cellP hj3⟩)
    ((first
      | (go_at_call 6; refine (HWN _).mono ?_; rintro e w9 ⟨rfl, rfl⟩)
      | (go_at_call 23; refine hcP.mono ?_; rintro e w2 ⟨q, rfl, hq2, ht2⟩; have HKa := hK; have hK := hK.keep ht2)))
  have hK3 := HKa.clP hB1 hi3 ht2 hq2
  have hs2 : w1.heap.size ≤ w2.heap.size := ht2.size
  have e1 : w2.cell? ⟨bx, 1, none⟩ = some (.int .i64 o.who) := by rw [(hK.row (List.mem_cons_self ..)).cell]; rfl
  have e2 : w2.cell? ⟨tb, i, none⟩ = some (.pointer (some ⟨s.pp i, 0, none⟩)) := hK.cellP hi3
  have e3 := hK.box.frozen i
  have hbt : bx ≠ tb := by omega
  have e1' : ∀ v, (w2.setCell ⟨tb, i, none⟩ v).drew.cell? ⟨bx, 1, none⟩ = some (.int .i64 o.who) := fun v => by
    rw [← e1]
    exact (((Turn.refl (fun b => b = tb) w2).setCell (p := ⟨tb, i, none⟩) (.inl rfl) v).drewN 1).cell (by have := hK.row (List.mem_cons_self ..); exact this.lt) hbt 1
  have HK3 : Hid _ := hK3
  have HS2 : Hid (w1.heap.size ≤ w2.heap.size) := hs2
  clear hK3 hK HKa hq2 ht2 hcP
  go_wp2
  go_region_held3 (fun w' => w'.cell? ⟨bx, 1, none⟩ = some (.int .i64 o.who)) (first | go_keep | exact e1 | exact e1' _)
    ((first
      | (go_at_call 6; refine (HWH _).mono ?_; rintro e w9 ⟨rfl, rfl⟩)))
  have hK4 : KS W0 ((w2.setCell ⟨tb, i, none⟩ (.pointer (some ⟨q, 0, none⟩))).drew) B tb (s.clP i j q) ((bx, 35, [.int .i64 11, .int .i64 o.who, .int .i64 o.n, .int .u64 o.pa, .int .u32 o.v, .slice o.a o.bs.length o.cap]) :: zs) := KS.keep (w := w2.setCell ⟨tb, i, none⟩ (.pointer (some ⟨q, 0, none⟩))) HK3.out ⟨rfl, rfl, rfl, Nat.le_refl _, fun _ _ _ => rfl⟩
  have HS3 : Hid (w2.heap.size ≤ ((w2.setCell ⟨tb, i, none⟩ (.pointer (some ⟨q, 0, none⟩))).drew).heap.size) := by show _ ≤ _; simp [World.setCell]
  clear e1 e1' e2 e3 HK3
  generalize (w2.setCell ⟨tb, i, none⟩ (.pointer (some ⟨q, 0, none⟩))).drew = w4 at *
  obtain ⟨S3, hR⟩ := hK4.rm hj3
  have hB4 : B ≤ w4.heap.size := Nat.le_trans (Nat.le_trans (show B ≤ w1.heap.size from hB1) HS2.out) HS3.out
  have hcR := rclone_any w4.drew S3 (s.rr j) (s.nr j) (s.mr j) (RM.keep (S' := fun _ => False) hR ⟨rfl, rfl, rfl, Nat.le_refl _, fun _ _ _ => rfl⟩ (fun _ _ h => h))
  have HK4 : Hid _ := hK4
  have g1 : w4.cell? ⟨bx, 1, none⟩ = some (.int .i64 o.who) := by rw [(hK4.row (List.mem_cons_self ..)).cell]; rfl
  have g2 : w4.cell? ⟨bx, 2, none⟩ = some (.int .i64 o.n) := by rw [(hK4.row (List.mem_cons_self ..)).cell]; rfl
  have g3 : w4.cell? ⟨tb, 3 + j, none⟩ = some (.pointer (some ⟨s.rr j, 0, none⟩)) := hK4.cellR hj3
  have hcR' : ∃ q', Calls Try.prog 24 #[.pointer (some ⟨s.rr j, 0, none⟩)] w4.drew fun e w' => e = .returned (.pointer (some ⟨q', 0, none⟩)) ∧ Hid (KS W0 (w'.setCell ⟨tb, 3 + i, none⟩ (.pointer (some ⟨q', 0, none⟩))) B tb ((s.clP i j q).clR i j q') ((bx, 35, [.int .i64 11, .int .i64 o.who, .int .i64 o.n, .int .u64 o.pa, .int .u32 o.v, .slice o.a o.bs.length o.cap]) :: zs) ∧ w4.heap.size ≤ w'.heap.size ∧ w'.cell? ⟨bx, 1, none⟩ = some (.int .i64 o.who) ∧ (∀ k, w'.frozen? ⟨tb, k, none⟩ = false) ∧ w'.cell? ⟨tb, 3 + i, none⟩ = some (.pointer (some ⟨s.rr i, 0, none⟩))) := by
    refine ⟨w4.heap.size, hcR.mono ?_⟩
    rintro e w' ⟨rfl, hq, ht⟩
    have hk0 := hK4.keep (w' := w4.drew) ⟨rfl, rfl, rfl, Nat.le_refl _, fun _ _ _ => rfl⟩
    have hk1 := hk0.clR hB4 hi3 ht hq
    have hk2 := hk0.keep ht
    exact ⟨rfl, hk1, ht.size, by rw [(hk2.row (List.mem_cons_self ..)).cell]; rfl, fun k => hk2.box.frozen k, hk2.cellR hi3⟩
  obtain ⟨q', hcR'⟩ := hcR'
  clear hR hcR hK4
  go_wp2
  go_region_with ((first
      | (go_at_call 6; refine (HWH _).mono ?_; rintro e w9 ⟨rfl, rfl⟩)
      | (go_at_call 6; refine (HWN _).mono ?_; rintro e w9 ⟨rfl, rfl⟩)
      | (go_at_call 24; refine hcR'.mono ?_; rintro e w5 ⟨rfl, HF⟩; obtain ⟨_, _, x1, x2, x3⟩ := HF.out)))
  all_goals
    have hK6 := HF.out.1
    have HS6 : Hid (w4.heap.size ≤ (w5.setCell ⟨tb, 3 + i, none⟩ (.pointer (some ⟨q', 0, none⟩))).heap.size) := by show _ ≤ _; simpa [World.setCell] using HF.out.2.1
    clear HF x1 x2 x3
    generalize w5.setCell ⟨tb, 3 + i, none⟩ (.pointer (some ⟨q', 0, none⟩)) = w6 at *
    have hfP : ∀ nq, Calls Try.prog 25 #[.pointer (some ⟨q, 0, none⟩)] (w6.drewN nq) fun e W' => e = .returned (.int .i64 (s.np j)) ∧ W' = w6.drewN nq := fun nq => by
      obtain ⟨Sx, hx⟩ := (hK6.drewN nq).pm hi3
      have := pframes_any (w6.drewN nq) Sx _ _ _ hx
      have e1 : ((s.clP i j q).clR i j q').pp i = q := up_same _ _ _
      have e2 : ((s.clP i j q).clR i j q').np i = s.np j := up_same _ _ _
      rw [e1, e2] at this
      exact this.mono (fun e W' h => ⟨h.1, h.2.symm⟩)
    have hfR : ∀ nq, Calls Try.prog 17 #[.pointer (some ⟨q', 0, none⟩)] (w6.drewN nq) fun e W' => e = .returned (.int .i64 (s.np j)) ∧ W' = w6.drewN nq := fun nq => by
      obtain ⟨Sx, hx⟩ := (hK6.drewN nq).rm hi3
      have := rframes_any (w6.drewN nq) _ _ hx.cell0
      have e1 : ((s.clP i j q).clR i j q').rr i = q' := up_same _ _ _
      have e2 : ((s.clP i j q).clR i j q').nr i = s.nr j := up_same _ _ _
      rw [e1, e2, ← HMJ.out] at this
      exact this.mono (fun e W' h => ⟨h.1, h.2.symm⟩)
    have y1 : w6.cell? ⟨bx, 1, none⟩ = some (.int .i64 o.who) := by rw [(hK6.row (List.mem_cons_self ..)).cell]; rfl
    have y2 : w6.cell? ⟨tb, 3 + i, none⟩ = some (.pointer (some ⟨q', 0, none⟩)) := by
      have := hK6.cellR hi3
      rwa [show ((s.clP i j q).clR i j q').rr i = q' from up_same _ _ _] at this
    have HK6 : Hid _ := hK6.drop (ys := zs) (by intro y hy; simp [hy])
    have HGC : Hid ((s.clP i j q).clR i j q').good := good_cl HG.out i j q q' hj3
    clear hK6
    generalize s.np j = NJ at *
    go_wp2
    go_quiet ((first
      | (go_at_call 6; exact Calls.quiet_of_same (hwh _))
      | (go_at_call 25; exact Calls.quiet_of_same (hfP _))
      | (go_at_call 17; exact Calls.quiet_of_same (hfR _))))
    go_wp2
    go_ret
    exact ⟨rfl, _, KS.drewN HK6.out _, HGC.out, by rw [HBX.out]; exact Nat.le_trans HSZ.out (Nat.le_trans HS2.out (Nat.le_trans HS3.out HS6.out))⟩
end Go.Proofs.Ytlfgnbjioofplab
