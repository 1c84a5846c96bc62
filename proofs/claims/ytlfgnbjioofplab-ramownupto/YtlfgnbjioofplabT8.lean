import Derived.Test.YtlfgnbjioofplabWh

namespace Go.Proofs.Ytlfgnbjioofplab
open Go.RowKit
set_option linter.unusedVariables false

def writV (N : Nat) (m : Nat → Int) (pa : Nat) (bs : List Int) : Nat → Int := if pa + bs.length ≤ N * 4096 then wrs m pa bs else m
def errX (N pa n : Nat) : Int := if pa + n ≤ N * 4096 then 0 else 30
theorem pwrite_any (W : World) (S : Nat → Prop) (p N : Nat) (m : Nat → Int) (pa : Nat) (bs : List Int) (a : Option Addr) (cap : Nat) (h : PM W S p N m) (hp : pa < 18446744073709551616) (hl : bs.length ≤ 140737488355328) (hcap : bs.length ≤ cap)
    (hb : ∀ i b, bs[i]? = some b → ∃ g o, a = some ⟨g, o, none⟩ ∧ ¬ S g ∧ g < W.heap.size ∧ W.cell? ⟨g, o + i, none⟩ = some (.int .u8 b)) (hbb : ∀ v ∈ bs, 0 ≤ v ∧ v < 256) :
    Calls Try.prog 19 #[.pointer (some ⟨p, 0, none⟩), .int .u64 pa, .slice a bs.length cap] W fun e W' => e = .returned (.int .i64 (errX N pa bs.length)) ∧ PM W' (gr S W W') p N (writV N m pa bs) ∧ Turn S W W' := by
  unfold errX writV
  by_cases hc : pa + bs.length ≤ N * 4096
  · rw [if_pos hc, if_pos hc]
    exact write_ok W S p N m pa bs a cap h hc hcap hb hbb
  · rw [if_neg hc, if_neg hc]
    refine (write_bus W p N pa bs.length a cap h.cell0 h.n2 (by omega) hp (by omega)).mono ?_
    rintro e W' ⟨rfl, rfl⟩
    exact ⟨rfl, h.gr h.low (Nat.le_refl _), Turn.refl _ _⟩
theorem rwrite_any (W : World) (S : Nat → Prop) (p N : Nat) (m : Nat → Int) (pa : Nat) (bs : List Int) (a : Option Addr) (cap : Nat) (h : RM W S p N m) (hp : pa < 18446744073709551616) (hl : bs.length ≤ 140737488355328)
    (hb : ∀ i b, bs[i]? = some b → ∃ g o, a = some ⟨g, o, none⟩ ∧ ¬ S g ∧ g < W.heap.size ∧ W.cell? ⟨g, o + i, none⟩ = some (.int .u8 b)) (hbb : ∀ v ∈ bs, 0 ≤ v ∧ v < 256) :
    Calls Try.prog 20 #[.pointer (some ⟨p, 0, none⟩), .int .u64 pa, .slice a bs.length cap] W fun e W' => e = .returned (.int .i64 (errX N pa bs.length)) ∧ RM W' (gr S W W') p N (writV N m pa bs) ∧ Turn S W W' := by
  unfold errX writV
  by_cases hc : pa + bs.length ≤ N * 4096
  · rw [if_pos hc, if_pos hc]
    exact rwrite_ok W S p N m pa bs a cap h hc hb hbb
  · rw [if_neg hc, if_neg hc]
    refine (rwrite_bus W p N pa bs.length a cap h.cell0 h.n2 (by omega) hp (by omega)).mono ?_
    rintro e W' ⟨rfl, rfl⟩
    exact ⟨rfl, h.gr h.low (Nat.le_refl _), Turn.refl _ _⟩
theorem encB_marks (bs : List Int) : (encB (bs ++ [165, 90]))[bs.length]? = some (.int .u8 165) ∧ (encB (bs ++ [165, 90]))[bs.length + 1]? = some (.int .u8 90) := by
  constructor
  · exact encB_at (by simp)
  · exact encB_at (by rw [List.getElem?_append_right (by omega), show bs.length + 1 - bs.length = 1 by omega]; rfl)

set_option maxHeartbeats 8000000 in
set_option maxRecDepth 100000 in
theorem step8 (W0 w : World) (B tb : Nat) (s : St) (o : Op3) {zs : List (Nat × TypeId × List Value)} (hK : KS W0 w B tb s zs) (hB : B ≤ w.heap.size) (hg : s.good) (ho : o.ok W0 B) (hk : o.kind = 8) :
    Calls Try.prog 5 #[.pointer (some ⟨tb, 0, none⟩), .agg #[.int .i64 o.kind, .int .i64 o.who, .int .i64 o.n, .int .u64 o.pa, .int .u32 o.v, .slice o.a o.bs.length o.cap]] w fun e w' => e = .returned (.bool true) ∧ ∃ s', KS W0 w' B tb s' zs ∧ s'.good ∧ w.heap.size ≤ w'.heap.size := by
  have hK1 := hK.add ((Turn.refl _ w).alloc (.cells #[.int .i64 o.kind, .int .i64 o.who, .int .i64 o.n, .int .u64 o.pa, .int .u32 o.v, .slice o.a o.bs.length o.cap] 35)) (Nat.le_refl _) (row_new w o.cells 35) hB
  have hwh := fun W => who_q W o.who ho.w1 ho.w2
  have hi3 := w3_lt o.who
  have htl := hK.box.lt
  generalize w3 o.who = i at *
  have cP := hK.cellP hi3
  have cR := hK.cellR hi3
  have hi3z : (i : Int) < 3 := by omega
  have hn := hg.1 i hi3
  have hm := hg.2 i hi3
  have hp2 := ho.p2
  have hv1 := ho.v1
  have hv2 := ho.v2
  have HG : Hid s.good := hg
  have HO : Hid (o.ok W0 B) := ho
  rw [hk] at hK1 ⊢
  have hc0 : o.cells = [.int .i64 8, .int .i64 o.who, .int .i64 o.n, .int .u64 o.pa, .int .u32 o.v, .slice o.a o.bs.length o.cap] := by rw [Op3.cells, hk]
  rw [hc0] at hK1
  clear hc0
  clear hg
  go_enter Try.func5, Try.ntmps5
  go_wp2
  go_quiet ((go_at_call 6; exact Calls.quiet_of_same (hwh _)))
  have hK2 := hK1.drewN nq
  have hsz : w.heap.size ≤ ((w.alloc (.cells #[.int .i64 8, .int .i64 o.who, .int .i64 o.n, .int .u64 o.pa, .int .u32 o.v, .slice o.a o.bs.length o.cap] 35)).drewN nq).heap.size := by simp
  generalize (w.alloc (.cells #[.int .i64 8, .int .i64 o.who, .int .i64 o.n, .int .u64 o.pa, .int .u32 o.v, .slice o.a o.bs.length o.cap] 35)).drewN nq = w1 at *
  generalize hbx : w.heap.size = bx at *
  have HBX : Hid (w.heap.size = bx) := hbx
  clear hbx
  have hrow := hK2.row (List.mem_cons_self ..)
  have c0 : w1.cell? ⟨bx, 0, none⟩ = some (.int .i64 8) := by rw [hrow.cell]; rfl
  have c1 : w1.cell? ⟨bx, 1, none⟩ = some (.int .i64 o.who) := by rw [hrow.cell]; rfl
  have c2 : w1.cell? ⟨bx, 2, none⟩ = some (.int .i64 o.n) := by rw [hrow.cell]; rfl
  have c3 : w1.cell? ⟨bx, 3, none⟩ = some (.int .u64 o.pa) := by rw [hrow.cell]; rfl
  have c4 : w1.cell? ⟨bx, 4, none⟩ = some (.int .u32 o.v) := by rw [hrow.cell]; rfl
  have c5 : w1.cell? ⟨bx, 5, none⟩ = some (.slice o.a o.bs.length o.cap) := by rw [hrow.cell]; rfl
  have hbxl := hrow.lt
  have HSZ : Hid (bx ≤ w1.heap.size) := hsz
  clear hK1 cP cR hK
  have hbl := HO.out.bl
  have hbc := HO.out.bc
  have hB1 : B ≤ w1.heap.size := by omega
  have hlies : ∀ ww : World, Turn (fun b => B ≤ b) W0 ww → ∀ j x, o.bs[j]? = some x → ∃ g q, o.a = some ⟨g, q, none⟩ ∧ g < B ∧ ww.cell? ⟨g, q + j, none⟩ = some (.int .u8 x) := fun ww T j x hj => by
    obtain ⟨g, q, r1, r2, r3⟩ := HO.out.lies j x hj
    refine ⟨g, q, r1, r2, ?_⟩
    by_cases hg : g < W0.heap.size
    · rw [T.cell hg (by omega)]; exact r3
    · exfalso
      have : W0.heap[g]? = none := Array.getElem?_eq_none (by omega)
      simp [World.cell?, this] at r3
  have hroom := room_any w1 o.a o.cap o.bs (fun j x hj => by
    obtain ⟨g, q, r1, r2, r3⟩ := hlies w1 hK2.trn j x hj
    exact ⟨g, q, r1, by omega, r3⟩) hbl HO.out.bz
  have hKP := fun (ww : World) (hk : KS W0 ww B tb s ((w1.heap.size, 5, encB (o.bs ++ [165, 90])) :: (bx, 35, [.int .i64 8, .int .i64 o.who, .int .i64 o.n, .int .u64 o.pa, .int .u32 o.v, .slice o.a o.bs.length o.cap]) :: zs)) (hb : B ≤ ww.heap.size) => ksP (F := 19) (args := #[.pointer (some ⟨s.pp i, 0, none⟩), .int .u64 o.pa, .slice (some ⟨w1.heap.size, 0, none⟩) o.bs.length (o.bs.length + 2)]) hk hb hi3 (writV (s.np i) (s.mp i) o.pa o.bs) (.returned (.int .i64 (errX (s.np i) o.pa o.bs.length))) (fun S hp _ hx => pwrite_any ww S (s.pp i) (s.np i) (s.mp i) o.pa o.bs (some ⟨w1.heap.size, 0, none⟩) (o.bs.length + 2) hp hp2 hbl (by omega) (fun j x hj => by
      have hr := hk.row (List.mem_cons_self ..)
      refine ⟨w1.heap.size, 0, rfl, hx _ (List.mem_cons_self ..), hr.lt, ?_⟩
      rw [hr.cell, Nat.zero_add]
      exact encB_at (by rw [List.getElem?_append_left (List.getElem?_eq_some_iff.1 hj).1]; exact hj)) HO.out.by_)
  have hKR := fun (ww : World) (hk : KS W0 ww B tb (s.upP i (writV (s.np i) (s.mp i) o.pa o.bs)) ((w1.heap.size, 5, encB (o.bs ++ [165, 90])) :: (bx, 35, [.int .i64 8, .int .i64 o.who, .int .i64 o.n, .int .u64 o.pa, .int .u32 o.v, .slice o.a o.bs.length o.cap]) :: zs)) (hb : B ≤ ww.heap.size) => ksR (F := 20) (args := #[.pointer (some ⟨s.rr i, 0, none⟩), .int .u64 o.pa, .slice o.a o.bs.length o.cap]) hk hb hi3 (writV (s.np i) (s.mp i) o.pa o.bs) (.returned (.int .i64 (errX (s.np i) o.pa o.bs.length))) (fun S hp hlo _ => by
      have := rwrite_any ww S (s.rr i) (s.nr i) (s.mr i) o.pa o.bs o.a o.cap hp hp2 hbl (fun j x hj => by
        obtain ⟨g, q, r1, r2, r3⟩ := hlies ww hk.trn j x hj
        exact ⟨g, q, r1, hlo g r2, by omega, r3⟩) HO.out.by_
      rw [← hn, ← hm] at this
      show Calls _ _ _ _ fun e w' => _ ∧ RM w' _ (s.rr i) (s.nr i) _ ∧ _
      rw [← hn]
      exact this)
  have HGD : Hid ((s.upP i (writV (s.np i) (s.mp i) o.pa o.bs)).upR i (writV (s.np i) (s.mp i) o.pa o.bs)).good := good_up HG.out i _
  have HCB : Hid (∀ (ww : World) (sx : St), KS W0 ww B tb sx ((w1.heap.size, 5, encB (o.bs ++ [165, 90])) :: (bx, 35, [.int .i64 8, .int .i64 o.who, .int .i64 o.n, .int .u64 o.pa, .int .u32 o.v, .slice o.a o.bs.length o.cap]) :: zs) → Calls Try.prog 10 #[.slice (some ⟨w1.heap.size, 0, none⟩) o.bs.length (o.bs.length + 2), .slice o.a o.bs.length o.cap] ww fun e W' => e = .returned (.bool true) ∧ ∃ q, W' = ww.drewN q) := fun ww sx hk => bytes_any ww _ _ _ _ o.bs (fun j x hj => by
      have hr := hk.row (List.mem_cons_self ..)
      refine ⟨w1.heap.size, 0, rfl, ?_⟩
      rw [hr.cell, Nat.zero_add]
      exact encB_at (by rw [List.getElem?_append_left (List.getElem?_eq_some_iff.1 hj).1]; exact hj)) (fun j x hj => by
      obtain ⟨g, q, r1, r2, r3⟩ := hlies ww hk.trn j x hj
      exact ⟨g, q, r1, r3⟩) (by omega)
  generalize writV (s.np i) (s.mp i) o.pa o.bs = m' at *
  generalize errX (s.np i) o.pa o.bs.length = er at *
  have HKA : Hid (∀ w2, RowAt w2 w1.heap.size 5 (encB (o.bs ++ [165, 90])) → Turn (fun _ => False) w1 w2 → KS W0 w2 B tb s ((w1.heap.size, 5, encB (o.bs ++ [165, 90])) :: (bx, 35, [.int .i64 8, .int .i64 o.who, .int .i64 o.n, .int .u64 o.pa, .int .u32 o.v, .slice o.a o.bs.length o.cap]) :: zs)) := fun w2 hr ht => hK2.add ht (Nat.le_refl _) hr hB1
  have HMK := encB_marks o.bs
  have HML : Hid ((encB (o.bs ++ [165, 90]))[o.bs.length]? = some (.int .u8 165) ∧ (encB (o.bs ++ [165, 90]))[o.bs.length + 1]? = some (.int .u8 90)) := HMK
  have HLN : Hid ((encB (o.bs ++ [165, 90])).length = o.bs.length + 2) := by show _ = _; rw [encB_len]; simp
  have HNE : Hid (¬ bx = w1.heap.size ∧ ∀ (a : Nat) (ty : TypeId) (b : List Value), (a, ty, b) ∈ zs → ¬ a = w1.heap.size) := ⟨by omega, fun a ty b hm => by have := (hK2.row (g := a) (e := ty) (l := b) (by simp [hm])).lt; omega⟩
  have hn0 : ¬ o.bs.length + 2 = 0 := by omega
  have hnz0 : (0 : Int) ≤ (o.bs.length : Int) := by omega
  have hnz1 : (o.bs.length : Int) ≤ (o.bs.length : Int) + 2 := by omega
  generalize hLL : encB (o.bs ++ [165, 90]) = LL at *
  generalize hnn : o.bs.length = n at *
  generalize hgg : w1.heap.size = g at *
  have HGG : Hid (w1.heap.size = g) := hgg
  clear hn hm hK2 hrow hsz hwh hlies HMK hLL hnn hgg
  go_wp2_with (first
    | (go_at_call 18; refine hroom.mono ?_; rintro e w2 ⟨rfl, hr2, ht2⟩;
       have hK := HKA.out w2 hr2 ht2;
       have hs2 : g ≤ w2.heap.size := (by rw [← HGG.out]; exact ht2.size);
       clear hr2 ht2)
    | go_in)
  have hB2 : B ≤ w2.drew.heap.size := by show B ≤ w2.heap.size; omega
  have d3 : w2.cell? ⟨bx, 3, none⟩ = some (.int .u64 o.pa) := by rw [(hK.row (List.mem_cons_of_mem _ (List.mem_cons_self ..))).cell]; rfl
  have d5 : w2.cell? ⟨bx, 5, none⟩ = some (.slice o.a n o.cap) := by rw [(hK.row (List.mem_cons_of_mem _ (List.mem_cons_self ..))).cell]; rfl
  have hK := hK.keep (w' := w2.drew) ⟨rfl, rfl, rfl, Nat.le_refl _, fun _ _ _ => rfl⟩
  go_region_held3 (fun w' => w'.cell? ⟨bx, 3, none⟩ = some (.int .u64 o.pa) ∧ w'.cell? ⟨bx, 5, none⟩ = some (.slice o.a n o.cap)) (first | go_keep | exact ⟨by rw [(hK.row (List.mem_cons_of_mem _ (List.mem_cons_self ..))).cell]; rfl, by rw [(hK.row (List.mem_cons_of_mem _ (List.mem_cons_self ..))).cell]; rfl⟩)
    ((first
      | (go_at_call 19; refine (hKP _ hK hB2).mono ?_; rintro e w3 ⟨rfl, hK, hs3⟩)))
  have f3 : w3.cell? ⟨bx, 3, none⟩ = some (.int .u64 o.pa) := by rw [(hK.row (List.mem_cons_of_mem _ (List.mem_cons_self ..))).cell]; rfl
  have f5 : w3.cell? ⟨bx, 5, none⟩ = some (.slice o.a n o.cap) := by rw [(hK.row (List.mem_cons_of_mem _ (List.mem_cons_self ..))).cell]; rfl
  have hs3' : w2.heap.size ≤ w3.heap.size := hs3
  have hB3 : B ≤ w3.heap.size := by omega
  go_wp2_with (first
    | (go_at_call 20; refine (hKR _ hK hB3).mono ?_; rintro e w4 ⟨rfl, hK, hs4⟩)
    | go_in)
  have e5 : w4.cell? ⟨bx, 5, none⟩ = some (.slice o.a n o.cap) := by rw [(hK.row (List.mem_cons_of_mem _ (List.mem_cons_self ..))).cell]; rfl
  have e6 : w4.cell? ⟨g, n, none⟩ = some (.int .u8 165) := by rw [(hK.row (List.mem_cons_self ..)).cell]; exact HML.out.1
  have e7 : w4.cell? ⟨g, n + 1, none⟩ = some (.int .u8 90) := by rw [(hK.row (List.mem_cons_self ..)).cell]; exact HML.out.2
  have HK4 : Hid _ := hK
  go_quiet ((go_at_call 10; exact Calls.quiet_of (HCB.out _ _ (by first | exact hK | exact hK.drewN _ | exact hK.keep ⟨rfl, rfl, rfl, Nat.le_refl _, fun _ _ _ => rfl⟩))))
  have HK5 : Hid _ := KS.drewN HK4.out nq
  have HS5 : Hid (w4.heap.size ≤ (w4.drewN nq).heap.size) := Nat.le_refl _
  clear HK4 hK e5 e6 e7
  generalize w4.drewN nq = w5 at *
  go_wp2
  go_loopw [16] (fun c wr => ∃ (k : Nat) (l : List Value), k ≤ n + 2 ∧ c = .int .i64 k ∧ Hid (l.length = n + 2) ∧ Hid (KS W0 wr B tb ((s.upP i m').upR i m') ((g, 5, l) :: (bx, 35, [.int .i64 8, .int .i64 o.who, .int .i64 o.n, .int .u64 o.pa, .int .u32 o.v, .slice o.a n o.cap]) :: zs)) ∧ Hid (w5.heap.size ≤ wr.heap.size)) (fun c _ => n + 2 - (intOf c).toNat)
  case atStart => exact ⟨0, LL, Nat.zero_le _, rfl, HLN.out, HK5.out, Nat.le_refl _⟩
  case round =>
    obtain ⟨k, l, hk2, rfl, HL, HKL, HSL⟩ := hrel
    by_cases hlt : k < n + 2
    · obtain ⟨u, hu⟩ : ∃ u, l[k]? = some u := ⟨_, List.getElem?_eq_getElem (by rw [HL.out]; exact hlt)⟩
      have hrw := KS.row HKL.out (List.mem_cons_self ..)
      have q1 : wr.cell? ⟨g, k, none⟩ = some u := by rw [hrw.cell]; exact hu
      have q2 := hrw.frozen k
      have HK6 : Hid _ := KS.set HKL.out (by simp; exact HNE.out) k (.int .u8 119)
      have HL6 : Hid ((l.set k (.int .u8 119)).length = n + 2) := by show _ = _; rw [List.length_set]; exact HL.out
      have hkz : (k : Int) < (n : Int) + 2 := by omega
      clear hrw hu
      go_wp2
      go_roundw
      case rel => exact ⟨k + 1, _, by omega, by go_num, HL6, HK6, by show _ ≤ _; simpa [World.setCell] using HSL.out⟩
      case measure => simp [intOf]; omega
    · go_wp2
      go_ret
      exact ⟨rfl, _, KS.drop HKL.out (by intro y hy; simp [hy]), HGD.out, by rw [HBX.out]; exact Nat.le_trans HSZ.out (Nat.le_trans hs2 (Nat.le_trans hs3' (Nat.le_trans hs4 (Nat.le_trans HS5.out HSL.out))))⟩
end Go.Proofs.Ytlfgnbjioofplab
