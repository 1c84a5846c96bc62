import Derived.Test.YtlfgnbjioofplabWh

namespace Go.Proofs.Ytlfgnbjioofplab
open Go.RowKit
set_option linter.unusedVariables false

set_option maxHeartbeats 8000000 in
set_option maxRecDepth 100000 in
theorem step10 (W0 w : World) (B tb : Nat) (s : St) (o : Op3) {zs : List (Nat × TypeId × List Value)} (hK : KS W0 w B tb s zs) (hB : B ≤ w.heap.size) (hg : s.good) (ho : o.ok W0 B) (hk : o.kind = 10) :
    Calls Try.prog 5 #[.pointer (some ⟨tb, 0, none⟩), .agg #[.int .i64 o.kind, .int .i64 o.who, .int .i64 o.n, .int .u64 o.pa, .int .u32 o.v, .slice o.a o.bs.length o.cap]] w fun e w' => e = .returned (.bool true) ∧ ∃ s', KS W0 w' B tb s' zs ∧ s'.good ∧ w.heap.size ≤ w'.heap.size := by
  have hK1 := hK.add ((Turn.refl _ w).alloc (.cells #[.int .i64 o.kind, .int .i64 o.who, .int .i64 o.n, .int .u64 o.pa, .int .u32 o.v, .slice o.a o.bs.length o.cap] 35)) (Nat.le_refl _) (row_new w o.cells 35) hB
  have hwh := fun W => who_q W o.who ho.w1 ho.w2
  have hi3 := w3_lt o.who
  have htl := hK.box.lt
  generalize w3 o.who = i at *
  have cP := hK.cellP hi3
  have cR := hK.cellR hi3
  have hi3z : (i : Int) < 3 := by omega
  have hn := hg.1 i hi3
  have hm := hg.2 i hi3
  have hp2 := ho.p2
  have hv1 := ho.v1
  have hv2 := ho.v2
  have HG : Hid s.good := hg
  have HO : Hid (o.ok W0 B) := ho
  rw [hk] at hK1 ⊢
  have hc0 : o.cells = [.int .i64 10, .int .i64 o.who, .int .i64 o.n, .int .u64 o.pa, .int .u32 o.v, .slice o.a o.bs.length o.cap] := by rw [Op3.cells, hk]
  rw [hc0] at hK1
  clear hc0
  clear hg
  go_enter Try.func5, Try.ntmps5
  go_wp2
  go_quiet ((go_at_call 6; exact Calls.quiet_of_same (hwh _)))
  have hK2 := hK1.drewN nq
  have hsz : w.heap.size ≤ ((w.alloc (.cells #[.int .i64 10, .int .i64 o.who, .int .i64 o.n, .int .u64 o.pa, .int .u32 o.v, .slice o.a o.bs.length o.cap] 35)).drewN nq).heap.size := by simp
  generalize (w.alloc (.cells #[.int .i64 10, .int .i64 o.who, .int .i64 o.n, .int .u64 o.pa, .int .u32 o.v, .slice o.a o.bs.length o.cap] 35)).drewN nq = w1 at *
  generalize hbx : w.heap.size = bx at *
  have HBX : Hid (w.heap.size = bx) := hbx
  clear hbx
  have hrow := hK2.row (List.mem_cons_self ..)
  have c0 : w1.cell? ⟨bx, 0, none⟩ = some (.int .i64 10) := by rw [hrow.cell]; rfl
  have c1 : w1.cell? ⟨bx, 1, none⟩ = some (.int .i64 o.who) := by rw [hrow.cell]; rfl
  have c2 : w1.cell? ⟨bx, 2, none⟩ = some (.int .i64 o.n) := by rw [hrow.cell]; rfl
  have c3 : w1.cell? ⟨bx, 3, none⟩ = some (.int .u64 o.pa) := by rw [hrow.cell]; rfl
  have c4 : w1.cell? ⟨bx, 4, none⟩ = some (.int .u32 o.v) := by rw [hrow.cell]; rfl
  have c5 : w1.cell? ⟨bx, 5, none⟩ = some (.slice o.a o.bs.length o.cap) := by rw [hrow.cell]; rfl
  have hbxl := hrow.lt
  have HSZ : Hid (bx ≤ w1.heap.size) := hsz
  clear hK1 cP cR hK
  obtain ⟨S1, hP⟩ := hK2.pm hi3
  have hcP := touched_any w1 S1 (s.pp i) (s.np i) (s.mp i) hP
  have hB1 : B ≤ w1.heap.size := by omega
  have HK2 : Hid _ := hK2
  have HNM : Hid (s.np i = s.nr i ∧ s.mp i = s.mr i) := ⟨hn, hm⟩
  clear hP hK2 hrow hn hm hwh
  go_wp2_with (first
    | (go_at_call 8; refine hcP.mono ?_; clear hcP; rintro e w2 ⟨v, L, rfl, hL, ⟨cap, cur, rfl, hr1, hr2, hr3, hr4, hr5⟩, ht2⟩;
       have hK3 := KS.add HK2.out ht2 (Nat.le_refl _) hr1 hB1;
       obtain ⟨S2, hR⟩ := hK3.rm hi3;
       have hcR := rtouched_any w2 S2 (s.rr i) (s.nr i) (s.mr i) hR;
       rw [← HNM.out.1, ← HNM.out.2] at hcR;
       have HK3 : Hid _ := hK3;
       have HT2 : Hid _ := ht2;
       have hLl : L.length ≤ 65536 := (by omega);
       clear hK3 hr1 ht2)
    | (go_at_call 12; refine hcR.mono ?_; clear hcR; rintro e w3 ⟨v2, L2, rfl, hL2, hown2, ht3⟩;
       have hLL := hL2.uniq hL; subst hLL;
       have hK4 := KS.keep HK3.out ht3;
       have hrowP := hK4.row (List.mem_cons_self ..);
       obtain ⟨a2, cp2, hv2e⟩ := slice_form hown2; subst hv2e;
       have hci := ints_any w3 (some ⟨w1.heap.size, 0, none⟩) a2 cap cp2 L2 (fun j x hj => ⟨w1.heap.size, 0, rfl, (by
           rw [hrowP.cell, Nat.zero_add]
           have := congrArg (fun l => l[j]?) hr5
           simp only [List.getElem?_take_of_lt (List.getElem?_eq_some_iff.1 hj).1] at this
           rw [this, List.getElem?_map, hj]; rfl)⟩) (fun j x hj => (by
           rcases row_of_own hown2 with ⟨h1, h2, _⟩ | ⟨g, cp, cr, h1, h2, h3, h4, h5, h6, h7⟩
           · rw [List.eq_nil_of_length_eq_zero h2] at hj; simp at hj
           · cases h1
             refine ⟨g, 0, rfl, ?_⟩
             rw [h3.cell, Nat.zero_add]
             have := congrArg (fun l => l[j]?) h7
             rw [Nat.mul_one] at this
             simp only [List.getElem?_take_of_lt (List.getElem?_eq_some_iff.1 hj).1] at this
             rw [this]
             exact encI_at hj)) (by omega);
       have HK4 : Hid _ := hK4.drop (ys := zs) (by intro y hy; simp [hy]);
       have HT3 : Hid (w1.heap.size ≤ w3.heap.size) := Nat.le_trans HT2.out.size ht3.size;
       clear hK4 hrowP hown2 ht3 hr5)
    | (go_at_call 11; refine hci.mono ?_; rintro e w4 ⟨rfl, qq, rfl⟩)
    | go_in)
  go_ret
  exact ⟨rfl, s, KS.drewN HK4.out qq, HG.out, by rw [HBX.out]; exact Nat.le_trans HSZ.out HT3.out⟩
end Go.Proofs.Ytlfgnbjioofplab
