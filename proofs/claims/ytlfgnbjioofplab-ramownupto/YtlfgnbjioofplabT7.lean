import Derived.Test.YtlfgnbjioofplabWh

namespace Go.Proofs.Ytlfgnbjioofplab
open Go.RowKit
set_option linter.unusedVariables false

set_option maxHeartbeats 8000000 in
set_option maxRecDepth 100000 in
theorem step7neg (W0 w : World) (B tb : Nat) (s : St) (o : Op3) {zs : List (Nat × TypeId × List Value)} (hK : KS W0 w B tb s zs) (hB : B ≤ w.heap.size) (hg : s.good) (ho : o.ok W0 B) (hk : o.kind = 7) (h0 : o.n < 0) :
    Calls Try.prog 5 #[.pointer (some ⟨tb, 0, none⟩), .agg #[.int .i64 o.kind, .int .i64 o.who, .int .i64 o.n, .int .u64 o.pa, .int .u32 o.v, .slice o.a o.bs.length o.cap]] w fun e w' => e = .returned (.bool true) ∧ ∃ s', KS W0 w' B tb s' zs ∧ s'.good ∧ w.heap.size ≤ w'.heap.size := by
  have hK1 := hK.add ((Turn.refl _ w).alloc (.cells #[.int .i64 o.kind, .int .i64 o.who, .int .i64 o.n, .int .u64 o.pa, .int .u32 o.v, .slice o.a o.bs.length o.cap] 35)) (Nat.le_refl _) (row_new w o.cells 35) hB
  have hwh := fun W => who_q W o.who ho.w1 ho.w2
  have hi3 := w3_lt o.who
  have htl := hK.box.lt
  generalize w3 o.who = i at *
  have cP := hK.cellP hi3
  have cR := hK.cellR hi3
  have hi3z : (i : Int) < 3 := by omega
  have hn := hg.1 i hi3
  have hm := hg.2 i hi3
  have hp2 := ho.p2
  have hv1 := ho.v1
  have hv2 := ho.v2
  have HG : Hid s.good := hg
  have HO : Hid (o.ok W0 B) := ho
  rw [hk] at hK1 ⊢
  have hc0 : o.cells = [.int .i64 7, .int .i64 o.who, .int .i64 o.n, .int .u64 o.pa, .int .u32 o.v, .slice o.a o.bs.length o.cap] := by rw [Op3.cells, hk]
  rw [hc0] at hK1
  clear hc0
  clear hg
  go_enter Try.func5, Try.ntmps5
  go_wp2
  go_quiet ((go_at_call 6; exact Calls.quiet_of_same (hwh _)))
  have hK2 := hK1.drewN nq
  have hsz : w.heap.size ≤ ((w.alloc (.cells #[.int .i64 7, .int .i64 o.who, .int .i64 o.n, .int .u64 o.pa, .int .u32 o.v, .slice o.a o.bs.length o.cap] 35)).drewN nq).heap.size := by simp
  generalize (w.alloc (.cells #[.int .i64 7, .int .i64 o.who, .int .i64 o.n, .int .u64 o.pa, .int .u32 o.v, .slice o.a o.bs.length o.cap] 35)).drewN nq = w1 at *
  generalize hbx : w.heap.size = bx at *
  have HBX : Hid (w.heap.size = bx) := hbx
  clear hbx
  have hrow := hK2.row (List.mem_cons_self ..)
  have c0 : w1.cell? ⟨bx, 0, none⟩ = some (.int .i64 7) := by rw [hrow.cell]; rfl
  have c1 : w1.cell? ⟨bx, 1, none⟩ = some (.int .i64 o.who) := by rw [hrow.cell]; rfl
  have c2 : w1.cell? ⟨bx, 2, none⟩ = some (.int .i64 o.n) := by rw [hrow.cell]; rfl
  have c3 : w1.cell? ⟨bx, 3, none⟩ = some (.int .u64 o.pa) := by rw [hrow.cell]; rfl
  have c4 : w1.cell? ⟨bx, 4, none⟩ = some (.int .u32 o.v) := by rw [hrow.cell]; rfl
  have c5 : w1.cell? ⟨bx, 5, none⟩ = some (.slice o.a o.bs.length o.cap) := by rw [hrow.cell]; rfl
  have hbxl := hrow.lt
  have HSZ : Hid (bx ≤ w1.heap.size) := hsz
  clear hK1 cP cR hK
  obtain ⟨S1, hP⟩ := hK2.pm hi3
  obtain ⟨S2, hR⟩ := hK2.rm hi3
  have hN2 := hP.n2
  have hnz : (s.np i : Int) = (s.nr i : Int) := by rw [hn]
  have hcF := rframes_any w1 (s.rr i) (s.nr i) hR.cell0
  rw [← hn] at hcF
  have hcP := read_neg w1 (s.pp i) o.pa o.n h0
  have hcR := rread_neg w1 (s.rr i) o.pa o.n h0
  have hcB : Calls Try.prog 10 #[.slice none 0 0, .slice none 0 0] w1 fun e W' => e = .returned (.bool true) ∧ ∃ q, W' = w1.drewN q := bytes_any w1 none none 0 0 [] (fun j x hj => by simp at hj) (fun j x hj => by simp at hj) (by simp)
  have HK2 : Hid _ := hK2.drop (ys := zs) (by intro y hy; simp [hy])
  clear hP hR hK2 hrow hn hm hwh hnz
  clear hcF
  go_wp2_with (first
    | (go_at_call 7; refine hcP.mono ?_; rintro e w2 ⟨rfl, rfl⟩)
    | (go_at_call 9; refine hcR.mono ?_; rintro e w2 ⟨rfl, rfl⟩)
    | (go_at_call 10; refine hcB.mono ?_; rintro e w2 ⟨rfl, qq, rfl⟩)
    | go_in)
  go_ret
  exact ⟨rfl, s, KS.drewN HK2.out qq, HG.out, by rw [HBX.out]; exact HSZ.out⟩

set_option maxHeartbeats 8000000 in
set_option maxRecDepth 100000 in
theorem step7busA (W0 w : World) (B tb : Nat) (s : St) (o : Op3) {zs : List (Nat × TypeId × List Value)} (hK : KS W0 w B tb s zs) (hB : B ≤ w.heap.size) (hg : s.good) (ho : o.ok W0 B) (hk : o.kind = 7) (h0 : 0 ≤ o.n) (h1 : o.n ≤ 16384) (h2 : (s.np (w3 o.who) : Int) * 4096 < o.pa + o.n) :
    Calls Try.prog 5 #[.pointer (some ⟨tb, 0, none⟩), .agg #[.int .i64 o.kind, .int .i64 o.who, .int .i64 o.n, .int .u64 o.pa, .int .u32 o.v, .slice o.a o.bs.length o.cap]] w fun e w' => e = .returned (.bool true) ∧ ∃ s', KS W0 w' B tb s' zs ∧ s'.good ∧ w.heap.size ≤ w'.heap.size := by
  have hK1 := hK.add ((Turn.refl _ w).alloc (.cells #[.int .i64 o.kind, .int .i64 o.who, .int .i64 o.n, .int .u64 o.pa, .int .u32 o.v, .slice o.a o.bs.length o.cap] 35)) (Nat.le_refl _) (row_new w o.cells 35) hB
  have hwh := fun W => who_q W o.who ho.w1 ho.w2
  have hi3 := w3_lt o.who
  have htl := hK.box.lt
  generalize w3 o.who = i at *
  have cP := hK.cellP hi3
  have cR := hK.cellR hi3
  have hi3z : (i : Int) < 3 := by omega
  have hn := hg.1 i hi3
  have hm := hg.2 i hi3
  have hp2 := ho.p2
  have hv1 := ho.v1
  have hv2 := ho.v2
  have HG : Hid s.good := hg
  have HO : Hid (o.ok W0 B) := ho
  rw [hk] at hK1 ⊢
  have hc0 : o.cells = [.int .i64 7, .int .i64 o.who, .int .i64 o.n, .int .u64 o.pa, .int .u32 o.v, .slice o.a o.bs.length o.cap] := by rw [Op3.cells, hk]
  rw [hc0] at hK1
  clear hc0
  clear hg
  go_enter Try.func5, Try.ntmps5
  go_wp2
  go_quiet ((go_at_call 6; exact Calls.quiet_of_same (hwh _)))
  have hK2 := hK1.drewN nq
  have hsz : w.heap.size ≤ ((w.alloc (.cells #[.int .i64 7, .int .i64 o.who, .int .i64 o.n, .int .u64 o.pa, .int .u32 o.v, .slice o.a o.bs.length o.cap] 35)).drewN nq).heap.size := by simp
  generalize (w.alloc (.cells #[.int .i64 7, .int .i64 o.who, .int .i64 o.n, .int .u64 o.pa, .int .u32 o.v, .slice o.a o.bs.length o.cap] 35)).drewN nq = w1 at *
  generalize hbx : w.heap.size = bx at *
  have HBX : Hid (w.heap.size = bx) := hbx
  clear hbx
  have hrow := hK2.row (List.mem_cons_self ..)
  have c0 : w1.cell? ⟨bx, 0, none⟩ = some (.int .i64 7) := by rw [hrow.cell]; rfl
  have c1 : w1.cell? ⟨bx, 1, none⟩ = some (.int .i64 o.who) := by rw [hrow.cell]; rfl
  have c2 : w1.cell? ⟨bx, 2, none⟩ = some (.int .i64 o.n) := by rw [hrow.cell]; rfl
  have c3 : w1.cell? ⟨bx, 3, none⟩ = some (.int .u64 o.pa) := by rw [hrow.cell]; rfl
  have c4 : w1.cell? ⟨bx, 4, none⟩ = some (.int .u32 o.v) := by rw [hrow.cell]; rfl
  have c5 : w1.cell? ⟨bx, 5, none⟩ = some (.slice o.a o.bs.length o.cap) := by rw [hrow.cell]; rfl
  have hbxl := hrow.lt
  have HSZ : Hid (bx ≤ w1.heap.size) := hsz
  clear hK1 cP cR hK
  obtain ⟨S1, hP⟩ := hK2.pm hi3
  obtain ⟨S2, hR⟩ := hK2.rm hi3
  have hN2 := hP.n2
  have hnz : (s.np i : Int) = (s.nr i : Int) := by rw [hn]
  have hcF := rframes_any w1 (s.rr i) (s.nr i) hR.cell0
  rw [← hn] at hcF
  have hcP := read_bus w1 (s.pp i) (s.np i) o.pa o.n hP.cell0 hN2 (by omega) (by omega) hp2 (by omega)
  have hcR := rread_bus w1 (s.rr i) (s.nr i) o.pa o.n hR.cell0 (by omega) (by omega) (by omega) hp2 (by omega)
  have hcB : Calls Try.prog 10 #[.slice none 0 0, .slice none 0 0] w1 fun e W' => e = .returned (.bool true) ∧ ∃ q, W' = w1.drewN q := bytes_any w1 none none 0 0 [] (fun j x hj => by simp at hj) (fun j x hj => by simp at hj) (by simp)
  have HK2 : Hid _ := hK2.drop (ys := zs) (by intro y hy; simp [hy])
  clear hP hR hK2 hrow hn hm hwh hnz
  clear hcF
  go_wp2_with (first
    | (go_at_call 7; refine hcP.mono ?_; rintro e w2 ⟨rfl, rfl⟩)
    | (go_at_call 9; refine hcR.mono ?_; rintro e w2 ⟨rfl, rfl⟩)
    | (go_at_call 10; refine hcB.mono ?_; rintro e w2 ⟨rfl, qq, rfl⟩)
    | go_in)
  go_ret
  exact ⟨rfl, s, KS.drewN HK2.out qq, HG.out, by rw [HBX.out]; exact HSZ.out⟩

set_option maxHeartbeats 8000000 in
set_option maxRecDepth 100000 in
theorem step7busB (W0 w : World) (B tb : Nat) (s : St) (o : Op3) {zs : List (Nat × TypeId × List Value)} (hK : KS W0 w B tb s zs) (hB : B ≤ w.heap.size) (hg : s.good) (ho : o.ok W0 B) (hk : o.kind = 7) (h0 : 16384 < o.n) (h1 : o.n ≤ (s.np (w3 o.who) : Int) * 4096) (h2 : (s.np (w3 o.who) : Int) * 4096 < o.pa + 16384) :
    Calls Try.prog 5 #[.pointer (some ⟨tb, 0, none⟩), .agg #[.int .i64 o.kind, .int .i64 o.who, .int .i64 o.n, .int .u64 o.pa, .int .u32 o.v, .slice o.a o.bs.length o.cap]] w fun e w' => e = .returned (.bool true) ∧ ∃ s', KS W0 w' B tb s' zs ∧ s'.good ∧ w.heap.size ≤ w'.heap.size := by
  have hK1 := hK.add ((Turn.refl _ w).alloc (.cells #[.int .i64 o.kind, .int .i64 o.who, .int .i64 o.n, .int .u64 o.pa, .int .u32 o.v, .slice o.a o.bs.length o.cap] 35)) (Nat.le_refl _) (row_new w o.cells 35) hB
  have hwh := fun W => who_q W o.who ho.w1 ho.w2
  have hi3 := w3_lt o.who
  have htl := hK.box.lt
  generalize w3 o.who = i at *
  have cP := hK.cellP hi3
  have cR := hK.cellR hi3
  have hi3z : (i : Int) < 3 := by omega
  have hn := hg.1 i hi3
  have hm := hg.2 i hi3
  have hp2 := ho.p2
  have hv1 := ho.v1
  have hv2 := ho.v2
  have HG : Hid s.good := hg
  have HO : Hid (o.ok W0 B) := ho
  rw [hk] at hK1 ⊢
  have hc0 : o.cells = [.int .i64 7, .int .i64 o.who, .int .i64 o.n, .int .u64 o.pa, .int .u32 o.v, .slice o.a o.bs.length o.cap] := by rw [Op3.cells, hk]
  rw [hc0] at hK1
  clear hc0
  clear hg
  go_enter Try.func5, Try.ntmps5
  go_wp2
  go_quiet ((go_at_call 6; exact Calls.quiet_of_same (hwh _)))
  have hK2 := hK1.drewN nq
  have hsz : w.heap.size ≤ ((w.alloc (.cells #[.int .i64 7, .int .i64 o.who, .int .i64 o.n, .int .u64 o.pa, .int .u32 o.v, .slice o.a o.bs.length o.cap] 35)).drewN nq).heap.size := by simp
  generalize (w.alloc (.cells #[.int .i64 7, .int .i64 o.who, .int .i64 o.n, .int .u64 o.pa, .int .u32 o.v, .slice o.a o.bs.length o.cap] 35)).drewN nq = w1 at *
  generalize hbx : w.heap.size = bx at *
  have HBX : Hid (w.heap.size = bx) := hbx
  clear hbx
  have hrow := hK2.row (List.mem_cons_self ..)
  have c0 : w1.cell? ⟨bx, 0, none⟩ = some (.int .i64 7) := by rw [hrow.cell]; rfl
  have c1 : w1.cell? ⟨bx, 1, none⟩ = some (.int .i64 o.who) := by rw [hrow.cell]; rfl
  have c2 : w1.cell? ⟨bx, 2, none⟩ = some (.int .i64 o.n) := by rw [hrow.cell]; rfl
  have c3 : w1.cell? ⟨bx, 3, none⟩ = some (.int .u64 o.pa) := by rw [hrow.cell]; rfl
  have c4 : w1.cell? ⟨bx, 4, none⟩ = some (.int .u32 o.v) := by rw [hrow.cell]; rfl
  have c5 : w1.cell? ⟨bx, 5, none⟩ = some (.slice o.a o.bs.length o.cap) := by rw [hrow.cell]; rfl
  have hbxl := hrow.lt
  have HSZ : Hid (bx ≤ w1.heap.size) := hsz
  clear hK1 cP cR hK
  obtain ⟨S1, hP⟩ := hK2.pm hi3
  obtain ⟨S2, hR⟩ := hK2.rm hi3
  have hN2 := hP.n2
  have hnz : (s.np i : Int) = (s.nr i : Int) := by rw [hn]
  have hcF := rframes_any w1 (s.rr i) (s.nr i) hR.cell0
  rw [← hn] at hcF
  have hcP := read_bus w1 (s.pp i) (s.np i) o.pa 16384 hP.cell0 hN2 (by omega) (by omega) hp2 (by omega)
  have hcR := rread_bus w1 (s.rr i) (s.nr i) o.pa 16384 hR.cell0 (by omega) (by omega) (by omega) hp2 (by omega)
  have hcB : Calls Try.prog 10 #[.slice none 0 0, .slice none 0 0] w1 fun e W' => e = .returned (.bool true) ∧ ∃ q, W' = w1.drewN q := bytes_any w1 none none 0 0 [] (fun j x hj => by simp at hj) (fun j x hj => by simp at hj) (by simp)
  have HK2 : Hid _ := hK2.drop (ys := zs) (by intro y hy; simp [hy])
  clear hP hR hK2 hrow hn hm hwh hnz
  generalize s.np i = N at *
  go_wp2_with (first
    | (go_at_call 7; refine hcP.mono ?_; rintro e w2 ⟨rfl, rfl⟩)
    | (go_at_call 9; refine hcR.mono ?_; rintro e w2 ⟨rfl, rfl⟩)
    | (go_at_call 10; refine hcB.mono ?_; rintro e w2 ⟨rfl, qq, rfl⟩)
    | (go_at_call 17; refine hcF.mono ?_; rintro e w2 ⟨rfl, rfl⟩)
    | go_in)
  go_ret
  exact ⟨rfl, s, KS.drewN HK2.out qq, HG.out, by rw [HBX.out]; exact HSZ.out⟩

set_option maxHeartbeats 8000000 in
set_option maxRecDepth 100000 in
theorem step7busC (W0 w : World) (B tb : Nat) (s : St) (o : Op3) {zs : List (Nat × TypeId × List Value)} (hK : KS W0 w B tb s zs) (hB : B ≤ w.heap.size) (hg : s.good) (ho : o.ok W0 B) (hk : o.kind = 7) (h0 : 16384 < o.n) (h1 : (s.np (w3 o.who) : Int) * 4096 < o.n) :
    Calls Try.prog 5 #[.pointer (some ⟨tb, 0, none⟩), .agg #[.int .i64 o.kind, .int .i64 o.who, .int .i64 o.n, .int .u64 o.pa, .int .u32 o.v, .slice o.a o.bs.length o.cap]] w fun e w' => e = .returned (.bool true) ∧ ∃ s', KS W0 w' B tb s' zs ∧ s'.good ∧ w.heap.size ≤ w'.heap.size := by
  have hK1 := hK.add ((Turn.refl _ w).alloc (.cells #[.int .i64 o.kind, .int .i64 o.who, .int .i64 o.n, .int .u64 o.pa, .int .u32 o.v, .slice o.a o.bs.length o.cap] 35)) (Nat.le_refl _) (row_new w o.cells 35) hB
  have hwh := fun W => who_q W o.who ho.w1 ho.w2
  have hi3 := w3_lt o.who
  have htl := hK.box.lt
  generalize w3 o.who = i at *
  have cP := hK.cellP hi3
  have cR := hK.cellR hi3
  have hi3z : (i : Int) < 3 := by omega
  have hn := hg.1 i hi3
  have hm := hg.2 i hi3
  have hp2 := ho.p2
  have hv1 := ho.v1
  have hv2 := ho.v2
  have HG : Hid s.good := hg
  have HO : Hid (o.ok W0 B) := ho
  rw [hk] at hK1 ⊢
  have hc0 : o.cells = [.int .i64 7, .int .i64 o.who, .int .i64 o.n, .int .u64 o.pa, .int .u32 o.v, .slice o.a o.bs.length o.cap] := by rw [Op3.cells, hk]
  rw [hc0] at hK1
  clear hc0
  clear hg
  go_enter Try.func5, Try.ntmps5
  go_wp2
  go_quiet ((go_at_call 6; exact Calls.quiet_of_same (hwh _)))
  have hK2 := hK1.drewN nq
  have hsz : w.heap.size ≤ ((w.alloc (.cells #[.int .i64 7, .int .i64 o.who, .int .i64 o.n, .int .u64 o.pa, .int .u32 o.v, .slice o.a o.bs.length o.cap] 35)).drewN nq).heap.size := by simp
  generalize (w.alloc (.cells #[.int .i64 7, .int .i64 o.who, .int .i64 o.n, .int .u64 o.pa, .int .u32 o.v, .slice o.a o.bs.length o.cap] 35)).drewN nq = w1 at *
  generalize hbx : w.heap.size = bx at *
  have HBX : Hid (w.heap.size = bx) := hbx
  clear hbx
  have hrow := hK2.row (List.mem_cons_self ..)
  have c0 : w1.cell? ⟨bx, 0, none⟩ = some (.int .i64 7) := by rw [hrow.cell]; rfl
  have c1 : w1.cell? ⟨bx, 1, none⟩ = some (.int .i64 o.who) := by rw [hrow.cell]; rfl
  have c2 : w1.cell? ⟨bx, 2, none⟩ = some (.int .i64 o.n) := by rw [hrow.cell]; rfl
  have c3 : w1.cell? ⟨bx, 3, none⟩ = some (.int .u64 o.pa) := by rw [hrow.cell]; rfl
  have c4 : w1.cell? ⟨bx, 4, none⟩ = some (.int .u32 o.v) := by rw [hrow.cell]; rfl
  have c5 : w1.cell? ⟨bx, 5, none⟩ = some (.slice o.a o.bs.length o.cap) := by rw [hrow.cell]; rfl
  have hbxl := hrow.lt
  have HSZ : Hid (bx ≤ w1.heap.size) := hsz
  clear hK1 cP cR hK
  have hn2 := ho.n2
  obtain ⟨S1, hP⟩ := hK2.pm hi3
  obtain ⟨S2, hR⟩ := hK2.rm hi3
  have hN2 := hP.n2
  have hnz : (s.np i : Int) = (s.nr i : Int) := by rw [hn]
  have hcF := rframes_any w1 (s.rr i) (s.nr i) hR.cell0
  rw [← hn] at hcF
  have hcP := read_bus w1 (s.pp i) (s.np i) o.pa o.n hP.cell0 hN2 (by omega) (by omega) hp2 (by omega)
  have hcR := rread_bus w1 (s.rr i) (s.nr i) o.pa o.n hR.cell0 (by omega) (by omega) (by omega) hp2 (by omega)
  have hcB : Calls Try.prog 10 #[.slice none 0 0, .slice none 0 0] w1 fun e W' => e = .returned (.bool true) ∧ ∃ q, W' = w1.drewN q := bytes_any w1 none none 0 0 [] (fun j x hj => by simp at hj) (fun j x hj => by simp at hj) (by simp)
  have HK2 : Hid _ := hK2.drop (ys := zs) (by intro y hy; simp [hy])
  clear hP hR hK2 hrow hn hm hwh hnz
  generalize s.np i = N at *
  go_wp2_with (first
    | (go_at_call 7; refine hcP.mono ?_; rintro e w2 ⟨rfl, rfl⟩)
    | (go_at_call 9; refine hcR.mono ?_; rintro e w2 ⟨rfl, rfl⟩)
    | (go_at_call 10; refine hcB.mono ?_; rintro e w2 ⟨rfl, qq, rfl⟩)
    | (go_at_call 17; refine hcF.mono ?_; rintro e w2 ⟨rfl, rfl⟩)
    | go_in)
  go_ret
  exact ⟨rfl, s, KS.drewN HK2.out qq, HG.out, by rw [HBX.out]; exact HSZ.out⟩

set_option maxHeartbeats 8000000 in
set_option maxRecDepth 100000 in
theorem step7okA (W0 w : World) (B tb : Nat) (s : St) (o : Op3) {zs : List (Nat × TypeId × List Value)} (hK : KS W0 w B tb s zs) (hB : B ≤ w.heap.size) (hg : s.good) (ho : o.ok W0 B) (hk : o.kind = 7) (nn : Nat) (h0 : o.n = (nn : Int)) (h1 : nn ≤ 16384) (h2 : o.pa + nn ≤ s.np (w3 o.who) * 4096) :
    Calls Try.prog 5 #[.pointer (some ⟨tb, 0, none⟩), .agg #[.int .i64 o.kind, .int .i64 o.who, .int .i64 o.n, .int .u64 o.pa, .int .u32 o.v, .slice o.a o.bs.length o.cap]] w fun e w' => e = .returned (.bool true) ∧ ∃ s', KS W0 w' B tb s' zs ∧ s'.good ∧ w.heap.size ≤ w'.heap.size := by
  have hK1 := hK.add ((Turn.refl _ w).alloc (.cells #[.int .i64 o.kind, .int .i64 o.who, .int .i64 o.n, .int .u64 o.pa, .int .u32 o.v, .slice o.a o.bs.length o.cap] 35)) (Nat.le_refl _) (row_new w o.cells 35) hB
  have HN0 : Hid (o.n = (nn : Int)) := h0
  clear h0
  have hwh := fun W => who_q W o.who ho.w1 ho.w2
  have hi3 := w3_lt o.who
  have htl := hK.box.lt
  generalize w3 o.who = i at *
  have cP := hK.cellP hi3
  have cR := hK.cellR hi3
  have hi3z : (i : Int) < 3 := by omega
  have hn := hg.1 i hi3
  have hm := hg.2 i hi3
  have hp2 := ho.p2
  have hv1 := ho.v1
  have hv2 := ho.v2
  have HG : Hid s.good := hg
  have HO : Hid (o.ok W0 B) := ho
  rw [hk] at hK1 ⊢
  have hc0 : o.cells = [.int .i64 7, .int .i64 o.who, .int .i64 o.n, .int .u64 o.pa, .int .u32 o.v, .slice o.a o.bs.length o.cap] := by rw [Op3.cells, hk]
  rw [hc0] at hK1
  clear hc0
  clear hg
  go_enter Try.func5, Try.ntmps5
  go_wp2
  go_quiet ((go_at_call 6; exact Calls.quiet_of_same (hwh _)))
  have hK2 := hK1.drewN nq
  have hsz : w.heap.size ≤ ((w.alloc (.cells #[.int .i64 7, .int .i64 o.who, .int .i64 o.n, .int .u64 o.pa, .int .u32 o.v, .slice o.a o.bs.length o.cap] 35)).drewN nq).heap.size := by simp
  generalize (w.alloc (.cells #[.int .i64 7, .int .i64 o.who, .int .i64 o.n, .int .u64 o.pa, .int .u32 o.v, .slice o.a o.bs.length o.cap] 35)).drewN nq = w1 at *
  generalize hbx : w.heap.size = bx at *
  have HBX : Hid (w.heap.size = bx) := hbx
  clear hbx
  have hrow := hK2.row (List.mem_cons_self ..)
  have c0 : w1.cell? ⟨bx, 0, none⟩ = some (.int .i64 7) := by rw [hrow.cell]; rfl
  have c1 : w1.cell? ⟨bx, 1, none⟩ = some (.int .i64 o.who) := by rw [hrow.cell]; rfl
  have c2 : w1.cell? ⟨bx, 2, none⟩ = some (.int .i64 o.n) := by rw [hrow.cell]; rfl
  have c3 : w1.cell? ⟨bx, 3, none⟩ = some (.int .u64 o.pa) := by rw [hrow.cell]; rfl
  have c4 : w1.cell? ⟨bx, 4, none⟩ = some (.int .u32 o.v) := by rw [hrow.cell]; rfl
  have c5 : w1.cell? ⟨bx, 5, none⟩ = some (.slice o.a o.bs.length o.cap) := by rw [hrow.cell]; rfl
  have hbxl := hrow.lt
  have HSZ : Hid (bx ≤ w1.heap.size) := hsz
  clear hK1 cP cR hK
  obtain ⟨S1, hP⟩ := hK2.pm hi3
  obtain ⟨S2, hR⟩ := hK2.rm hi3
  have hN2 := hP.n2
  have hnz : (s.np i : Int) = (s.nr i : Int) := by rw [hn]
  have hcF := rframes_any w1 (s.rr i) (s.nr i) hR.cell0
  rw [← hn] at hcF
  have hnn1 : (nn : Int) ≤ 16384 := by omega
  rw [HN0.out] at c2
  have hcP : Calls Try.prog 7 #[.pointer (some ⟨s.pp i, 0, none⟩), .int .u64 o.pa, .int .i64 nn] w1 fun e W' => e = .returned (.tuple #[.slice (some ⟨w1.heap.size, 0, none⟩) nn nn, .int .i64 0]) ∧ RowAt W' w1.heap.size 5 (encB (rd (s.mp i) o.pa nn)) ∧ Turn (fun _ => False) w1 W' := read_ok w1 S1 (s.pp i) (s.np i) (s.mp i) o.pa nn hP (by omega)
  have hB1 : B ≤ w1.heap.size := by omega
  have HNM : Hid (s.np i = s.nr i ∧ s.mp i = s.mr i) := ⟨hn, hm⟩
  have HKF : Hid _ := hK2
  have hpan : o.pa + nn ≤ s.np i * 4096 := by omega
  clear hP hR hK2 hrow hn hm hwh hnz
  clear hcF
  go_wp2_with (first
    | (go_at_call 17; refine hcF.mono ?_; clear hcF; rintro e w2 ⟨rfl, rfl⟩)
    | (go_at_call 7; refine hcP.mono ?_; clear hcP; rintro e w2 ⟨rfl, hrw, ht2⟩;
       have hK3 := KS.add HKF.out ht2 (Nat.le_refl _) hrw hB1;
       obtain ⟨S3, hR3⟩ := hK3.rm hi3;
       have hcR : Calls Try.prog 9 #[.pointer (some ⟨s.rr i, 0, none⟩), .int .u64 o.pa, .int .i64 nn] w2 fun e W' => ∃ v, e = .returned (.tuple #[v, .int .i64 0]) ∧ W'.ownsRow w2.heap.size 5 1 v nn (encB (rd (s.mr i) o.pa nn)) ∧ Turn (fun _ => False) w2 W' := rread_ok w2 S3 (s.rr i) (s.nr i) (s.mr i) o.pa nn hR3 (by rw [← HNM.out.1]; exact hpan);
       rw [← HNM.out.2] at hcR;
       have d3 : w2.cell? ⟨bx, 3, none⟩ = some (.int .u64 o.pa) := (by rw [ht2.cell hbxl (fun h => h)]; exact c3);
       have HK3 : Hid _ := hK3;
       have HT2 : Hid (w1.heap.size ≤ w2.heap.size) := ht2.size;
       clear hK3 hrw ht2 hR3)
    | (go_at_call 9; refine hcR.mono ?_; clear hcR; rintro e w3 ⟨v2, rfl, hown2, ht3⟩;
       have hK4 := KS.keep HK3.out ht3;
       have hrowP := hK4.row (List.mem_cons_self ..);
       obtain ⟨a2, cp2, hv2e⟩ := slice_form hown2; subst hv2e;
       have hcB := bytes_any w3 (some ⟨w1.heap.size, 0, none⟩) a2 nn cp2 (rd (s.mp i) o.pa nn) (fun j x hj => ⟨w1.heap.size, 0, rfl, (by rw [hrowP.cell, Nat.zero_add]; exact encB_at hj)⟩) (fun j x hj => (by
           have hjn : j < nn := (by have := (List.getElem?_eq_some_iff.1 hj).1; rwa [rd_len] at this)
           rcases row_of_own hown2 with ⟨h1, h2, _⟩ | ⟨g, cp, cr, h1, h2, h3, h4, h5, h6, h7⟩
           · omega
           · cases h1
             refine ⟨g, 0, rfl, ?_⟩
             rw [h3.cell, Nat.zero_add]
             have := congrArg (fun l => l[j]?) h7
             rw [Nat.mul_one] at this
             simp only [List.getElem?_take_of_lt hjn] at this
             rw [this]
             exact encB_at hj)) (by rw [rd_len]; omega);
       rw [rd_len] at hcB;
       have HK4 : Hid _ := hK4.drop (ys := zs) (by intro y hy; simp [hy]);
       have HT3 : Hid (w1.heap.size ≤ w3.heap.size) := Nat.le_trans HT2.out ht3.size;
       clear hK4 hrowP hown2 ht3)
    | (go_at_call 10; refine hcB.mono ?_; rintro e w4 ⟨rfl, qq, rfl⟩)
    | go_in)
  go_ret
  exact ⟨rfl, s, KS.drewN HK4.out qq, HG.out, by rw [HBX.out]; exact Nat.le_trans HSZ.out HT3.out⟩

set_option maxHeartbeats 8000000 in
set_option maxRecDepth 100000 in
theorem step7okB (W0 w : World) (B tb : Nat) (s : St) (o : Op3) {zs : List (Nat × TypeId × List Value)} (hK : KS W0 w B tb s zs) (hB : B ≤ w.heap.size) (hg : s.good) (ho : o.ok W0 B) (hk : o.kind = 7) (h0 : 16384 < o.n) (h1 : o.n ≤ (s.np (w3 o.who) : Int) * 4096) (h2 : o.pa + 16384 ≤ s.np (w3 o.who) * 4096) :
    Calls Try.prog 5 #[.pointer (some ⟨tb, 0, none⟩), .agg #[.int .i64 o.kind, .int .i64 o.who, .int .i64 o.n, .int .u64 o.pa, .int .u32 o.v, .slice o.a o.bs.length o.cap]] w fun e w' => e = .returned (.bool true) ∧ ∃ s', KS W0 w' B tb s' zs ∧ s'.good ∧ w.heap.size ≤ w'.heap.size := by
  have hK1 := hK.add ((Turn.refl _ w).alloc (.cells #[.int .i64 o.kind, .int .i64 o.who, .int .i64 o.n, .int .u64 o.pa, .int .u32 o.v, .slice o.a o.bs.length o.cap] 35)) (Nat.le_refl _) (row_new w o.cells 35) hB
  have hwh := fun W => who_q W o.who ho.w1 ho.w2
  have hi3 := w3_lt o.who
  have htl := hK.box.lt
  generalize w3 o.who = i at *
  have cP := hK.cellP hi3
  have cR := hK.cellR hi3
  have hi3z : (i : Int) < 3 := by omega
  have hn := hg.1 i hi3
  have hm := hg.2 i hi3
  have hp2 := ho.p2
  have hv1 := ho.v1
  have hv2 := ho.v2
  have HG : Hid s.good := hg
  have HO : Hid (o.ok W0 B) := ho
  rw [hk] at hK1 ⊢
  have hc0 : o.cells = [.int .i64 7, .int .i64 o.who, .int .i64 o.n, .int .u64 o.pa, .int .u32 o.v, .slice o.a o.bs.length o.cap] := by rw [Op3.cells, hk]
  rw [hc0] at hK1
  clear hc0
  clear hg
  go_enter Try.func5, Try.ntmps5
  go_wp2
  go_quiet ((go_at_call 6; exact Calls.quiet_of_same (hwh _)))
  have hK2 := hK1.drewN nq
  have hsz : w.heap.size ≤ ((w.alloc (.cells #[.int .i64 7, .int .i64 o.who, .int .i64 o.n, .int .u64 o.pa, .int .u32 o.v, .slice o.a o.bs.length o.cap] 35)).drewN nq).heap.size := by simp
  generalize (w.alloc (.cells #[.int .i64 7, .int .i64 o.who, .int .i64 o.n, .int .u64 o.pa, .int .u32 o.v, .slice o.a o.bs.length o.cap] 35)).drewN nq = w1 at *
  generalize hbx : w.heap.size = bx at *
  have HBX : Hid (w.heap.size = bx) := hbx
  clear hbx
  have hrow := hK2.row (List.mem_cons_self ..)
  have c0 : w1.cell? ⟨bx, 0, none⟩ = some (.int .i64 7) := by rw [hrow.cell]; rfl
  have c1 : w1.cell? ⟨bx, 1, none⟩ = some (.int .i64 o.who) := by rw [hrow.cell]; rfl
  have c2 : w1.cell? ⟨bx, 2, none⟩ = some (.int .i64 o.n) := by rw [hrow.cell]; rfl
  have c3 : w1.cell? ⟨bx, 3, none⟩ = some (.int .u64 o.pa) := by rw [hrow.cell]; rfl
  have c4 : w1.cell? ⟨bx, 4, none⟩ = some (.int .u32 o.v) := by rw [hrow.cell]; rfl
  have c5 : w1.cell? ⟨bx, 5, none⟩ = some (.slice o.a o.bs.length o.cap) := by rw [hrow.cell]; rfl
  have hbxl := hrow.lt
  have HSZ : Hid (bx ≤ w1.heap.size) := hsz
  clear hK1 cP cR hK
  obtain ⟨S1, hP⟩ := hK2.pm hi3
  obtain ⟨S2, hR⟩ := hK2.rm hi3
  have hN2 := hP.n2
  have hnz : (s.np i : Int) = (s.nr i : Int) := by rw [hn]
  have hcF := rframes_any w1 (s.rr i) (s.nr i) hR.cell0
  rw [← hn] at hcF
  have hcP : Calls Try.prog 7 #[.pointer (some ⟨s.pp i, 0, none⟩), .int .u64 o.pa, .int .i64 16384] w1 fun e W' => e = .returned (.tuple #[.slice (some ⟨w1.heap.size, 0, none⟩) 16384 16384, .int .i64 0]) ∧ RowAt W' w1.heap.size 5 (encB (rd (s.mp i) o.pa 16384)) ∧ Turn (fun _ => False) w1 W' := read_ok w1 S1 (s.pp i) (s.np i) (s.mp i) o.pa 16384 hP (by omega)
  have hB1 : B ≤ w1.heap.size := by omega
  have HNM : Hid (s.np i = s.nr i ∧ s.mp i = s.mr i) := ⟨hn, hm⟩
  have HKF : Hid _ := hK2
  have hpan : o.pa + 16384 ≤ s.np i * 4096 := by omega
  clear hP hR hK2 hrow hn hm hwh hnz
  go_wp2_with (first
    | (go_at_call 17; refine hcF.mono ?_; clear hcF; rintro e w2 ⟨rfl, rfl⟩)
    | (go_at_call 7; refine hcP.mono ?_; clear hcP; rintro e w2 ⟨rfl, hrw, ht2⟩;
       have hK3 := KS.add HKF.out ht2 (Nat.le_refl _) hrw hB1;
       obtain ⟨S3, hR3⟩ := hK3.rm hi3;
       have hcR : Calls Try.prog 9 #[.pointer (some ⟨s.rr i, 0, none⟩), .int .u64 o.pa, .int .i64 16384] w2 fun e W' => ∃ v, e = .returned (.tuple #[v, .int .i64 0]) ∧ W'.ownsRow w2.heap.size 5 1 v 16384 (encB (rd (s.mr i) o.pa 16384)) ∧ Turn (fun _ => False) w2 W' := rread_ok w2 S3 (s.rr i) (s.nr i) (s.mr i) o.pa 16384 hR3 (by rw [← HNM.out.1]; exact hpan);
       rw [← HNM.out.2] at hcR;
       have d3 : w2.cell? ⟨bx, 3, none⟩ = some (.int .u64 o.pa) := (by rw [ht2.cell hbxl (fun h => h)]; exact c3);
       have HK3 : Hid _ := hK3;
       have HT2 : Hid (w1.heap.size ≤ w2.heap.size) := ht2.size;
       clear hK3 hrw ht2 hR3)
    | (go_at_call 9; refine hcR.mono ?_; clear hcR; rintro e w3 ⟨v2, rfl, hown2, ht3⟩;
       have hK4 := KS.keep HK3.out ht3;
       have hrowP := hK4.row (List.mem_cons_self ..);
       obtain ⟨a2, cp2, hv2e⟩ := slice_form hown2; subst hv2e;
       have hcB := bytes_any w3 (some ⟨w1.heap.size, 0, none⟩) a2 16384 cp2 (rd (s.mp i) o.pa 16384) (fun j x hj => ⟨w1.heap.size, 0, rfl, (by rw [hrowP.cell, Nat.zero_add]; exact encB_at hj)⟩) (fun j x hj => (by
           have hjn : j < 16384 := (by have := (List.getElem?_eq_some_iff.1 hj).1; rwa [rd_len] at this)
           rcases row_of_own hown2 with ⟨h1, h2, _⟩ | ⟨g, cp, cr, h1, h2, h3, h4, h5, h6, h7⟩
           · omega
           · cases h1
             refine ⟨g, 0, rfl, ?_⟩
             rw [h3.cell, Nat.zero_add]
             have := congrArg (fun l => l[j]?) h7
             rw [Nat.mul_one] at this
             simp only [List.getElem?_take_of_lt hjn] at this
             rw [this]
             exact encB_at hj)) (by rw [rd_len]; omega);
       rw [rd_len] at hcB;
       have HK4 : Hid _ := hK4.drop (ys := zs) (by intro y hy; simp [hy]);
       have HT3 : Hid (w1.heap.size ≤ w3.heap.size) := Nat.le_trans HT2.out ht3.size;
       clear hK4 hrowP hown2 ht3)
    | (go_at_call 10; refine hcB.mono ?_; rintro e w4 ⟨rfl, qq, rfl⟩)
    | go_in)
  go_ret
  exact ⟨rfl, s, KS.drewN HK4.out qq, HG.out, by rw [HBX.out]; exact Nat.le_trans HSZ.out HT3.out⟩

theorem step7 (W0 w : World) (B tb : Nat) (s : St) (o : Op3) {zs : List (Nat × TypeId × List Value)} (hK : KS W0 w B tb s zs) (hB : B ≤ w.heap.size) (hg : s.good) (ho : o.ok W0 B) (hk : o.kind = 7) :
    Calls Try.prog 5 #[.pointer (some ⟨tb, 0, none⟩), .agg #[.int .i64 o.kind, .int .i64 o.who, .int .i64 o.n, .int .u64 o.pa, .int .u32 o.v, .slice o.a o.bs.length o.cap]] w fun e w' => e = .returned (.bool true) ∧ ∃ s', KS W0 w' B tb s' zs ∧ s'.good ∧ w.heap.size ≤ w'.heap.size := by
  by_cases h0 : o.n < 0
  · exact step7neg W0 w B tb s o hK hB hg ho hk h0
  · by_cases h1 : o.n ≤ 16384
    · by_cases h2 : (s.np (w3 o.who) : Int) * 4096 < o.pa + o.n
      · exact step7busA W0 w B tb s o hK hB hg ho hk (by omega) h1 h2
      · exact step7okA W0 w B tb s o hK hB hg ho hk o.n.toNat (by omega) (by omega) (by omega)
    · by_cases h2 : o.n ≤ (s.np (w3 o.who) : Int) * 4096
      · by_cases h3 : (s.np (w3 o.who) : Int) * 4096 < o.pa + 16384
        · exact step7busB W0 w B tb s o hK hB hg ho hk (by omega) h2 h3
        · exact step7okB W0 w B tb s o hK hB hg ho hk (by omega) h2 (by omega)
      · exact step7busC W0 w B tb s o hK hB hg ho hk (by omega) (by omega)
end Go.Proofs.Ytlfgnbjioofplab
