import Derived.Test.YtlfgnbjioofplabWh
namespace Go.Proofs.Ytlfgnbjioofplab
open Go.RowKit
set_option linter.unusedVariables false

set_option maxHeartbeats 8000000 in
set_option maxRecDepth 100000 in
theorem words2 (W0 w : World) (B tb : Nat) (s : St) (o : Op3) {zs : List (Nat × TypeId × List Value)} (hK : KS W0 w B tb s zs) (hB : B ≤ w.heap.size) (hg : s.good) (ho : o.ok W0 B) (hk : o.kind = 2) :
    Calls Try.prog 16 #[.pointer (some ⟨tb, 0, none⟩), .agg #[.int .i64 o.kind, .int .i64 o.who, .int .i64 o.n, .int .u64 o.pa, .int .u32 o.v, .slice o.a o.bs.length o.cap]] w fun e w' => e = .returned (.bool true) ∧ ∃ s', KS W0 w' B tb s' zs ∧ s'.good ∧ w.heap.size ≤ w'.heap.size := by
  have hK1 := hK.add ((Turn.refl _ w).alloc (.cells #[.int .i64 o.kind, .int .i64 o.who, .int .i64 o.n, .int .u64 o.pa, .int .u32 o.v, .slice o.a o.bs.length o.cap] 35)) (Nat.le_refl _) (row_new w o.cells 35) hB
  have hwh := fun W => who_q W o.who ho.w1 ho.w2
  have hi3 := w3_lt o.who
  have htl := hK.box.lt
  generalize w3 o.who = i at *
  have cP := hK.cellP hi3
  have cR := hK.cellR hi3
  have hi3z : (i : Int) < 3 := by omega
  have hn := hg.1 i hi3
  have hm := hg.2 i hi3
  have hp2 := ho.p2
  have hv1 := ho.v1
  have hv2 := ho.v2
  have HG : Hid s.good := hg
  rw [hk] at hK1 ⊢
  have hc0 : o.cells = [.int .i64 2, .int .i64 o.who, .int .i64 o.n, .int .u64 o.pa, .int .u32 o.v, .slice o.a o.bs.length o.cap] := by rw [Op3.cells, hk]
  rw [hc0] at hK1
  clear hg hc0
  go_enter Try.func16, Try.ntmps16
  go_wp2
  go_quiet ((go_at_call 6; exact Calls.quiet_of_same (hwh _)))
  have hK2 := hK1.drewN nq
  have hsz : w.heap.size ≤ ((w.alloc (.cells #[.int .i64 2, .int .i64 o.who, .int .i64 o.n, .int .u64 o.pa, .int .u32 o.v, .slice o.a o.bs.length o.cap] 35)).drewN nq).heap.size := by simp
  generalize (w.alloc (.cells #[.int .i64 2, .int .i64 o.who, .int .i64 o.n, .int .u64 o.pa, .int .u32 o.v, .slice o.a o.bs.length o.cap] 35)).drewN nq = w1 at *
  generalize hbx : w.heap.size = bx at *
  have HBX : Hid (w.heap.size = bx) := hbx
  clear hbx
  have hrow := hK2.row (List.mem_cons_self ..)
  have c0 : w1.cell? ⟨bx, 0, none⟩ = some (.int .i64 2) := by rw [hrow.cell]; rfl
  have c3 : w1.cell? ⟨bx, 3, none⟩ = some (.int .u64 o.pa) := by rw [hrow.cell]; rfl
  have c4 : w1.cell? ⟨bx, 4, none⟩ = some (.int .u32 o.v) := by rw [hrow.cell]; rfl
  clear hK1 cP cR hK hwh
  obtain ⟨S1, hP⟩ := hK2.pm hi3
  obtain ⟨S2, hR⟩ := hK2.rm hi3
  have hcP := half_any w1 S1 (s.pp i) (s.np i) (s.mp i) o.pa hP hp2
  have hcR : Calls Try.prog 33 #[.pointer (some ⟨s.rr i, 0, none⟩), .int .u64 o.pa, .int .i64 2] w1 fun e W' => e = .returned (.tuple #[.int .u64 (valV (s.np i) (s.mp i) o.pa 2), .int .i64 (errV (s.np i) o.pa 2)]) ∧ w1 = W' := by
    have := rGet_any w1 S2 (s.rr i) (s.nr i) (s.mr i) o.pa 2 hR (by omega) hp2
    rw [← hn, ← hm] at this
    exact this
  have hb := valV_bd (N := s.np i) hP.byts o.pa 2
  simp only [Int.reducePow] at hb
  obtain ⟨hb0, hb1⟩ := hb
  generalize valV (s.np i) (s.mp i) o.pa 2 = x at *
  generalize errV (s.np i) o.pa 2 = er at *
  have HK2 : Hid _ := hK2.drop (ys := zs) (by intro y hy; simp [hy])
  clear hP hR hK2 hrow hn hm
  go_wp2_with (first
    | (go_at_call 34; refine hcP.mono ?_; rintro e w2 ⟨rfl, rfl⟩)
    | (go_at_call 33; refine hcR.mono ?_; rintro e w2 ⟨rfl, rfl⟩)
    | go_in)
  go_ret
  exact ⟨rfl, s, HK2.out, HG.out, by rw [HBX.out]; exact hsz⟩
end Go.Proofs.Ytlfgnbjioofplab
