import Derived.Test.YtlfgnbjioofplabWh
import Derived.Test.YtlfgnbjioofplabW1
namespace Go.Proofs.Ytlfgnbjioofplab
open Go.RowKit
set_option linter.unusedVariables false

set_option maxHeartbeats 8000000 in
set_option maxRecDepth 100000 in
theorem step1 (W0 w : World) (B tb : Nat) (s : St) (o : Op3) {zs : List (Nat × TypeId × List Value)} (hK : KS W0 w B tb s zs) (hB : B ≤ w.heap.size) (hg : s.good) (ho : o.ok W0 B) (hk : o.kind = 1) :
    Calls Try.prog 5 #[.pointer (some ⟨tb, 0, none⟩), .agg #[.int .i64 o.kind, .int .i64 o.who, .int .i64 o.n, .int .u64 o.pa, .int .u32 o.v, .slice o.a o.bs.length o.cap]] w fun e w' => e = .returned (.bool true) ∧ ∃ s', KS W0 w' B tb s' zs ∧ s'.good ∧ w.heap.size ≤ w'.heap.size := by
  have hK1 := hK.add ((Turn.refl _ w).alloc (.cells #[.int .i64 o.kind, .int .i64 o.who, .int .i64 o.n, .int .u64 o.pa, .int .u32 o.v, .slice o.a o.bs.length o.cap] 35)) (Nat.le_refl _) (row_new w o.cells 35) hB
  have hwh := fun W => who_q W o.who ho.w1 ho.w2
  have hi3 := w3_lt o.who
  have htl := hK.box.lt
  generalize w3 o.who = i at *
  have cP := hK.cellP hi3
  have cR := hK.cellR hi3
  have hi3z : (i : Int) < 3 := by omega
  have hn := hg.1 i hi3
  have hm := hg.2 i hi3
  have hp2 := ho.p2
  have hv1 := ho.v1
  have hv2 := ho.v2
  have HG : Hid s.good := hg
  have HO : Hid (o.ok W0 B) := ho
  rw [hk] at hK1 ⊢
  have hc0 : o.cells = [.int .i64 1, .int .i64 o.who, .int .i64 o.n, .int .u64 o.pa, .int .u32 o.v, .slice o.a o.bs.length o.cap] := by rw [Op3.cells, hk]
  rw [hc0] at hK1
  clear hc0
  clear hg
  go_enter Try.func5, Try.ntmps5
  go_wp2
  go_quiet ((go_at_call 6; exact Calls.quiet_of_same (hwh _)))
  have hK2 := hK1.drewN nq
  have hsz : w.heap.size ≤ ((w.alloc (.cells #[.int .i64 1, .int .i64 o.who, .int .i64 o.n, .int .u64 o.pa, .int .u32 o.v, .slice o.a o.bs.length o.cap] 35)).drewN nq).heap.size := by simp
  generalize (w.alloc (.cells #[.int .i64 1, .int .i64 o.who, .int .i64 o.n, .int .u64 o.pa, .int .u32 o.v, .slice o.a o.bs.length o.cap] 35)).drewN nq = w1 at *
  generalize hbx : w.heap.size = bx at *
  have HBX : Hid (w.heap.size = bx) := hbx
  clear hbx
  have hrow := hK2.row (List.mem_cons_self ..)
  have c0 : w1.cell? ⟨bx, 0, none⟩ = some (.int .i64 1) := by rw [hrow.cell]; rfl
  have c1 : w1.cell? ⟨bx, 1, none⟩ = some (.int .i64 o.who) := by rw [hrow.cell]; rfl
  have c2 : w1.cell? ⟨bx, 2, none⟩ = some (.int .i64 o.n) := by rw [hrow.cell]; rfl
  have c3 : w1.cell? ⟨bx, 3, none⟩ = some (.int .u64 o.pa) := by rw [hrow.cell]; rfl
  have c4 : w1.cell? ⟨bx, 4, none⟩ = some (.int .u32 o.v) := by rw [hrow.cell]; rfl
  have c5 : w1.cell? ⟨bx, 5, none⟩ = some (.slice o.a o.bs.length o.cap) := by rw [hrow.cell]; rfl
  have hbxl := hrow.lt
  have HSZ : Hid (bx ≤ w1.heap.size) := hsz
  clear hK1 cP cR hK
  have hcw := words1 W0 w1 B tb s o (hK2.drop (ys := zs) (by intro y hy; simp [hy])) (by omega) HG.out HO.out hk
  rw [hk] at hcw
  clear hK2 hrow hn hm hwh
  go_wp2_with (first
    | (go_at_call 16; refine hcw.mono ?_; rintro e w2 ⟨rfl, hfin⟩)
    | go_in)
  go_ret
  obtain ⟨s', f1, f2, f3⟩ := hfin
  exact ⟨rfl, s', f1, f2, by rw [HBX.out]; exact Nat.le_trans HSZ.out f3⟩
end Go.Proofs.Ytlfgnbjioofplab
