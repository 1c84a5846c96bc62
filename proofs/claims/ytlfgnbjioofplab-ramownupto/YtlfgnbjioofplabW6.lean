import Derived.Test.YtlfgnbjioofplabWh
namespace Go.Proofs.Ytlfgnbjioofplab
open Go.RowKit
set_option linter.unusedVariables false

set_option maxHeartbeats 8000000 in
set_option maxRecDepth 100000 in
theorem words6 (W0 w : World) (B tb : Nat) (s : St) (o : Op3) {zs : List (Nat × TypeId × List Value)} (hK : KS W0 w B tb s zs) (hB : B ≤ w.heap.size) (hg : s.good) (ho : o.ok W0 B) (hk : o.kind = 6) :
    Calls Try.prog 16 #[.pointer (some ⟨tb, 0, none⟩), .agg #[.int .i64 o.kind, .int .i64 o.who, .int .i64 o.n, .int .u64 o.pa, .int .u32 o.v, .slice o.a o.bs.length o.cap]] w fun e w' => e = .returned (.bool true) ∧ ∃ s', KS W0 w' B tb s' zs ∧ s'.good ∧ w.heap.size ≤ w'.heap.size := by
  have hK1 := hK.add ((Turn.refl _ w).alloc (.cells #[.int .i64 o.kind, .int .i64 o.who, .int .i64 o.n, .int .u64 o.pa, .int .u32 o.v, .slice o.a o.bs.length o.cap] 35)) (Nat.le_refl _) (row_new w o.cells 35) hB
  have hwh := fun W => who_q W o.who ho.w1 ho.w2
  have hi3 := w3_lt o.who
  have htl := hK.box.lt
  generalize w3 o.who = i at *
  have cP := hK.cellP hi3
  have cR := hK.cellR hi3
  have hi3z : (i : Int) < 3 := by omega
  have hn := hg.1 i hi3
  have hm := hg.2 i hi3
  have hp2 := ho.p2
  have hv1 := ho.v1
  have hv2 := ho.v2
  have HG : Hid s.good := hg
  rw [hk] at hK1 ⊢
  have hc0 : o.cells = [.int .i64 6, .int .i64 o.who, .int .i64 o.n, .int .u64 o.pa, .int .u32 o.v, .slice o.a o.bs.length o.cap] := by rw [Op3.cells, hk]
  rw [hc0] at hK1
  clear hg hc0
  go_enter Try.func16, Try.ntmps16
  go_wp2
  go_quiet ((go_at_call 6; exact Calls.quiet_of_same (hwh _)))
  have hK2 := hK1.drewN nq
  have hsz : w.heap.size ≤ ((w.alloc (.cells #[.int .i64 6, .int .i64 o.who, .int .i64 o.n, .int .u64 o.pa, .int .u32 o.v, .slice o.a o.bs.length o.cap] 35)).drewN nq).heap.size := by simp
  generalize (w.alloc (.cells #[.int .i64 6, .int .i64 o.who, .int .i64 o.n, .int .u64 o.pa, .int .u32 o.v, .slice o.a o.bs.length o.cap] 35)).drewN nq = w1 at *
  generalize hbx : w.heap.size = bx at *
  have HBX : Hid (w.heap.size = bx) := hbx
  clear hbx
  have hrow := hK2.row (List.mem_cons_self ..)
  have c0 : w1.cell? ⟨bx, 0, none⟩ = some (.int .i64 6) := by rw [hrow.cell]; rfl
  have c3 : w1.cell? ⟨bx, 3, none⟩ = some (.int .u64 o.pa) := by rw [hrow.cell]; rfl
  have c4 : w1.cell? ⟨bx, 4, none⟩ = some (.int .u32 o.v) := by rw [hrow.cell]; rfl
  clear hK1 cP cR hK hwh
  have hKP := fun (ww : World) (hk : KS W0 ww B tb s ((bx, 35, [.int .i64 6, .int .i64 o.who, .int .i64 o.n, .int .u64 o.pa, .int .u32 o.v, .slice o.a o.bs.length o.cap]) :: zs)) (hb : B ≤ ww.heap.size) => ksP (F := 40) (args := #[.pointer (some ⟨s.pp i, 0, none⟩), .int .u64 o.pa, .int .u32 o.v]) hk hb hi3 (setV (s.np i) (s.mp i) o.pa 4 o.v) (.returned (.int .i64 (errV (s.np i) o.pa 4))) (fun S hp _ _ => setWord_any ww S (s.pp i) (s.np i) (s.mp i) o.pa o.v hp hp2 (by omega) (by omega))
  have hKR := fun (ww : World) (hk : KS W0 ww B tb (s.upP i (setV (s.np i) (s.mp i) o.pa 4 o.v)) ((bx, 35, [.int .i64 6, .int .i64 o.who, .int .i64 o.n, .int .u64 o.pa, .int .u32 o.v, .slice o.a o.bs.length o.cap]) :: zs)) (hb : B ≤ ww.heap.size) => ksR (F := 41) (args := #[.pointer (some ⟨s.rr i, 0, none⟩), .int .u64 o.pa, .int .u32 o.v]) hk hb hi3 (setV (s.np i) (s.mp i) o.pa 4 o.v) (.returned (.int .i64 (errV (s.np i) o.pa 4))) (fun S hp _ _ => by
    have := rSetWord_any ww S (s.rr i) (s.nr i) (s.mr i) o.pa o.v hp hp2 (by omega) (by omega)
    rw [← hn, ← hm] at this
    show Calls _ _ _ _ fun e w' => _ ∧ RM w' _ (s.rr i) (s.nr i) _ ∧ _
    rw [← hn]
    exact this)
  have HGD : Hid ((s.upP i (setV (s.np i) (s.mp i) o.pa 4 o.v)).upR i (setV (s.np i) (s.mp i) o.pa 4 o.v)).good := good_up HG.out i _
  generalize setV (s.np i) (s.mp i) o.pa 4 o.v = m' at *
  generalize errV (s.np i) o.pa 4 = er at *
  have HSZ : Hid (bx ≤ w1.heap.size) := hsz
  have hB1 : B ≤ w1.drew.heap.size := by show B ≤ w1.heap.size; omega
  have hK := hK2.keep (w' := w1.drew) ⟨rfl, rfl, rfl, Nat.le_refl _, fun _ _ _ => rfl⟩
  have hbxl := hrow.lt
  clear hn hm hK2 hrow hsz
  go_wp2
  go_region_held3 (fun w' => w'.cell? ⟨bx, 3, none⟩ = some (.int .u64 o.pa) ∧ w'.cell? ⟨bx, 4, none⟩ = some (.int .u32 o.v)) (first | go_keep | exact ⟨by rw [(hK.row (List.mem_cons_self ..)).cell]; rfl, by rw [(hK.row (List.mem_cons_self ..)).cell]; rfl⟩)
    ((first
      | (go_at_call 40; refine (hKP _ hK hB1).mono ?_; rintro e w2 ⟨rfl, hK, hs2⟩)
      | (go_at_call 41; refine (hKR _ hK (Nat.le_trans hB1 hs2)).mono ?_; rintro e w3 ⟨rfl, hK, hs3⟩)))
  go_wp2
  go_ret
  exact ⟨rfl, _, hK.drop (by intro y hy; simp [hy]), HGD.out, by rw [HBX.out]; exact Nat.le_trans HSZ.out (Nat.le_trans hs2 hs3)⟩
end Go.Proofs.Ytlfgnbjioofplab
