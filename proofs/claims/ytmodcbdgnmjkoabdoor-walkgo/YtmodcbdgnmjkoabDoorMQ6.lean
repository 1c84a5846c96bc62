import Derived.Test.YtmodcbdgnmjkoabDoorMQ5
namespace Go.Proofs.YtmodcbdgnmjkoabDoor
open Go.RowKit
open Mm (Turn gr PM RM valV errV Byts)
set_option linter.unusedVariables false
set_option linter.unusedSimpArgs false
theorem Fa.not_z {F : Fa} (h : ¬ F.k = 0) : F.same fZ = false := by
  cases hq : F.same fZ with
  | false => rfl
  | true => exact absurd (by rw [(Fa.same_iff _ _).1 hq]; rfl) h
theorem ch_z {t : Tra} {c : Ctx} {priv : Bool} {k : Int} (h : (chF t c priv k).k = 0) : chF t c priv k = fZ := by
  unfold chF at h ⊢
  split
  · rename_i h1
    rw [if_pos h1] at h
    split
    · rfl
    · rename_i h2
      rw [if_neg h2] at h
      exact absurd h h2
  · rfl
set_option maxRecDepth 100000 in
set_option maxHeartbeats 4000000 in
theorem vgo_bad1 (c : Ctx) (va : Int) (priv : Bool) (k : Int) (w : World) (rv : Value) (U : Tra) (F : Fa) (hk : ∀ w, (Op.equalIn 10000 32 (.agg #[.int .i64 F.k, .int .i64 F.l, .int .i64 F.d]) (.agg #[.int .i64 0, .int .i64 0, .int .i64 0])).run Tryd.prog w = .ok false w) (hv : 0 ≤ va ∧ va < 4294967296) (ht : TW w)
    (HC : Hid (Calls Tryd.prog 16 #[rv, .agg #[.bool c.on, .bool c.tre, .bool c.afe, .int .i64 c.n, .bool c.pd0, .bool c.pd1, .int .u64 c.b0, .int .u64 c.b1, .int .u32 c.dacr, .int .u32 c.prrr, .int .u32 c.nmrr, .int .i64 c.asid], .int .u32 va] ((w.alloc (.cells #[.bool c.on, .bool c.tre, .bool c.afe, .int .i64 c.n, .bool c.pd0, .bool c.pd1, .int .u64 c.b0, .int .u64 c.b1, .int .u32 c.dacr, .int .u32 c.prrr, .int .u32 c.nmrr, .int .i64 c.asid] 26)).alloc (.cells #[.int .i64 0, .int .i64 0, .int .i64 0] 32)) fun e w' => e = .returned (.tuple #[.agg #[.int .i64 U.size, .int .u32 U.va, .int .u64 U.pa, .int .i64 U.dom, .int .i64 U.ap, .int .u32 U.bits, .bool U.ng, .bool U.xn], .agg #[.int .i64 F.k, .int .i64 F.l, .int .i64 F.d]]) ∧ Below ((w.alloc (.cells #[.bool c.on, .bool c.tre, .bool c.afe, .int .i64 c.n, .bool c.pd0, .bool c.pd1, .int .u64 c.b0, .int .u64 c.b1, .int .u32 c.dacr, .int .u32 c.prrr, .int .u32 c.nmrr, .int .i64 c.asid] 26)).alloc (.cells #[.int .i64 0, .int .i64 0, .int .i64 0] 32)).heap.size ((w.alloc (.cells #[.bool c.on, .bool c.tre, .bool c.afe, .int .i64 c.n, .bool c.pd0, .bool c.pd1, .int .u64 c.b0, .int .u64 c.b1, .int .u32 c.dacr, .int .u32 c.prrr, .int .u32 c.nmrr, .int .i64 c.asid] 26)).alloc (.cells #[.int .i64 0, .int .i64 0, .int .i64 0] 32)) w')) :
    Calls Tryd.prog 7 #[rv, .agg #[.bool c.on, .bool c.tre, .bool c.afe, .int .i64 c.n, .bool c.pd0, .bool c.pd1, .int .u64 c.b0, .int .u64 c.b1, .int .u32 c.dacr, .int .u32 c.prrr, .int .u32 c.nmrr, .int .i64 c.asid], .int .u32 va, .bool priv, .int .i64 k] w fun e w' => e = .returned (.tuple #[.int .u64 0, .agg #[.int .i64 F.k, .int .i64 F.l, .int .i64 F.d]]) ∧ Below w.heap.size w w' := by
  have HB := hidW (Below.step (below_new w (.cells #[.bool c.on, .bool c.tre, .bool c.afe, .int .i64 c.n, .bool c.pd0, .bool c.pd1, .int .u64 c.b0, .int .u64 c.b1, .int .u32 c.dacr, .int .u32 c.prrr, .int .u32 c.nmrr, .int .i64 c.asid] 26)) (below_new _ (.cells #[.int .i64 0, .int .i64 0, .int .i64 0] 32)))
  have HT := hidW (ht.below HB.out)
  have HX : Hid (Bl ((w.alloc (.cells #[.bool c.on, .bool c.tre, .bool c.afe, .int .i64 c.n, .bool c.pd0, .bool c.pd1, .int .u64 c.b0, .int .u64 c.b1, .int .u32 c.dacr, .int .u32 c.prrr, .int .u32 c.nmrr, .int .i64 c.asid] 26)).alloc (.cells #[.int .i64 0, .int .i64 0, .int .i64 0] 32)) w.heap.size 26 [.bool c.on, .bool c.tre, .bool c.afe, .int .i64 c.n, .bool c.pd0, .bool c.pd1, .int .u64 c.b0, .int .u64 c.b1, .int .u32 c.dacr, .int .u32 c.prrr, .int .u32 c.nmrr, .int .i64 c.asid]) := (Bl.new _ _ _).below (below_new _ _)
  have HR : Hid (Bl ((w.alloc (.cells #[.bool c.on, .bool c.tre, .bool c.afe, .int .i64 c.n, .bool c.pd0, .bool c.pd1, .int .u64 c.b0, .int .u64 c.b1, .int .u32 c.dacr, .int .u32 c.prrr, .int .u32 c.nmrr, .int .i64 c.asid] 26)).alloc (.cells #[.int .i64 0, .int .i64 0, .int .i64 0] 32)) (w.heap.size + 1) 32 [.int .i64 0, .int .i64 0, .int .i64 0]) := Bl.new1 _ _ _ _
  have hsz : ((w.alloc (.cells #[.bool c.on, .bool c.tre, .bool c.afe, .int .i64 c.n, .bool c.pd0, .bool c.pd1, .int .u64 c.b0, .int .u64 c.b1, .int .u32 c.dacr, .int .u32 c.prrr, .int .u32 c.nmrr, .int .i64 c.asid] 26)).alloc (.cells #[.int .i64 0, .int .i64 0, .int .i64 0] 32)).heap.size = w.heap.size + 1 + 1 := by simp
  have c0 := HX.out.cell
  clear ht
  go_enter Tryd.func7, Tryd.ntmps7
  go_wp2_with fail
  generalize hw0 : ((w.alloc (.cells #[.bool c.on, .bool c.tre, .bool c.afe, .int .i64 c.n, .bool c.pd0, .bool c.pd1, .int .u64 c.b0, .int .u64 c.b1, .int .u32 c.dacr, .int .u32 c.prrr, .int .u32 c.nmrr, .int .i64 c.asid] 26)).alloc (.cells #[.int .i64 0, .int .i64 0, .int .i64 0] 32)) = w0 at *
  clear hw0
  go_at_call 16
  refine HC.out.mono ?_
  rintro e v1 ⟨rfl, hb⟩
  have hb' := Below.step hb (Below.step (below_new v1 (.cells #[.int .i64 U.size, .int .u32 U.va, .int .u64 U.pa, .int .i64 U.dom, .int .i64 U.ap, .int .u32 U.bits, .bool U.ng, .bool U.xn] 49)) (below_new _ (.cells #[.int .i64 F.k, .int .i64 F.l, .int .i64 F.d] 32)))
  have HT1 := hidW (HT.out.below hb')
  have HX1 := hidW (HX.out.below hb')
  have HR1 := hidW (HR.out.below hb')
  have HB1 := hidW (Below.step HB.out hb')
  have hz := hb.size
  have HU : Hid (Bl ((v1.alloc (.cells #[.int .i64 U.size, .int .u32 U.va, .int .u64 U.pa, .int .i64 U.dom, .int .i64 U.ap, .int .u32 U.bits, .bool U.ng, .bool U.xn] 49)).alloc (.cells #[.int .i64 F.k, .int .i64 F.l, .int .i64 F.d] 32)) v1.heap.size 49 [.int .i64 U.size, .int .u32 U.va, .int .u64 U.pa, .int .i64 U.dom, .int .i64 U.ap, .int .u32 U.bits, .bool U.ng, .bool U.xn]) := (Bl.new _ _ _).below (below_new _ _)
  have HV : Hid (Bl ((v1.alloc (.cells #[.int .i64 U.size, .int .u32 U.va, .int .u64 U.pa, .int .i64 U.dom, .int .i64 U.ap, .int .u32 U.bits, .bool U.ng, .bool U.xn] 49)).alloc (.cells #[.int .i64 F.k, .int .i64 F.l, .int .i64 F.d] 32)) (v1.heap.size + 1) 32 [.int .i64 F.k, .int .i64 F.l, .int .i64 F.d]) := Bl.new1 _ _ _ _
  clear hb hb' HT HX HR HB HC c0
  have cU := HU.out.cell
  have cV := HV.out.cell
  have cX := HX1.out.cell
  have fV := HV.out.frozen
  have lV := HV.out.lt
  go_wp2_with fail
  generalize hx : w.heap.size = x at *
  generalize hww : (v1.alloc (.cells #[.int .i64 U.size, .int .u32 U.va, .int .u64 U.pa, .int .i64 U.dom, .int .i64 U.ap, .int .u32 U.bits, .bool U.ng, .bool U.xn] 49)).alloc (.cells #[.int .i64 F.k, .int .i64 F.l, .int .i64 F.d] 32) = w2 at *
  clear hww
  generalize hr : x + 1 = r at *
  generalize hy : v1.heap.size = y at *
  generalize hq : y + 1 = q at *
  have h1 : ¬ y = r := by omega
  have h2 : ¬ q = r := by omega
  have h3 : ¬ y = q := by omega
  have h4 : x ≤ q := by omega
  have h5 : x ≤ r := by omega
  clear hz hsz
  have HP0 : Hid (w2.drew.cell? ⟨q, 0, none⟩ = some (.int .i64 F.k)) := HV.out.drew.cell 0
  have HS0 : Hid (∀ v0 v1 v2, (((w2.setCell ⟨r, 0, none⟩ v0).setCell ⟨r, 1, none⟩ v1).setCell ⟨r, 2, none⟩ v2).drew.cell? ⟨q, 0, none⟩ = some (.int .i64 F.k)) := fun v0 v1 v2 => (Bl.keep3 HV.out h2 v0 v1 v2).drew.cell 0
  have HP1 : Hid (w2.drew.cell? ⟨q, 1, none⟩ = some (.int .i64 F.l)) := HV.out.drew.cell 1
  have HS1 : Hid (∀ v0 v1 v2, (((w2.setCell ⟨r, 0, none⟩ v0).setCell ⟨r, 1, none⟩ v1).setCell ⟨r, 2, none⟩ v2).drew.cell? ⟨q, 1, none⟩ = some (.int .i64 F.l)) := fun v0 v1 v2 => (Bl.keep3 HV.out h2 v0 v1 v2).drew.cell 1
  have HP2 : Hid (w2.drew.cell? ⟨q, 2, none⟩ = some (.int .i64 F.d)) := HV.out.drew.cell 2
  have HS2 : Hid (∀ v0 v1 v2, (((w2.setCell ⟨r, 0, none⟩ v0).setCell ⟨r, 1, none⟩ v1).setCell ⟨r, 2, none⟩ v2).drew.cell? ⟨q, 2, none⟩ = some (.int .i64 F.d)) := fun v0 v1 v2 => (Bl.keep3 HV.out h2 v0 v1 v2).drew.cell 2
  have cR := HR1.out.cell
  have fR := HR1.out.frozen
  have lR := HR1.out.lt
  go_region_held3 (fun w' => w'.cell? ⟨q, 0, none⟩ = some (.int .i64 F.k) ∧ w'.cell? ⟨q, 1, none⟩ = some (.int .i64 F.l) ∧ w'.cell? ⟨q, 2, none⟩ = some (.int .i64 F.d)) (first | (with_reducible exact ⟨HP0.out, HP1.out, HP2.out⟩) | (with_reducible exact ⟨HS0.out _ _ _, HS1.out _ _ _, HS2.out _ _ _⟩)) (first | fail)
  go_wp2
  refine bodyPost_ret (v := .tuple #[.int .u64 0, .agg #[.int .i64 F.k, .int .i64 F.l, .int .i64 F.d]]) (by simp [results, Tryd.results7, go_sem, cR, fR, lR]) rfl ⟨rfl, ?_⟩
  rw [hx]
  exact below_drew (Below.setCell (Below.setCell (Below.setCell HB1.out h5 _) h5 _) h5 _)
set_option maxRecDepth 100000 in
set_option maxHeartbeats 4000000 in
theorem vgo_bad2 (c : Ctx) (va : Int) (priv : Bool) (k : Int) (w : World) (rv : Value) (U : Tra) (F G : Fa) (hk : ∀ w, (Op.equalIn 10000 32 (.agg #[.int .i64 F.k, .int .i64 F.l, .int .i64 F.d]) (.agg #[.int .i64 0, .int .i64 0, .int .i64 0])).run Tryd.prog w = .ok true w) (hg : ∀ w, (Op.equalIn 10000 32 (.agg #[.int .i64 G.k, .int .i64 G.l, .int .i64 G.d]) (.agg #[.int .i64 0, .int .i64 0, .int .i64 0])).run Tryd.prog w = .ok false w) (hv : 0 ≤ va ∧ va < 4294967296) (ht : TW w)
    (HC : Hid (Calls Tryd.prog 16 #[rv, .agg #[.bool c.on, .bool c.tre, .bool c.afe, .int .i64 c.n, .bool c.pd0, .bool c.pd1, .int .u64 c.b0, .int .u64 c.b1, .int .u32 c.dacr, .int .u32 c.prrr, .int .u32 c.nmrr, .int .i64 c.asid], .int .u32 va] ((w.alloc (.cells #[.bool c.on, .bool c.tre, .bool c.afe, .int .i64 c.n, .bool c.pd0, .bool c.pd1, .int .u64 c.b0, .int .u64 c.b1, .int .u32 c.dacr, .int .u32 c.prrr, .int .u32 c.nmrr, .int .i64 c.asid] 26)).alloc (.cells #[.int .i64 0, .int .i64 0, .int .i64 0] 32)) fun e w' => e = .returned (.tuple #[.agg #[.int .i64 U.size, .int .u32 U.va, .int .u64 U.pa, .int .i64 U.dom, .int .i64 U.ap, .int .u32 U.bits, .bool U.ng, .bool U.xn], .agg #[.int .i64 F.k, .int .i64 F.l, .int .i64 F.d]]) ∧ Below ((w.alloc (.cells #[.bool c.on, .bool c.tre, .bool c.afe, .int .i64 c.n, .bool c.pd0, .bool c.pd1, .int .u64 c.b0, .int .u64 c.b1, .int .u32 c.dacr, .int .u32 c.prrr, .int .u32 c.nmrr, .int .i64 c.asid] 26)).alloc (.cells #[.int .i64 0, .int .i64 0, .int .i64 0] 32)).heap.size ((w.alloc (.cells #[.bool c.on, .bool c.tre, .bool c.afe, .int .i64 c.n, .bool c.pd0, .bool c.pd1, .int .u64 c.b0, .int .u64 c.b1, .int .u32 c.dacr, .int .u32 c.prrr, .int .u32 c.nmrr, .int .i64 c.asid] 26)).alloc (.cells #[.int .i64 0, .int .i64 0, .int .i64 0] 32)) w'))
    (HK : Hid (∀ w, TW w → Calls Tryd.prog 17 #[.agg #[.int .i64 U.size, .int .u32 U.va, .int .u64 U.pa, .int .i64 U.dom, .int .i64 U.ap, .int .u32 U.bits, .bool U.ng, .bool U.xn], .agg #[.bool c.on, .bool c.tre, .bool c.afe, .int .i64 c.n, .bool c.pd0, .bool c.pd1, .int .u64 c.b0, .int .u64 c.b1, .int .u32 c.dacr, .int .u32 c.prrr, .int .u32 c.nmrr, .int .i64 c.asid], .bool priv, .int .i64 k] w fun e w' => e = .returned (.agg #[.int .i64 G.k, .int .i64 G.l, .int .i64 G.d]) ∧ Below w.heap.size w w')) :
    Calls Tryd.prog 7 #[rv, .agg #[.bool c.on, .bool c.tre, .bool c.afe, .int .i64 c.n, .bool c.pd0, .bool c.pd1, .int .u64 c.b0, .int .u64 c.b1, .int .u32 c.dacr, .int .u32 c.prrr, .int .u32 c.nmrr, .int .i64 c.asid], .int .u32 va, .bool priv, .int .i64 k] w fun e w' => e = .returned (.tuple #[.int .u64 0, .agg #[.int .i64 G.k, .int .i64 G.l, .int .i64 G.d]]) ∧ Below w.heap.size w w' := by
  have HB := hidW (Below.step (below_new w (.cells #[.bool c.on, .bool c.tre, .bool c.afe, .int .i64 c.n, .bool c.pd0, .bool c.pd1, .int .u64 c.b0, .int .u64 c.b1, .int .u32 c.dacr, .int .u32 c.prrr, .int .u32 c.nmrr, .int .i64 c.asid] 26)) (below_new _ (.cells #[.int .i64 0, .int .i64 0, .int .i64 0] 32)))
  have HT := hidW (ht.below HB.out)
  have HX : Hid (Bl ((w.alloc (.cells #[.bool c.on, .bool c.tre, .bool c.afe, .int .i64 c.n, .bool c.pd0, .bool c.pd1, .int .u64 c.b0, .int .u64 c.b1, .int .u32 c.dacr, .int .u32 c.prrr, .int .u32 c.nmrr, .int .i64 c.asid] 26)).alloc (.cells #[.int .i64 0, .int .i64 0, .int .i64 0] 32)) w.heap.size 26 [.bool c.on, .bool c.tre, .bool c.afe, .int .i64 c.n, .bool c.pd0, .bool c.pd1, .int .u64 c.b0, .int .u64 c.b1, .int .u32 c.dacr, .int .u32 c.prrr, .int .u32 c.nmrr, .int .i64 c.asid]) := (Bl.new _ _ _).below (below_new _ _)
  have HR : Hid (Bl ((w.alloc (.cells #[.bool c.on, .bool c.tre, .bool c.afe, .int .i64 c.n, .bool c.pd0, .bool c.pd1, .int .u64 c.b0, .int .u64 c.b1, .int .u32 c.dacr, .int .u32 c.prrr, .int .u32 c.nmrr, .int .i64 c.asid] 26)).alloc (.cells #[.int .i64 0, .int .i64 0, .int .i64 0] 32)) (w.heap.size + 1) 32 [.int .i64 0, .int .i64 0, .int .i64 0]) := Bl.new1 _ _ _ _
  have hsz : ((w.alloc (.cells #[.bool c.on, .bool c.tre, .bool c.afe, .int .i64 c.n, .bool c.pd0, .bool c.pd1, .int .u64 c.b0, .int .u64 c.b1, .int .u32 c.dacr, .int .u32 c.prrr, .int .u32 c.nmrr, .int .i64 c.asid] 26)).alloc (.cells #[.int .i64 0, .int .i64 0, .int .i64 0] 32)).heap.size = w.heap.size + 1 + 1 := by simp
  have c0 := HX.out.cell
  clear ht
  go_enter Tryd.func7, Tryd.ntmps7
  go_wp2_with fail
  generalize hw0 : ((w.alloc (.cells #[.bool c.on, .bool c.tre, .bool c.afe, .int .i64 c.n, .bool c.pd0, .bool c.pd1, .int .u64 c.b0, .int .u64 c.b1, .int .u32 c.dacr, .int .u32 c.prrr, .int .u32 c.nmrr, .int .i64 c.asid] 26)).alloc (.cells #[.int .i64 0, .int .i64 0, .int .i64 0] 32)) = w0 at *
  clear hw0
  go_at_call 16
  refine HC.out.mono ?_
  rintro e v1 ⟨rfl, hb⟩
  have hb' := Below.step hb (Below.step (below_new v1 (.cells #[.int .i64 U.size, .int .u32 U.va, .int .u64 U.pa, .int .i64 U.dom, .int .i64 U.ap, .int .u32 U.bits, .bool U.ng, .bool U.xn] 49)) (below_new _ (.cells #[.int .i64 F.k, .int .i64 F.l, .int .i64 F.d] 32)))
  have HT1 := hidW (HT.out.below hb')
  have HX1 := hidW (HX.out.below hb')
  have HR1 := hidW (HR.out.below hb')
  have HB1 := hidW (Below.step HB.out hb')
  have hz := hb.size
  have HU : Hid (Bl ((v1.alloc (.cells #[.int .i64 U.size, .int .u32 U.va, .int .u64 U.pa, .int .i64 U.dom, .int .i64 U.ap, .int .u32 U.bits, .bool U.ng, .bool U.xn] 49)).alloc (.cells #[.int .i64 F.k, .int .i64 F.l, .int .i64 F.d] 32)) v1.heap.size 49 [.int .i64 U.size, .int .u32 U.va, .int .u64 U.pa, .int .i64 U.dom, .int .i64 U.ap, .int .u32 U.bits, .bool U.ng, .bool U.xn]) := (Bl.new _ _ _).below (below_new _ _)
  have HV : Hid (Bl ((v1.alloc (.cells #[.int .i64 U.size, .int .u32 U.va, .int .u64 U.pa, .int .i64 U.dom, .int .i64 U.ap, .int .u32 U.bits, .bool U.ng, .bool U.xn] 49)).alloc (.cells #[.int .i64 F.k, .int .i64 F.l, .int .i64 F.d] 32)) (v1.heap.size + 1) 32 [.int .i64 F.k, .int .i64 F.l, .int .i64 F.d]) := Bl.new1 _ _ _ _
  clear hb hb' HT HX HR HB HC c0
  have cU := HU.out.cell
  have cV := HV.out.cell
  have cX := HX1.out.cell
  go_wp2_with fail
  generalize hx : w.heap.size = x at *
  generalize hww : (v1.alloc (.cells #[.int .i64 U.size, .int .u32 U.va, .int .u64 U.pa, .int .i64 U.dom, .int .i64 U.ap, .int .u32 U.bits, .bool U.ng, .bool U.xn] 49)).alloc (.cells #[.int .i64 F.k, .int .i64 F.l, .int .i64 F.d] 32) = w1 at *
  clear hww
  generalize hr : x + 1 = r at *
  generalize hy : v1.heap.size = y at *
  generalize hq : y + 1 = q at *
  have h1 : ¬ y = r := by omega
  have h2 : ¬ q = r := by omega
  have h3 : ¬ y = q := by omega
  have h4 : x ≤ q := by omega
  have h5 : x ≤ r := by omega
  clear hz hsz
  go_at_call 17
  refine (HK.out _ HT1.out).mono ?_
  rintro e w3 ⟨rfl, hb⟩
  have HT := hidW (HT1.out.below hb)
  have HR2 := hidW (HR1.out.below hb)
  have HB2 := hidW (below_at hx HB1.out hb)
  have HU2 := hidW (HU.out.below hb)
  have HV2 := hidW (HV.out.below hb)
  clear hb HT1 HX1 HR1 HB1 HU HV HK cU cV cX
  have cU := HU2.out.cell
  have cV := HV2.out.cell
  have fV := HV2.out.frozen
  have lV := HV2.out.lt
  have hqr := (fun e => h2 e.symm : ¬ r = q)
  have hqy := (fun e => h3 e.symm : ¬ q = y)
  go_wp2_with fail
  have HV := hidW (HV2.out.set3 (.int .i64 G.k) (.int .i64 G.l) (.int .i64 G.d))
  have HR1 := hidW (HR2.out.keep3 hqr (.int .i64 G.k) (.int .i64 G.l) (.int .i64 G.d))
  have HB1 : Hid (Below x w (((w3.setCell ⟨q, 0, none⟩ (.int .i64 G.k)).setCell ⟨q, 1, none⟩ (.int .i64 G.l)).setCell ⟨q, 2, none⟩ (.int .i64 G.d))) := Below.setCell (Below.setCell (Below.setCell HB2.out h4 _) h4 _) h4 _
  clear cU cV fV lV HU2 HV2 HR2 HB2
  generalize ((w3.setCell ⟨q, 0, none⟩ (.int .i64 G.k)).setCell ⟨q, 1, none⟩ (.int .i64 G.l)).setCell ⟨q, 2, none⟩ (.int .i64 G.d) = w2 at *
  have HP0 : Hid (w2.drew.cell? ⟨q, 0, none⟩ = some (.int .i64 G.k)) := HV.out.drew.cell 0
  have HS0 : Hid (∀ v0 v1 v2, (((w2.setCell ⟨r, 0, none⟩ v0).setCell ⟨r, 1, none⟩ v1).setCell ⟨r, 2, none⟩ v2).drew.cell? ⟨q, 0, none⟩ = some (.int .i64 G.k)) := fun v0 v1 v2 => (Bl.keep3 HV.out h2 v0 v1 v2).drew.cell 0
  have HP1 : Hid (w2.drew.cell? ⟨q, 1, none⟩ = some (.int .i64 G.l)) := HV.out.drew.cell 1
  have HS1 : Hid (∀ v0 v1 v2, (((w2.setCell ⟨r, 0, none⟩ v0).setCell ⟨r, 1, none⟩ v1).setCell ⟨r, 2, none⟩ v2).drew.cell? ⟨q, 1, none⟩ = some (.int .i64 G.l)) := fun v0 v1 v2 => (Bl.keep3 HV.out h2 v0 v1 v2).drew.cell 1
  have HP2 : Hid (w2.drew.cell? ⟨q, 2, none⟩ = some (.int .i64 G.d)) := HV.out.drew.cell 2
  have HS2 : Hid (∀ v0 v1 v2, (((w2.setCell ⟨r, 0, none⟩ v0).setCell ⟨r, 1, none⟩ v1).setCell ⟨r, 2, none⟩ v2).drew.cell? ⟨q, 2, none⟩ = some (.int .i64 G.d)) := fun v0 v1 v2 => (Bl.keep3 HV.out h2 v0 v1 v2).drew.cell 2
  have cR := HR1.out.cell
  have fR := HR1.out.frozen
  have lR := HR1.out.lt
  go_region_held3 (fun w' => w'.cell? ⟨q, 0, none⟩ = some (.int .i64 G.k) ∧ w'.cell? ⟨q, 1, none⟩ = some (.int .i64 G.l) ∧ w'.cell? ⟨q, 2, none⟩ = some (.int .i64 G.d)) (first | (with_reducible exact ⟨HP0.out, HP1.out, HP2.out⟩) | (with_reducible exact ⟨HS0.out _ _ _, HS1.out _ _ _, HS2.out _ _ _⟩)) (first | fail)
  go_wp2
  refine bodyPost_ret (v := .tuple #[.int .u64 0, .agg #[.int .i64 G.k, .int .i64 G.l, .int .i64 G.d]]) (by simp [results, Tryd.results7, go_sem, cR, fR, lR]) rfl ⟨rfl, ?_⟩
  rw [hx]
  exact below_drew (Below.setCell (Below.setCell (Below.setCell HB1.out h5 _) h5 _) h5 _)
set_option maxRecDepth 100000 in
set_option maxHeartbeats 4000000 in
theorem vgo_fine (c : Ctx) (va : Int) (priv : Bool) (k : Int) (w : World) (rv : Value) (U : Tra) (F G : Fa) (hk : ∀ w, (Op.equalIn 10000 32 (.agg #[.int .i64 F.k, .int .i64 F.l, .int .i64 F.d]) (.agg #[.int .i64 0, .int .i64 0, .int .i64 0])).run Tryd.prog w = .ok true w) (hg : ∀ w, (Op.equalIn 10000 32 (.agg #[.int .i64 G.k, .int .i64 G.l, .int .i64 G.d]) (.agg #[.int .i64 0, .int .i64 0, .int .i64 0])).run Tryd.prog w = .ok true w) (hm : IntKind.u32.wrap (va - U.va) = va - U.va) (hu : IntKind.u64.wrap (va - U.va) = va - U.va) (ha : IntKind.u64.wrap (U.pa + (va - U.va)) = U.pa + (va - U.va)) (hv : 0 ≤ va ∧ va < 4294967296) (ht : TW w)
    (HC : Hid (Calls Tryd.prog 16 #[rv, .agg #[.bool c.on, .bool c.tre, .bool c.afe, .int .i64 c.n, .bool c.pd0, .bool c.pd1, .int .u64 c.b0, .int .u64 c.b1, .int .u32 c.dacr, .int .u32 c.prrr, .int .u32 c.nmrr, .int .i64 c.asid], .int .u32 va] ((w.alloc (.cells #[.bool c.on, .bool c.tre, .bool c.afe, .int .i64 c.n, .bool c.pd0, .bool c.pd1, .int .u64 c.b0, .int .u64 c.b1, .int .u32 c.dacr, .int .u32 c.prrr, .int .u32 c.nmrr, .int .i64 c.asid] 26)).alloc (.cells #[.int .i64 0, .int .i64 0, .int .i64 0] 32)) fun e w' => e = .returned (.tuple #[.agg #[.int .i64 U.size, .int .u32 U.va, .int .u64 U.pa, .int .i64 U.dom, .int .i64 U.ap, .int .u32 U.bits, .bool U.ng, .bool U.xn], .agg #[.int .i64 F.k, .int .i64 F.l, .int .i64 F.d]]) ∧ Below ((w.alloc (.cells #[.bool c.on, .bool c.tre, .bool c.afe, .int .i64 c.n, .bool c.pd0, .bool c.pd1, .int .u64 c.b0, .int .u64 c.b1, .int .u32 c.dacr, .int .u32 c.prrr, .int .u32 c.nmrr, .int .i64 c.asid] 26)).alloc (.cells #[.int .i64 0, .int .i64 0, .int .i64 0] 32)).heap.size ((w.alloc (.cells #[.bool c.on, .bool c.tre, .bool c.afe, .int .i64 c.n, .bool c.pd0, .bool c.pd1, .int .u64 c.b0, .int .u64 c.b1, .int .u32 c.dacr, .int .u32 c.prrr, .int .u32 c.nmrr, .int .i64 c.asid] 26)).alloc (.cells #[.int .i64 0, .int .i64 0, .int .i64 0] 32)) w'))
    (HK : Hid (∀ w, TW w → Calls Tryd.prog 17 #[.agg #[.int .i64 U.size, .int .u32 U.va, .int .u64 U.pa, .int .i64 U.dom, .int .i64 U.ap, .int .u32 U.bits, .bool U.ng, .bool U.xn], .agg #[.bool c.on, .bool c.tre, .bool c.afe, .int .i64 c.n, .bool c.pd0, .bool c.pd1, .int .u64 c.b0, .int .u64 c.b1, .int .u32 c.dacr, .int .u32 c.prrr, .int .u32 c.nmrr, .int .i64 c.asid], .bool priv, .int .i64 k] w fun e w' => e = .returned (.agg #[.int .i64 G.k, .int .i64 G.l, .int .i64 G.d]) ∧ Below w.heap.size w w')) :
    Calls Tryd.prog 7 #[rv, .agg #[.bool c.on, .bool c.tre, .bool c.afe, .int .i64 c.n, .bool c.pd0, .bool c.pd1, .int .u64 c.b0, .int .u64 c.b1, .int .u32 c.dacr, .int .u32 c.prrr, .int .u32 c.nmrr, .int .i64 c.asid], .int .u32 va, .bool priv, .int .i64 k] w fun e w' => e = .returned (.tuple #[.int .u64 (U.pa + (va - U.va)), .agg #[.int .i64 fZ.k, .int .i64 fZ.l, .int .i64 fZ.d]]) ∧ Below w.heap.size w w' := by
  have HB := hidW (Below.step (below_new w (.cells #[.bool c.on, .bool c.tre, .bool c.afe, .int .i64 c.n, .bool c.pd0, .bool c.pd1, .int .u64 c.b0, .int .u64 c.b1, .int .u32 c.dacr, .int .u32 c.prrr, .int .u32 c.nmrr, .int .i64 c.asid] 26)) (below_new _ (.cells #[.int .i64 0, .int .i64 0, .int .i64 0] 32)))
  have HT := hidW (ht.below HB.out)
  have HX : Hid (Bl ((w.alloc (.cells #[.bool c.on, .bool c.tre, .bool c.afe, .int .i64 c.n, .bool c.pd0, .bool c.pd1, .int .u64 c.b0, .int .u64 c.b1, .int .u32 c.dacr, .int .u32 c.prrr, .int .u32 c.nmrr, .int .i64 c.asid] 26)).alloc (.cells #[.int .i64 0, .int .i64 0, .int .i64 0] 32)) w.heap.size 26 [.bool c.on, .bool c.tre, .bool c.afe, .int .i64 c.n, .bool c.pd0, .bool c.pd1, .int .u64 c.b0, .int .u64 c.b1, .int .u32 c.dacr, .int .u32 c.prrr, .int .u32 c.nmrr, .int .i64 c.asid]) := (Bl.new _ _ _).below (below_new _ _)
  have HR : Hid (Bl ((w.alloc (.cells #[.bool c.on, .bool c.tre, .bool c.afe, .int .i64 c.n, .bool c.pd0, .bool c.pd1, .int .u64 c.b0, .int .u64 c.b1, .int .u32 c.dacr, .int .u32 c.prrr, .int .u32 c.nmrr, .int .i64 c.asid] 26)).alloc (.cells #[.int .i64 0, .int .i64 0, .int .i64 0] 32)) (w.heap.size + 1) 32 [.int .i64 0, .int .i64 0, .int .i64 0]) := Bl.new1 _ _ _ _
  have hsz : ((w.alloc (.cells #[.bool c.on, .bool c.tre, .bool c.afe, .int .i64 c.n, .bool c.pd0, .bool c.pd1, .int .u64 c.b0, .int .u64 c.b1, .int .u32 c.dacr, .int .u32 c.prrr, .int .u32 c.nmrr, .int .i64 c.asid] 26)).alloc (.cells #[.int .i64 0, .int .i64 0, .int .i64 0] 32)).heap.size = w.heap.size + 1 + 1 := by simp
  have c0 := HX.out.cell
  clear ht
  go_enter Tryd.func7, Tryd.ntmps7
  go_wp2_with fail
  generalize hw0 : ((w.alloc (.cells #[.bool c.on, .bool c.tre, .bool c.afe, .int .i64 c.n, .bool c.pd0, .bool c.pd1, .int .u64 c.b0, .int .u64 c.b1, .int .u32 c.dacr, .int .u32 c.prrr, .int .u32 c.nmrr, .int .i64 c.asid] 26)).alloc (.cells #[.int .i64 0, .int .i64 0, .int .i64 0] 32)) = w0 at *
  clear hw0
  go_at_call 16
  refine HC.out.mono ?_
  rintro e v1 ⟨rfl, hb⟩
  have hb' := Below.step hb (Below.step (below_new v1 (.cells #[.int .i64 U.size, .int .u32 U.va, .int .u64 U.pa, .int .i64 U.dom, .int .i64 U.ap, .int .u32 U.bits, .bool U.ng, .bool U.xn] 49)) (below_new _ (.cells #[.int .i64 F.k, .int .i64 F.l, .int .i64 F.d] 32)))
  have HT1 := hidW (HT.out.below hb')
  have HX1 := hidW (HX.out.below hb')
  have HR1 := hidW (HR.out.below hb')
  have HB1 := hidW (Below.step HB.out hb')
  have hz := hb.size
  have HU : Hid (Bl ((v1.alloc (.cells #[.int .i64 U.size, .int .u32 U.va, .int .u64 U.pa, .int .i64 U.dom, .int .i64 U.ap, .int .u32 U.bits, .bool U.ng, .bool U.xn] 49)).alloc (.cells #[.int .i64 F.k, .int .i64 F.l, .int .i64 F.d] 32)) v1.heap.size 49 [.int .i64 U.size, .int .u32 U.va, .int .u64 U.pa, .int .i64 U.dom, .int .i64 U.ap, .int .u32 U.bits, .bool U.ng, .bool U.xn]) := (Bl.new _ _ _).below (below_new _ _)
  have HV : Hid (Bl ((v1.alloc (.cells #[.int .i64 U.size, .int .u32 U.va, .int .u64 U.pa, .int .i64 U.dom, .int .i64 U.ap, .int .u32 U.bits, .bool U.ng, .bool U.xn] 49)).alloc (.cells #[.int .i64 F.k, .int .i64 F.l, .int .i64 F.d] 32)) (v1.heap.size + 1) 32 [.int .i64 F.k, .int .i64 F.l, .int .i64 F.d]) := Bl.new1 _ _ _ _
  clear hb hb' HT HX HR HB HC c0
  have cU := HU.out.cell
  have cV := HV.out.cell
  have cX := HX1.out.cell
  go_wp2_with fail
  generalize hx : w.heap.size = x at *
  generalize hww : (v1.alloc (.cells #[.int .i64 U.size, .int .u32 U.va, .int .u64 U.pa, .int .i64 U.dom, .int .i64 U.ap, .int .u32 U.bits, .bool U.ng, .bool U.xn] 49)).alloc (.cells #[.int .i64 F.k, .int .i64 F.l, .int .i64 F.d] 32) = w1 at *
  clear hww
  generalize hr : x + 1 = r at *
  generalize hy : v1.heap.size = y at *
  generalize hq : y + 1 = q at *
  have h1 : ¬ y = r := by omega
  have h2 : ¬ q = r := by omega
  have h3 : ¬ y = q := by omega
  have h4 : x ≤ q := by omega
  have h5 : x ≤ r := by omega
  clear hz hsz
  go_at_call 17
  refine (HK.out _ HT1.out).mono ?_
  rintro e w3 ⟨rfl, hb⟩
  have HT := hidW (HT1.out.below hb)
  have HR2 := hidW (HR1.out.below hb)
  have HB2 := hidW (below_at hx HB1.out hb)
  have HU2 := hidW (HU.out.below hb)
  have HV2 := hidW (HV.out.below hb)
  clear hb HT1 HX1 HR1 HB1 HU HV HK cU cV cX
  have cU := HU2.out.cell
  have cV := HV2.out.cell
  have fV := HV2.out.frozen
  have lV := HV2.out.lt
  have hqr := (fun e => h2 e.symm : ¬ r = q)
  have hqy := (fun e => h3 e.symm : ¬ q = y)
  have HV := hidW (HV2.out.set3 (.int .i64 G.k) (.int .i64 G.l) (.int .i64 G.d))
  have HR1 := hidW (HR2.out.keep3 hqr (.int .i64 G.k) (.int .i64 G.l) (.int .i64 G.d))
  have cR := HR2.out.cell
  have fR := HR2.out.frozen
  have lR := HR2.out.lt
  have cR1 := HR1.out.cell
  have fR1 := HR1.out.frozen
  have lR1 := HR1.out.lt
  go_wp2
  refine bodyPost_ret (v := .tuple #[.int .u64 (U.pa + (va - U.va)), .agg #[.int .i64 fZ.k, .int .i64 fZ.l, .int .i64 fZ.d]]) (by simp [results, Tryd.results7, go_sem, fZ, cR, fR, lR, cR1, fR1, lR1]) rfl ⟨rfl, ?_⟩
  rw [hx]
  exact Below.setCell (Below.setCell (Below.setCell (Below.setCell (Below.setCell (Below.setCell HB2.out h4 _) h4 _) h4 _) h5 _) h5 _) h5 _
theorem vgo_any (c : Ctx) (va : Int) (priv : Bool) (k : Int) (w : World) {S : Nat → Prop} {rv : Value} {M : Mo} (h : MemR w S rv M) (ht : TW w) (hc : c.Ok) (hv : 0 ≤ va ∧ va < 4294967296) :
    Calls Tryd.prog 7 #[rv, .agg #[.bool c.on, .bool c.tre, .bool c.afe, .int .i64 c.n, .bool c.pd0, .bool c.pd1, .int .u64 c.b0, .int .u64 c.b1, .int .u32 c.dacr, .int .u32 c.prrr, .int .u32 c.nmrr, .int .i64 c.asid], .int .u32 va, .bool priv, .int .i64 k] w fun e w' => e = .returned (.tuple #[.int .u64 (goF M c va priv k).1, .agg #[.int .i64 ((goF M c va priv k).2).k, .int .i64 ((goF M c va priv k).2).l, .int .i64 ((goF M c va priv k).2).d]]) ∧ Below w.heap.size w w' := by
  have b0 : Below w.heap.size w ((w.alloc (.cells #[.bool c.on, .bool c.tre, .bool c.afe, .int .i64 c.n, .bool c.pd0, .bool c.pd1, .int .u64 c.b0, .int .u64 c.b1, .int .u32 c.dacr, .int .u32 c.prrr, .int .u32 c.nmrr, .int .i64 c.asid] 26)).alloc (.cells #[.int .i64 0, .int .i64 0, .int .i64 0] 32)) := Below.step (below_new _ _) (below_new _ _)
  have HC := hidW (vwalk_any c va _ (h.below b0) (ht.below b0) hc hv)
  have HF : (wk M c va).2.k = 0 → (wk M c va).2 = fZ ∧ Fnd (wk M c va).1 va := fun hk => by
    obtain ⟨h1, h2, _⟩ := found h.ok hc hv rfl hk
    exact ⟨h1, h2⟩
  unfold goF
  generalize wk M c va = R at *
  obtain ⟨U, F⟩ := R
  dsimp only at HF ⊢
  by_cases hk : F.k = 0
  · obtain ⟨hF, hf⟩ := HF hk
    have HK := hidW (fun w (hw : TW w) => rcheck_any U c priv k w (hf.ft hv) hc.dacr)
    have hrg := hf.rng hv
    have hpa := hf.pa
    have q1 : ∀ w, (Op.equalIn 10000 32 (.agg #[.int .i64 F.k, .int .i64 F.l, .int .i64 F.d]) (.agg #[.int .i64 0, .int .i64 0, .int .i64 0])).run Tryd.prog w = .ok true w := fun w => by
      have h := eqF F fZ w
      rw [hF, Fa.same_self] at h
      rw [hF]; exact h
    rw [if_pos hk]
    by_cases hg : (chF U c priv k).k = 0
    · rw [if_pos hg]
      have q2 : ∀ w, (Op.equalIn 10000 32 (.agg #[.int .i64 (chF U c priv k).k, .int .i64 (chF U c priv k).l, .int .i64 (chF U c priv k).d]) (.agg #[.int .i64 0, .int .i64 0, .int .i64 0])).run Tryd.prog w = .ok true w := fun w => by
        have h := eqF (chF U c priv k) fZ w
        rw [ch_z hg, Fa.same_self] at h
        rw [ch_z hg]; exact h
      exact vgo_fine c va priv k w rv U F (chF U c priv k) q1 q2 (by rw [IntKind.wrap_u32]; omega) (by rw [IntKind.wrap_u64]; omega) (by rw [IntKind.wrap_u64]; omega) hv ht HC HK
    · rw [if_neg hg]
      have q2 : ∀ w, (Op.equalIn 10000 32 (.agg #[.int .i64 (chF U c priv k).k, .int .i64 (chF U c priv k).l, .int .i64 (chF U c priv k).d]) (.agg #[.int .i64 0, .int .i64 0, .int .i64 0])).run Tryd.prog w = .ok false w := fun w => by
        have h := eqF (chF U c priv k) fZ w
        rw [Fa.not_z hg] at h
        exact h
      exact vgo_bad2 c va priv k w rv U F (chF U c priv k) q1 q2 hv ht HC HK
  · rw [if_neg hk]
    have q1 : ∀ w, (Op.equalIn 10000 32 (.agg #[.int .i64 F.k, .int .i64 F.l, .int .i64 F.d]) (.agg #[.int .i64 0, .int .i64 0, .int .i64 0])).run Tryd.prog w = .ok false w := fun w => by
      have h := eqF F fZ w
      rw [Fa.not_z hk] at h
      exact h
    exact vgo_bad1 c va priv k w rv U F q1 hv ht HC
end Go.Proofs.YtmodcbdgnmjkoabDoor
namespace Go.Proofs.YtmodcbdgnmjkoabDoor
open Go.RowKit
open Mm (Turn gr PM RM valV errV Byts)
set_option linter.unusedVariables false
set_option linter.unusedSimpArgs false
/-- A fault's box, new. -/
structure Gof (wr wx : World) (t : Nat) (f : Fa) : Prop where
  bel : Below wr.heap.size wr wx
  F : Bl wx t 32 [.int .i64 f.k, .int .i64 f.l, .int .i64 f.d]
theorem gof1 {wr w1 : World} (h : Below wr.heap.size wr w1) (f : Fa) : Gof wr (w1.alloc (.cells #[.int .i64 f.k, .int .i64 f.l, .int .i64 f.d] 32)) w1.heap.size f :=
  ⟨h.alloc h.size _, Bl.new w1 _ [.int .i64 f.k, .int .i64 f.l, .int .i64 f.d]⟩
theorem gof2 {wr w1 : World} (h : Below wr.heap.size wr w1) (f : Fa) (b : Nat) (hb : wr.heap.size ≤ b) (hF : Bl w1 b 32 [.int .i64 0, .int .i64 0, .int .i64 0]) : Gof wr ((((w1.setCell ⟨b, 0, none⟩ (.int .i64 f.k)).setCell ⟨b, 1, none⟩ (.int .i64 f.l)).setCell ⟨b, 2, none⟩ (.int .i64 f.d))) b f :=
  ⟨Below.setCell (Below.setCell (Below.setCell h hb _) hb _) hb _, hF.set3 _ _ _⟩
/-- Two memories, a context's box, the tables of the rights. -/
structure KG (W wr : World) (c : Ctx) (x B p r N : Nat) (m : Nat → Int) : Prop extends KL W wr c x B p r N m where
  rt : TC wr
theorem KG.below {W wr wn : World} {c : Ctx} {x B p r N : Nat} {m : Nat → Int} (h : KG W wr c x B p r N m) (hb : Below wr.heap.size wr wn) : KG W wn c x B p r N m := ⟨h.toKL.below hb, h.rt.below hb⟩
theorem KG.go {W wr : World} {c : Ctx} {x B p r N : Nat} {m : Nat → Int} (h : KG W wr c x B p r N m) (hc : c.Ok) (va : Int) (hv : 0 ≤ va ∧ va < 4294967296) (priv : Bool) (k : Int) :
    Calls Tryd.prog 6 #[.iface 35 (.pointer (some ⟨p, 0, none⟩)), .agg #[.bool c.on, .bool c.tre, .bool c.afe, .int .i64 c.n, .bool c.pd0, .bool c.pd1, .int .u64 c.b0, .int .u64 c.b1, .int .u32 c.dacr, .int .u32 c.prrr, .int .u32 c.nmrr, .int .i64 c.asid], .int .u32 va, .bool priv, .int .i64 k] wr fun e w' => e = .returned (.tuple #[.int .u64 (goF (ramMo N m) c va priv k).1, .agg #[.int .i64 ((goF (ramMo N m) c va priv k).2).k, .int .i64 ((goF (ramMo N m) c va priv k).2).l, .int .i64 ((goF (ramMo N m) c va priv k).2).d]]) ∧ Below wr.heap.size wr w' := by
  obtain ⟨S1, S2, h1, h2⟩ := h.mem
  exact go_any c va priv k wr (.inl ⟨p, N, m, rfl, rfl, h1⟩) h.rt hc hv
theorem KG.vgo {W wr : World} {c : Ctx} {x B p r N : Nat} {m : Nat → Int} (h : KG W wr c x B p r N m) (hc : c.Ok) (va : Int) (hv : 0 ≤ va ∧ va < 4294967296) (priv : Bool) (k : Int) :
    Calls Tryd.prog 7 #[.pointer (some ⟨r, 0, none⟩), .agg #[.bool c.on, .bool c.tre, .bool c.afe, .int .i64 c.n, .bool c.pd0, .bool c.pd1, .int .u64 c.b0, .int .u64 c.b1, .int .u32 c.dacr, .int .u32 c.prrr, .int .u32 c.nmrr, .int .i64 c.asid], .int .u32 va, .bool priv, .int .i64 k] wr fun e w' => e = .returned (.tuple #[.int .u64 (goF (ramMo N m) c va priv k).1, .agg #[.int .i64 ((goF (ramMo N m) c va priv k).2).k, .int .i64 ((goF (ramMo N m) c va priv k).2).l, .int .i64 ((goF (ramMo N m) c va priv k).2).d]]) ∧ Below wr.heap.size wr w' := by
  obtain ⟨S1, S2, h1, h2⟩ := h.mem
  exact vgo_any c va priv k wr (.inl ⟨r, N, m, rfl, rfl, h2⟩) h.tab hc hv
set_option maxRecDepth 100000 in
set_option maxHeartbeats 8000000 in
theorem law_go_core (W : World) (N : Nat) (h1 : 1 ≤ N) (h2 : N ≤ 65536) (a : Option Addr) (cap : Nat) (ps : List Pt) (hp : PutsAt W a ps) (hl : ps.length ≤ 9223372036854775807) (c : Ctx) (hc : c.Ok) (a2 : Option Addr) (cap2 : Nat) (vs : List Int) (hw : Ws W a2 vs) (hl2 : vs.length ≤ 9223372036854775807) (kd : Int) (ht : TC W) :
    Calls Tryd.prog 3 #[.int .i64 N, .slice a ps.length cap, .agg #[.bool c.on, .bool c.tre, .bool c.afe, .int .i64 c.n, .bool c.pd0, .bool c.pd1, .int .u64 c.b0, .int .u64 c.b1, .int .u32 c.dacr, .int .u32 c.prrr, .int .u32 c.nmrr, .int .i64 c.asid], .slice a2 vs.length cap2, .int .i64 kd] W fun e W' => e = .returned (.bool true) ∧ Below W.heap.size W W' := by
  have HS := hidW (show PutsAt (W.alloc (.cells #[.bool c.on, .bool c.tre, .bool c.afe, .int .i64 c.n, .bool c.pd0, .bool c.pd1, .int .u64 c.b0, .int .u64 c.b1, .int .u32 c.dacr, .int .u32 c.prrr, .int .u32 c.nmrr, .int .i64 c.asid] 26)) a ps from ⟨fun k q hq => by
    obtain ⟨b, off, e, hb, e0, e1⟩ := hp.lies k q hq
    exact ⟨b, off, e, by simp; omega, ((below_new W _).cell hb).trans e0, ((below_new W _).cell hb).trans e1⟩, hp.oks⟩)
  have HW := hidW hw
  have HT := hidW ht
  clear hp hw ht
  generalize hn : vs.length = n at *
  have HN := hidW hn
  clear hn
  go_enter Tryd.func3, Tryd.ntmps3
  go_wp2_with fail
  go_at_call 5
  refine (begin_ok _ N h1 h2 a cap ps HS.out hl).mono ?_
  rintro e w1 ⟨B, p, r, rfl, hB, _, htw⟩
  have HK0 := hidW (show KG W w1 c W.heap.size B p r N (pm N ps ps.length) from ⟨KL.new hB htw HT.out.tw, HT.out.below (KL.new hB htw HT.out.tw).bel⟩)
  clear hB htw HS HT
  generalize pm N ps ps.length = m at *
  generalize hx : W.heap.size = x at *
  have HX := hidW hx
  clear hx
  go_wp2
  go_loopw [13] (fun i wr => ∃ k : Nat, k ≤ n ∧ i = .int .i64 k ∧ Hid (KG W wr c x B p r N m)) (fun i _ => n - (intOf i).toNat)
  case atStart => exact ⟨0, Nat.zero_le _, rfl, HK0.out⟩
  case round =>
    obtain ⟨k, hk, rfl, HK⟩ := hrel
    clear HK0
    by_cases hlt : k < n
    · obtain ⟨v, hv⟩ : ∃ v, vs[k]? = some v := ⟨_, List.getElem?_eq_getElem (by rw [HN.out]; omega)⟩
      obtain ⟨g, o, rfl, hg, e0⟩ := HW.out.lies k v hv
      have hok := HW.out.oks v (List.mem_of_getElem? hv)
      have hkz : (k : Int) < (n : Int) := by omega
      clear hv
      go_wp2
      go_loopw [14] (fun i wr => ∃ q : Nat, q ≤ 8 ∧ i = .int .i64 q ∧ Hid (KG W wr c x B p r N m)) (fun i _ => 8 - (intOf i).toNat)
      case atStart => exact ⟨0, Nat.zero_le _, rfl, HK.out⟩
      case round =>
        obtain ⟨q, hq, rfl, HK1⟩ := hrel
        clear HK
        by_cases hq8 : q < 8
        · have hqz : (q : Int) < 8 := by omega
          by_cases hz : (q : Int) / 2 = 0
          · have hzb : ((q : Int) / 2 == 0) = true := by simpa using hz
            clear hz
            have d0 : wr.cell? ⟨g, o + k, none⟩ = some (.int .u32 v) := (HK1.out.bel.cell hg).trans e0
            have HC1 := hidW (fun ww (hb : Below wr.heap.size wr ww) => (HK1.out.below hb).go hc v hok (bits .and .i64 (q : Int) 1 == 1) (kd))
            have HC2 := hidW (fun ww (hk : KG W ww c x B p r N m) => hk.vgo hc v hok (bits .and .i64 (q : Int) 1 == 1) (kd))
            have hS : ∀ W', Below wr.heap.size wr W' → (W'.cell? ⟨B, 0, none⟩ = some (.pointer (some ⟨p, 0, none⟩)) ∧ W'.cell? ⟨x, 0, none⟩ = some (.bool c.on) ∧ W'.cell? ⟨x, 1, none⟩ = some (.bool c.tre) ∧ W'.cell? ⟨x, 2, none⟩ = some (.bool c.afe) ∧ W'.cell? ⟨x, 3, none⟩ = some (.int .i64 c.n) ∧ W'.cell? ⟨x, 4, none⟩ = some (.bool c.pd0) ∧ W'.cell? ⟨x, 5, none⟩ = some (.bool c.pd1) ∧ W'.cell? ⟨x, 6, none⟩ = some (.int .u64 c.b0) ∧ W'.cell? ⟨x, 7, none⟩ = some (.int .u64 c.b1) ∧ W'.cell? ⟨x, 8, none⟩ = some (.int .u32 c.dacr) ∧ W'.cell? ⟨x, 9, none⟩ = some (.int .u32 c.prrr) ∧ W'.cell? ⟨x, 10, none⟩ = some (.int .u32 c.nmrr) ∧ W'.cell? ⟨x, 11, none⟩ = some (.int .i64 c.asid) ∧ W'.cell? ⟨g, o + k, none⟩ = some (.int .u32 v)) := fun W' h => ⟨(HK1.out.B.below h).cell 0, (HK1.out.C.below h).cell 0, (HK1.out.C.below h).cell 1, (HK1.out.C.below h).cell 2, (HK1.out.C.below h).cell 3, (HK1.out.C.below h).cell 4, (HK1.out.C.below h).cell 5, (HK1.out.C.below h).cell 6, (HK1.out.C.below h).cell 7, (HK1.out.C.below h).cell 8, (HK1.out.C.below h).cell 9, (HK1.out.C.below h).cell 10, (HK1.out.C.below h).cell 11, (h.cell (cell_lt d0)).trans d0⟩
            generalize (goF (ramMo N m) c v (bits .and .i64 (q : Int) 1 == 1) (kd)).1 = A at *
            generalize (goF (ramMo N m) c v (bits .and .i64 (q : Int) 1 == 1) (kd)).2 = F at *
            have eF := eqF F F
            rw [Fa.same_self] at eF
            go_wp2_with fail
            have HB1 := hidW (Below.refl wr.heap.size wr)
            have hs1 := HB1.out.size
            go_cut [16, 17] from 44 to 61 (fun s1 s2 wx => s1 = .int .u64 (A) ∧ ∃ b2, s2 = .pointer (some ⟨b2, 0, none⟩) ∧ Hid (Gof wr wx b2 (F)))
            case first =>
              go_region_held3 (fun w' => w'.cell? ⟨B, 0, none⟩ = some (.pointer (some ⟨p, 0, none⟩)) ∧ w'.cell? ⟨x, 0, none⟩ = some (.bool c.on) ∧ w'.cell? ⟨x, 1, none⟩ = some (.bool c.tre) ∧ w'.cell? ⟨x, 2, none⟩ = some (.bool c.afe) ∧ w'.cell? ⟨x, 3, none⟩ = some (.int .i64 c.n) ∧ w'.cell? ⟨x, 4, none⟩ = some (.bool c.pd0) ∧ w'.cell? ⟨x, 5, none⟩ = some (.bool c.pd1) ∧ w'.cell? ⟨x, 6, none⟩ = some (.int .u64 c.b0) ∧ w'.cell? ⟨x, 7, none⟩ = some (.int .u64 c.b1) ∧ w'.cell? ⟨x, 8, none⟩ = some (.int .u32 c.dacr) ∧ w'.cell? ⟨x, 9, none⟩ = some (.int .u32 c.prrr) ∧ w'.cell? ⟨x, 10, none⟩ = some (.int .u32 c.nmrr) ∧ w'.cell? ⟨x, 11, none⟩ = some (.int .i64 c.asid) ∧ w'.cell? ⟨g, o + k, none⟩ = some (.int .u32 v)) (exact hS _ (by ((repeat (first | (with_reducible refine Below.setCell ?_ (by first | exact Nat.le_refl _ | (dsimp only; omega)) _) | (with_reducible refine Below.alloc ?_ (by first | omega | (simp; omega) | simp) _) | (with_reducible refine below_drew ?_))); (first | (with_reducible exact HB1.out) | (with_reducible exact Below.refl _ _))))) (first | (go_at_call 6; refine (HC1.out _ (by ((repeat (first | (with_reducible refine Below.setCell ?_ (by first | exact Nat.le_refl _ | (dsimp only; omega)) _) | (with_reducible refine Below.alloc ?_ (by first | omega | (simp; omega) | simp) _) | (with_reducible refine below_drew ?_))); (first | (with_reducible exact HB1.out) | (with_reducible exact Below.refl _ _))))).mono ?_; rintro e w1 ⟨rfl, hb⟩; (try (have hB : Bl w1 (wr.heap.size) 32 [.int .i64 0, .int .i64 0, .int .i64 0] := (by with_reducible exact Bl.below ((Bl.new wr 32 [.int .i64 0, .int .i64 0, .int .i64 0]).drew) hb); have cB := hB.cell; have gB := hB.frozen; have lB := hB.lt)); have HB2 : Hid (Below wr.heap.size wr w1) := Below.step (by ((repeat (first | (with_reducible refine Below.setCell ?_ (by first | exact Nat.le_refl _ | (dsimp only; omega)) _) | (with_reducible refine Below.alloc ?_ (by first | omega | (simp; omega) | simp) _) | (with_reducible refine below_drew ?_))); (first | (with_reducible exact HB1.out) | (with_reducible exact Below.refl _ _)))) hb; have HB1 := HB2; have hs1 := HB1.out.size; clear hb))
              all_goals
                go_wp2_with fail
                go_meet
                first
                  | (with_reducible exact ⟨rfl, _, rfl, hidW (gof1 HB1.out _)⟩)
                  | (with_reducible exact ⟨rfl, _, rfl, hidW (gof2 HB1.out _ _ (Nat.le_refl _) hB)⟩)
            case rest =>
              obtain ⟨rfl, b1, rfl, HG⟩ := hcut
              have HK2 := hidW (HK1.out.below HG.out.bel)
              have HGF := hidW HG.out.F
              have d1 : wc.cell? ⟨g, o + k, none⟩ = some (.int .u32 v) := (HG.out.bel.cell (cell_lt d0)).trans d0
              clear HK1 HG HC1 hS HB1 hs1 d0
              have HC3 := hidW (fun ww (hb : Below wc.heap.size wc ww) => HC2.out ww (HK2.out.below hb))
              generalize wc = wq at *
              have hS : ∀ W', Below wq.heap.size wq W' → (W'.cell? ⟨B, 1, none⟩ = some (.pointer (some ⟨r, 0, none⟩)) ∧ W'.cell? ⟨x, 0, none⟩ = some (.bool c.on) ∧ W'.cell? ⟨x, 1, none⟩ = some (.bool c.tre) ∧ W'.cell? ⟨x, 2, none⟩ = some (.bool c.afe) ∧ W'.cell? ⟨x, 3, none⟩ = some (.int .i64 c.n) ∧ W'.cell? ⟨x, 4, none⟩ = some (.bool c.pd0) ∧ W'.cell? ⟨x, 5, none⟩ = some (.bool c.pd1) ∧ W'.cell? ⟨x, 6, none⟩ = some (.int .u64 c.b0) ∧ W'.cell? ⟨x, 7, none⟩ = some (.int .u64 c.b1) ∧ W'.cell? ⟨x, 8, none⟩ = some (.int .u32 c.dacr) ∧ W'.cell? ⟨x, 9, none⟩ = some (.int .u32 c.prrr) ∧ W'.cell? ⟨x, 10, none⟩ = some (.int .u32 c.nmrr) ∧ W'.cell? ⟨x, 11, none⟩ = some (.int .i64 c.asid) ∧ W'.cell? ⟨g, o + k, none⟩ = some (.int .u32 v)) := fun W' h => ⟨(HK2.out.B.below h).cell 1, (HK2.out.C.below h).cell 0, (HK2.out.C.below h).cell 1, (HK2.out.C.below h).cell 2, (HK2.out.C.below h).cell 3, (HK2.out.C.below h).cell 4, (HK2.out.C.below h).cell 5, (HK2.out.C.below h).cell 6, (HK2.out.C.below h).cell 7, (HK2.out.C.below h).cell 8, (HK2.out.C.below h).cell 9, (HK2.out.C.below h).cell 10, (HK2.out.C.below h).cell 11, (h.cell (cell_lt d1)).trans d1⟩
              go_wp2_with fail
              have HB1 := hidW (Below.refl wq.heap.size wq)
              have hs1 := HB1.out.size
              go_cut [18, 19] from 62 to 78 (fun s1 s2 wx => s1 = .int .u64 (A) ∧ ∃ b2, s2 = .pointer (some ⟨b2, 0, none⟩) ∧ Hid (Gof wq wx b2 (F)))
              case first =>
                go_region_held3 (fun w' => w'.cell? ⟨B, 1, none⟩ = some (.pointer (some ⟨r, 0, none⟩)) ∧ w'.cell? ⟨x, 0, none⟩ = some (.bool c.on) ∧ w'.cell? ⟨x, 1, none⟩ = some (.bool c.tre) ∧ w'.cell? ⟨x, 2, none⟩ = some (.bool c.afe) ∧ w'.cell? ⟨x, 3, none⟩ = some (.int .i64 c.n) ∧ w'.cell? ⟨x, 4, none⟩ = some (.bool c.pd0) ∧ w'.cell? ⟨x, 5, none⟩ = some (.bool c.pd1) ∧ w'.cell? ⟨x, 6, none⟩ = some (.int .u64 c.b0) ∧ w'.cell? ⟨x, 7, none⟩ = some (.int .u64 c.b1) ∧ w'.cell? ⟨x, 8, none⟩ = some (.int .u32 c.dacr) ∧ w'.cell? ⟨x, 9, none⟩ = some (.int .u32 c.prrr) ∧ w'.cell? ⟨x, 10, none⟩ = some (.int .u32 c.nmrr) ∧ w'.cell? ⟨x, 11, none⟩ = some (.int .i64 c.asid) ∧ w'.cell? ⟨g, o + k, none⟩ = some (.int .u32 v)) (exact hS _ (by ((repeat (first | (with_reducible refine Below.setCell ?_ (by first | exact Nat.le_refl _ | (dsimp only; omega)) _) | (with_reducible refine Below.alloc ?_ (by first | omega | (simp; omega) | simp) _) | (with_reducible refine below_drew ?_))); (first | (with_reducible exact HB1.out) | (with_reducible exact Below.refl _ _))))) (first | (go_at_call 7; refine (HC3.out _ (by ((repeat (first | (with_reducible refine Below.setCell ?_ (by first | exact Nat.le_refl _ | (dsimp only; omega)) _) | (with_reducible refine Below.alloc ?_ (by first | omega | (simp; omega) | simp) _) | (with_reducible refine below_drew ?_))); (first | (with_reducible exact HB1.out) | (with_reducible exact Below.refl _ _))))).mono ?_; rintro e w1 ⟨rfl, hb⟩; (try (have hB : Bl w1 (wq.heap.size) 32 [.int .i64 0, .int .i64 0, .int .i64 0] := (by with_reducible exact Bl.below ((Bl.new wq 32 [.int .i64 0, .int .i64 0, .int .i64 0]).drew) hb); have cB := hB.cell; have gB := hB.frozen; have lB := hB.lt)); have HB2 : Hid (Below wq.heap.size wq w1) := Below.step (by ((repeat (first | (with_reducible refine Below.setCell ?_ (by first | exact Nat.le_refl _ | (dsimp only; omega)) _) | (with_reducible refine Below.alloc ?_ (by first | omega | (simp; omega) | simp) _) | (with_reducible refine below_drew ?_))); (first | (with_reducible exact HB1.out) | (with_reducible exact Below.refl _ _)))) hb; have HB1 := HB2; have hs1 := HB1.out.size; clear hb))
                all_goals
                  go_wp2_with fail
                  go_meet
                  first
                    | (with_reducible exact ⟨rfl, _, rfl, hidW (gof1 HB1.out _)⟩)
                    | (with_reducible exact ⟨rfl, _, rfl, hidW (gof2 HB1.out _ _ (Nat.le_refl _) hB)⟩)
              case rest =>
                obtain ⟨rfl, b2, rfl, HG⟩ := hcut
                have HK3 := hidW (HK2.out.below HG.out.bel)
                have cB := (HGF.out.below HG.out.bel).cell
                have cD := HG.out.F.cell
                clear HK2 HG HC2 HC3 hS HB1 hs1 d1 HGF
                go_wp2
                go_roundw
                case rel => exact ⟨q + 1, by omega, by go_num, HK3.out⟩
                case measure => simp [intOf]; omega
          · have hzb : ((q : Int) / 2 == 0) = false := by simpa using hz
            clear hz
            have d0 : wr.cell? ⟨g, o + k, none⟩ = some (.int .u32 v) := (HK1.out.bel.cell hg).trans e0
            have HC1 := hidW (fun ww (hb : Below wr.heap.size wr ww) => (HK1.out.below hb).go hc v hok (bits .and .i64 (q : Int) 1 == 1) ((q : Int) / 2))
            have HC2 := hidW (fun ww (hk : KG W ww c x B p r N m) => hk.vgo hc v hok (bits .and .i64 (q : Int) 1 == 1) ((q : Int) / 2))
            have hS : ∀ W', Below wr.heap.size wr W' → (W'.cell? ⟨B, 0, none⟩ = some (.pointer (some ⟨p, 0, none⟩)) ∧ W'.cell? ⟨x, 0, none⟩ = some (.bool c.on) ∧ W'.cell? ⟨x, 1, none⟩ = some (.bool c.tre) ∧ W'.cell? ⟨x, 2, none⟩ = some (.bool c.afe) ∧ W'.cell? ⟨x, 3, none⟩ = some (.int .i64 c.n) ∧ W'.cell? ⟨x, 4, none⟩ = some (.bool c.pd0) ∧ W'.cell? ⟨x, 5, none⟩ = some (.bool c.pd1) ∧ W'.cell? ⟨x, 6, none⟩ = some (.int .u64 c.b0) ∧ W'.cell? ⟨x, 7, none⟩ = some (.int .u64 c.b1) ∧ W'.cell? ⟨x, 8, none⟩ = some (.int .u32 c.dacr) ∧ W'.cell? ⟨x, 9, none⟩ = some (.int .u32 c.prrr) ∧ W'.cell? ⟨x, 10, none⟩ = some (.int .u32 c.nmrr) ∧ W'.cell? ⟨x, 11, none⟩ = some (.int .i64 c.asid) ∧ W'.cell? ⟨g, o + k, none⟩ = some (.int .u32 v)) := fun W' h => ⟨(HK1.out.B.below h).cell 0, (HK1.out.C.below h).cell 0, (HK1.out.C.below h).cell 1, (HK1.out.C.below h).cell 2, (HK1.out.C.below h).cell 3, (HK1.out.C.below h).cell 4, (HK1.out.C.below h).cell 5, (HK1.out.C.below h).cell 6, (HK1.out.C.below h).cell 7, (HK1.out.C.below h).cell 8, (HK1.out.C.below h).cell 9, (HK1.out.C.below h).cell 10, (HK1.out.C.below h).cell 11, (h.cell (cell_lt d0)).trans d0⟩
            generalize (goF (ramMo N m) c v (bits .and .i64 (q : Int) 1 == 1) ((q : Int) / 2)).1 = A at *
            generalize (goF (ramMo N m) c v (bits .and .i64 (q : Int) 1 == 1) ((q : Int) / 2)).2 = F at *
            have eF := eqF F F
            rw [Fa.same_self] at eF
            go_wp2_with fail
            have HB1 := hidW (Below.refl wr.heap.size wr)
            have hs1 := HB1.out.size
            go_cut [16, 17] from 44 to 61 (fun s1 s2 wx => s1 = .int .u64 (A) ∧ ∃ b2, s2 = .pointer (some ⟨b2, 0, none⟩) ∧ Hid (Gof wr wx b2 (F)))
            case first =>
              go_region_held3 (fun w' => w'.cell? ⟨B, 0, none⟩ = some (.pointer (some ⟨p, 0, none⟩)) ∧ w'.cell? ⟨x, 0, none⟩ = some (.bool c.on) ∧ w'.cell? ⟨x, 1, none⟩ = some (.bool c.tre) ∧ w'.cell? ⟨x, 2, none⟩ = some (.bool c.afe) ∧ w'.cell? ⟨x, 3, none⟩ = some (.int .i64 c.n) ∧ w'.cell? ⟨x, 4, none⟩ = some (.bool c.pd0) ∧ w'.cell? ⟨x, 5, none⟩ = some (.bool c.pd1) ∧ w'.cell? ⟨x, 6, none⟩ = some (.int .u64 c.b0) ∧ w'.cell? ⟨x, 7, none⟩ = some (.int .u64 c.b1) ∧ w'.cell? ⟨x, 8, none⟩ = some (.int .u32 c.dacr) ∧ w'.cell? ⟨x, 9, none⟩ = some (.int .u32 c.prrr) ∧ w'.cell? ⟨x, 10, none⟩ = some (.int .u32 c.nmrr) ∧ w'.cell? ⟨x, 11, none⟩ = some (.int .i64 c.asid) ∧ w'.cell? ⟨g, o + k, none⟩ = some (.int .u32 v)) (exact hS _ (by ((repeat (first | (with_reducible refine Below.setCell ?_ (by first | exact Nat.le_refl _ | (dsimp only; omega)) _) | (with_reducible refine Below.alloc ?_ (by first | omega | (simp; omega) | simp) _) | (with_reducible refine below_drew ?_))); (first | (with_reducible exact HB1.out) | (with_reducible exact Below.refl _ _))))) (first | (go_at_call 6; refine (HC1.out _ (by ((repeat (first | (with_reducible refine Below.setCell ?_ (by first | exact Nat.le_refl _ | (dsimp only; omega)) _) | (with_reducible refine Below.alloc ?_ (by first | omega | (simp; omega) | simp) _) | (with_reducible refine below_drew ?_))); (first | (with_reducible exact HB1.out) | (with_reducible exact Below.refl _ _))))).mono ?_; rintro e w1 ⟨rfl, hb⟩; (try (have hB : Bl w1 (wr.heap.size) 32 [.int .i64 0, .int .i64 0, .int .i64 0] := (by with_reducible exact Bl.below ((Bl.new wr 32 [.int .i64 0, .int .i64 0, .int .i64 0]).drew) hb); have cB := hB.cell; have gB := hB.frozen; have lB := hB.lt)); have HB2 : Hid (Below wr.heap.size wr w1) := Below.step (by ((repeat (first | (with_reducible refine Below.setCell ?_ (by first | exact Nat.le_refl _ | (dsimp only; omega)) _) | (with_reducible refine Below.alloc ?_ (by first | omega | (simp; omega) | simp) _) | (with_reducible refine below_drew ?_))); (first | (with_reducible exact HB1.out) | (with_reducible exact Below.refl _ _)))) hb; have HB1 := HB2; have hs1 := HB1.out.size; clear hb))
              all_goals
                go_wp2_with fail
                go_meet
                first
                  | (with_reducible exact ⟨rfl, _, rfl, hidW (gof1 HB1.out _)⟩)
                  | (with_reducible exact ⟨rfl, _, rfl, hidW (gof2 HB1.out _ _ (Nat.le_refl _) hB)⟩)
            case rest =>
              obtain ⟨rfl, b1, rfl, HG⟩ := hcut
              have HK2 := hidW (HK1.out.below HG.out.bel)
              have HGF := hidW HG.out.F
              have d1 : wc.cell? ⟨g, o + k, none⟩ = some (.int .u32 v) := (HG.out.bel.cell (cell_lt d0)).trans d0
              clear HK1 HG HC1 hS HB1 hs1 d0
              have HC3 := hidW (fun ww (hb : Below wc.heap.size wc ww) => HC2.out ww (HK2.out.below hb))
              generalize wc = wq at *
              have hS : ∀ W', Below wq.heap.size wq W' → (W'.cell? ⟨B, 1, none⟩ = some (.pointer (some ⟨r, 0, none⟩)) ∧ W'.cell? ⟨x, 0, none⟩ = some (.bool c.on) ∧ W'.cell? ⟨x, 1, none⟩ = some (.bool c.tre) ∧ W'.cell? ⟨x, 2, none⟩ = some (.bool c.afe) ∧ W'.cell? ⟨x, 3, none⟩ = some (.int .i64 c.n) ∧ W'.cell? ⟨x, 4, none⟩ = some (.bool c.pd0) ∧ W'.cell? ⟨x, 5, none⟩ = some (.bool c.pd1) ∧ W'.cell? ⟨x, 6, none⟩ = some (.int .u64 c.b0) ∧ W'.cell? ⟨x, 7, none⟩ = some (.int .u64 c.b1) ∧ W'.cell? ⟨x, 8, none⟩ = some (.int .u32 c.dacr) ∧ W'.cell? ⟨x, 9, none⟩ = some (.int .u32 c.prrr) ∧ W'.cell? ⟨x, 10, none⟩ = some (.int .u32 c.nmrr) ∧ W'.cell? ⟨x, 11, none⟩ = some (.int .i64 c.asid) ∧ W'.cell? ⟨g, o + k, none⟩ = some (.int .u32 v)) := fun W' h => ⟨(HK2.out.B.below h).cell 1, (HK2.out.C.below h).cell 0, (HK2.out.C.below h).cell 1, (HK2.out.C.below h).cell 2, (HK2.out.C.below h).cell 3, (HK2.out.C.below h).cell 4, (HK2.out.C.below h).cell 5, (HK2.out.C.below h).cell 6, (HK2.out.C.below h).cell 7, (HK2.out.C.below h).cell 8, (HK2.out.C.below h).cell 9, (HK2.out.C.below h).cell 10, (HK2.out.C.below h).cell 11, (h.cell (cell_lt d1)).trans d1⟩
              go_wp2_with fail
              have HB1 := hidW (Below.refl wq.heap.size wq)
              have hs1 := HB1.out.size
              go_cut [18, 19] from 62 to 78 (fun s1 s2 wx => s1 = .int .u64 (A) ∧ ∃ b2, s2 = .pointer (some ⟨b2, 0, none⟩) ∧ Hid (Gof wq wx b2 (F)))
              case first =>
                go_region_held3 (fun w' => w'.cell? ⟨B, 1, none⟩ = some (.pointer (some ⟨r, 0, none⟩)) ∧ w'.cell? ⟨x, 0, none⟩ = some (.bool c.on) ∧ w'.cell? ⟨x, 1, none⟩ = some (.bool c.tre) ∧ w'.cell? ⟨x, 2, none⟩ = some (.bool c.afe) ∧ w'.cell? ⟨x, 3, none⟩ = some (.int .i64 c.n) ∧ w'.cell? ⟨x, 4, none⟩ = some (.bool c.pd0) ∧ w'.cell? ⟨x, 5, none⟩ = some (.bool c.pd1) ∧ w'.cell? ⟨x, 6, none⟩ = some (.int .u64 c.b0) ∧ w'.cell? ⟨x, 7, none⟩ = some (.int .u64 c.b1) ∧ w'.cell? ⟨x, 8, none⟩ = some (.int .u32 c.dacr) ∧ w'.cell? ⟨x, 9, none⟩ = some (.int .u32 c.prrr) ∧ w'.cell? ⟨x, 10, none⟩ = some (.int .u32 c.nmrr) ∧ w'.cell? ⟨x, 11, none⟩ = some (.int .i64 c.asid) ∧ w'.cell? ⟨g, o + k, none⟩ = some (.int .u32 v)) (exact hS _ (by ((repeat (first | (with_reducible refine Below.setCell ?_ (by first | exact Nat.le_refl _ | (dsimp only; omega)) _) | (with_reducible refine Below.alloc ?_ (by first | omega | (simp; omega) | simp) _) | (with_reducible refine below_drew ?_))); (first | (with_reducible exact HB1.out) | (with_reducible exact Below.refl _ _))))) (first | (go_at_call 7; refine (HC3.out _ (by ((repeat (first | (with_reducible refine Below.setCell ?_ (by first | exact Nat.le_refl _ | (dsimp only; omega)) _) | (with_reducible refine Below.alloc ?_ (by first | omega | (simp; omega) | simp) _) | (with_reducible refine below_drew ?_))); (first | (with_reducible exact HB1.out) | (with_reducible exact Below.refl _ _))))).mono ?_; rintro e w1 ⟨rfl, hb⟩; (try (have hB : Bl w1 (wq.heap.size) 32 [.int .i64 0, .int .i64 0, .int .i64 0] := (by with_reducible exact Bl.below ((Bl.new wq 32 [.int .i64 0, .int .i64 0, .int .i64 0]).drew) hb); have cB := hB.cell; have gB := hB.frozen; have lB := hB.lt)); have HB2 : Hid (Below wq.heap.size wq w1) := Below.step (by ((repeat (first | (with_reducible refine Below.setCell ?_ (by first | exact Nat.le_refl _ | (dsimp only; omega)) _) | (with_reducible refine Below.alloc ?_ (by first | omega | (simp; omega) | simp) _) | (with_reducible refine below_drew ?_))); (first | (with_reducible exact HB1.out) | (with_reducible exact Below.refl _ _)))) hb; have HB1 := HB2; have hs1 := HB1.out.size; clear hb))
                all_goals
                  go_wp2_with fail
                  go_meet
                  first
                    | (with_reducible exact ⟨rfl, _, rfl, hidW (gof1 HB1.out _)⟩)
                    | (with_reducible exact ⟨rfl, _, rfl, hidW (gof2 HB1.out _ _ (Nat.le_refl _) hB)⟩)
              case rest =>
                obtain ⟨rfl, b2, rfl, HG⟩ := hcut
                have HK3 := hidW (HK2.out.below HG.out.bel)
                have cB := (HGF.out.below HG.out.bel).cell
                have cD := HG.out.F.cell
                clear HK2 HG HC2 HC3 hS HB1 hs1 d1 HGF
                go_wp2
                go_roundw
                case rel => exact ⟨q + 1, by omega, by go_num, HK3.out⟩
                case measure => simp [intOf]; omega
        · obtain rfl : q = 8 := by omega
          go_wp2
          go_roundw
          case rel => exact ⟨k + 1, by omega, by go_num, HK1.out⟩
          case measure => simp [intOf]; omega
    · obtain rfl : k = n := by omega
      have HB := hidW HK.out.bel
      clear HK
      go_wp2
      go_ret
      exact ⟨rfl, HB.out⟩
set_option maxRecDepth 100000 in
theorem law_go_bad (W : World) (f : Int) (hf : f < 1 ∨ 65536 < f) (s s2 : Value) (c : Ctx) (kd : Int) :
    Calls Tryd.prog 3 #[.int .i64 f, s, .agg #[.bool c.on, .bool c.tre, .bool c.afe, .int .i64 c.n, .bool c.pd0, .bool c.pd1, .int .u64 c.b0, .int .u64 c.b1, .int .u32 c.dacr, .int .u32 c.prrr, .int .u32 c.nmrr, .int .i64 c.asid], s2, .int .i64 kd] W fun e W' => e = .returned (.bool true) ∧ Below W.heap.size W W' := by
  have HB := hidW (fun ww => begin_bad ww f s hf)
  have HE := hidW (below_new W (.cells #[.bool c.on, .bool c.tre, .bool c.afe, .int .i64 c.n, .bool c.pd0, .bool c.pd1, .int .u64 c.b0, .int .u64 c.b1, .int .u32 c.dacr, .int .u32 c.prrr, .int .u32 c.nmrr, .int .i64 c.asid] 26))
  clear hf
  go_enter Tryd.func3, Tryd.ntmps3
  go_wp2_with fail
  go_at_call 5
  refine (HB.out _).mono ?_
  rintro e w1 ⟨rfl, rfl⟩
  go_wp2
  go_ret
  exact ⟨rfl, HE.out⟩
theorem law_go (W : World) (f : Int) (a : Option Addr) (cap : Nat) (ps : List Pt) (hp : PutsAt W a ps) (hl : ps.length ≤ 9223372036854775807) (c : Ctx) (hc : c.Ok) (a2 : Option Addr) (cap2 : Nat) (vs : List Int) (hw : Ws W a2 vs) (hl2 : vs.length ≤ 9223372036854775807) (kd : Int) (ht : TC W) :
    Calls Tryd.prog 3 #[.int .i64 f, .slice a ps.length cap, .agg #[.bool c.on, .bool c.tre, .bool c.afe, .int .i64 c.n, .bool c.pd0, .bool c.pd1, .int .u64 c.b0, .int .u64 c.b1, .int .u32 c.dacr, .int .u32 c.prrr, .int .u32 c.nmrr, .int .i64 c.asid], .slice a2 vs.length cap2, .int .i64 kd] W fun e W' => e = .returned (.bool true) ∧ Below W.heap.size W W' := by
  by_cases hf : f < 1 ∨ 65536 < f
  · exact law_go_bad W f hf _ _ c kd
  · obtain ⟨N, rfl⟩ : ∃ N : Nat, f = N := ⟨f.toNat, by omega⟩
    exact law_go_core W N (by omega) (by omega) a cap ps hp hl c hc a2 cap2 vs hw hl2 kd ht
end Go.Proofs.YtmodcbdgnmjkoabDoor
