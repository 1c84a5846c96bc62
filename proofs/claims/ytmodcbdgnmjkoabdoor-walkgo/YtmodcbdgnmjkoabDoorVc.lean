import Derived.Test.YtmodcbdgnmjkoabDoorVb
namespace Go.Proofs.YtmodcbdgnmjkoabDoor
open Go.RowKit
open Mm (Turn gr PM RM valV errV Byts)
set_option linter.unusedVariables false
set_option linter.unusedSimpArgs false
/-- No memory at all is asked. -/
abbrev St0 : List Int → (Nat → Prop) → World → Prop := Pu (fun _ => False) .nilIface nilMo
theorem A0 (H : Nat) : Asker H nilMo .nilIface St0 := asker_pure H nilMo_ok
theorem St0.new {w : World} (ht : TW w) : St0 [] (fun b => b < w.heap.size) w := ⟨.inr ⟨rfl, rfl, fun _ h => h⟩, fun _ h => h.elim, fun b hb => ht.low hb, fun b hb => hb, ht⟩
theorem Fin.bel {w W : World} {L : List Int} (h : Fin w.heap.size St0 w (fun b => b < w.heap.size) L W) : Below w.heap.size w W := h.2.to (fun x hx => hx.2) (Nat.le_refl _)
theorem Fw.bel {w W : World} {Zr : Nat → Prop} {L : List Int} (h : Fw w.heap.size St0 w (fun b => b < w.heap.size) L W Zr) : Below w.heap.size w W := h.trn.to (fun x hx => hx.2) (Nat.le_refl _)
theorem Us.one {w : World} {g : Nat} {t : TypeId} {a : Int} (h : Bl w g t [.int .u64 a]) : Us w (.slice (some ⟨g, 0, none⟩) 1 1) [a] := by
  refine ⟨some ⟨g, 0, none⟩, 1, rfl, fun i x hx => ⟨g, 0, rfl, ?_⟩⟩
  rw [Nat.zero_add, h.cell i]
  match i, hx with
  | 0, hx => simpa using hx
theorem Us.two {w : World} {g : Nat} {t : TypeId} {a b : Int} (h : Bl w g t [.int .u64 a, .int .u64 b]) : Us w (.slice (some ⟨g, 0, none⟩) 2 2) [a, b] := by
  refine ⟨some ⟨g, 0, none⟩, 2, rfl, fun i x hx => ⟨g, 0, rfl, ?_⟩⟩
  rw [Nat.zero_add, h.cell i]
  match i, hx with
  | 0, hx => simpa using hx
  | 1, hx => simpa using hx
set_option maxRecDepth 100000 in
set_option maxHeartbeats 2000000 in
theorem steps_off (c : Ctx) (va : Int) (w : World) {S : Nat → Prop} {rv : Value} {M : Mo} (hm : MemR w S rv M) (ht : TW w) (hc : c.Ok) (hv : 0 ≤ va ∧ va < 4294967296) (hon : c.on = false) :
    Calls Tryd.prog 34 #[rv, .agg #[.bool c.on, .bool c.tre, .bool c.afe, .int .i64 c.n, .bool c.pd0, .bool c.pd1, .int .u64 c.b0, .int .u64 c.b1, .int .u32 c.dacr, .int .u32 c.prrr, .int .u32 c.nmrr, .int .i64 c.asid], .int .u32 va] w fun e w' => ∃ v, e = .returned (.tuple #[.agg #[.int .i64 (itF va).size, .int .u32 (itF va).va, .int .u64 (itF va).pa, .int .i64 (itF va).dom, .int .i64 (itF va).ap, .int .u32 (itF va).bits, .bool (itF va).ng, .bool (itF va).xn], .agg #[.int .i64 0, .int .i64 0, .int .i64 0], v]) ∧ Us w' v [] ∧ Below w.heap.size w w' := by
  have HI := hidW (fun ww => flat_any va ww hv)
  have HX := hidW (F3.new (A0 w.heap.size) (St0.new ht) 26 49 32 [.bool c.on, .bool c.tre, .bool c.afe, .int .i64 c.n, .bool c.pd0, .bool c.pd1, .int .u64 c.b0, .int .u64 c.b1, .int .u32 c.dacr, .int .u32 c.prrr, .int .u32 c.nmrr, .int .i64 c.asid] [.int .i64 0, .int .u32 0, .int .u64 0, .int .i64 0, .int .i64 0, .int .u32 0, .bool false, .bool false] [.int .i64 0, .int .i64 0, .int .i64 0])
  have A := A0 w.heap.size
  rw [hon] at HX ⊢
  go_enter Tryd.func34, Tryd.ntmps34
  go_wp2_with fail
  go_at_call 66
  refine (HI.out _).mono ?_
  rintro e wa ⟨rfl, hb⟩
  have HX1 := hidW (HX.out.below A hb)
  clear hb HX HI
  generalize w.heap.size + 1 + 1 = z at *
  generalize w.heap.size + 1 = y at *
  have c1 := HX1.out.b.bl.cell
  have f1 := HX1.out.b.bl.frozen
  have c2 := HX1.out.c.bl.cell
  have f2 := HX1.out.c.bl.frozen
  have n1 : ¬ y = z := by have := HX1.out.hz; omega
  have n2 : ¬ z = y := by have := HX1.out.hz; omega
  have l1 := HX1.out.b.bl.lt
  have l2 := HX1.out.c.bl.lt
  go_wp2
  refine bodyPost_ret (v := .tuple #[.agg #[.int .i64 (itF va).size, .int .u32 (itF va).va, .int .u64 (itF va).pa, .int .i64 (itF va).dom, .int .i64 (itF va).ap, .int .u32 (itF va).bits, .bool (itF va).ng, .bool (itF va).xn], .agg #[.int .i64 0, .int .i64 0, .int .i64 0], .slice none 0 0]) (by simp [results, Tryd.results34, go_sem, c1, f1, c2, f2, n1, n2, l1, l2, tZ]) rfl ⟨_, rfl, Us.nil _, (HX1.out.fin11 A _ _ _ _ _ _ _ _ _ _ _).bel⟩
set_option maxRecDepth 100000 in
set_option maxHeartbeats 2000000 in
theorem steps_shut (c : Ctx) (va : Int) (w : World) {S : Nat → Prop} {rv : Value} {M : Mo} (hm : MemR w S rv M) (ht : TW w) (hc : c.Ok) (hv : 0 ≤ va ∧ va < 4294967296) (hon : c.on = true) (hO : fO c va = false) :
    Calls Tryd.prog 34 #[rv, .agg #[.bool c.on, .bool c.tre, .bool c.afe, .int .i64 c.n, .bool c.pd0, .bool c.pd1, .int .u64 c.b0, .int .u64 c.b1, .int .u32 c.dacr, .int .u32 c.prrr, .int .u32 c.nmrr, .int .i64 c.asid], .int .u32 va] w fun e w' => ∃ v, e = .returned (.tuple #[.agg #[.int .i64 tZ.size, .int .u32 tZ.va, .int .u64 tZ.pa, .int .i64 tZ.dom, .int .i64 tZ.ap, .int .u32 tZ.bits, .bool tZ.ng, .bool tZ.xn], .agg #[.int .i64 3, .int .i64 0, .int .i64 0], v]) ∧ Us w' v [] ∧ Below w.heap.size w w' := by
  have HA := hidW (fun ww => vfirst_any c va ww hc hv)
  rw [hO, hon] at HA
  have HX := hidW (F3.new (A0 w.heap.size) (St0.new ht) 26 49 32 [.bool c.on, .bool c.tre, .bool c.afe, .int .i64 c.n, .bool c.pd0, .bool c.pd1, .int .u64 c.b0, .int .u64 c.b1, .int .u32 c.dacr, .int .u32 c.prrr, .int .u32 c.nmrr, .int .i64 c.asid] [.int .i64 0, .int .u32 0, .int .u64 0, .int .i64 0, .int .i64 0, .int .u32 0, .bool false, .bool false] [.int .i64 0, .int .i64 0, .int .i64 0])
  have A := A0 w.heap.size
  rw [hon] at HX ⊢
  go_enter Tryd.func34, Tryd.ntmps34
  go_wp2_with fail
  go_at_call 18
  refine (HA.out _).mono ?_
  rintro e wa ⟨rfl, hb⟩
  have HX1 := hidW (HX.out.below A hb)
  clear hb HX HA
  generalize w.heap.size + 1 + 1 = z at *
  generalize w.heap.size + 1 = y at *
  have c1 := HX1.out.b.bl.cell
  have f1 := HX1.out.b.bl.frozen
  have c2 := HX1.out.c.bl.cell
  have f2 := HX1.out.c.bl.frozen
  have n1 : ¬ y = z := by have := HX1.out.hz; omega
  have n2 : ¬ z = y := by have := HX1.out.hz; omega
  have l1 := HX1.out.b.bl.lt
  have l2 := HX1.out.c.bl.lt
  go_wp2
  refine bodyPost_ret (v := .tuple #[.agg #[.int .i64 tZ.size, .int .u32 tZ.va, .int .u64 tZ.pa, .int .i64 tZ.dom, .int .i64 tZ.ap, .int .u32 tZ.bits, .bool tZ.ng, .bool tZ.xn], .agg #[.int .i64 3, .int .i64 0, .int .i64 0], .slice none 0 0]) (by simp [results, Tryd.results34, go_sem, c1, f1, c2, f2, n1, n2, l1, l2, tZ]) rfl ⟨_, rfl, Us.nil _, (HX1.out.fin11 A _ _ _ _ _ _ _ _ _ _ _).bel⟩
set_option maxRecDepth 100000 in
set_option maxHeartbeats 2000000 in
theorem steps_bus (c : Ctx) (va : Int) (w : World) {S : Nat → Prop} {rv : Value} {M : Mo} (hm : MemR w S rv M) (ht : TW w) (hc : c.Ok) (hv : 0 ≤ va ∧ va < 4294967296) (hon : c.on = true) (hO : fO c va = true) (x er : Int) (hx : M.wd (fA c va) = x) (he : M.er (fA c va) = er) (hne : ¬ er = 0) :
    Calls Tryd.prog 34 #[rv, .agg #[.bool c.on, .bool c.tre, .bool c.afe, .int .i64 c.n, .bool c.pd0, .bool c.pd1, .int .u64 c.b0, .int .u64 c.b1, .int .u32 c.dacr, .int .u32 c.prrr, .int .u32 c.nmrr, .int .i64 c.asid], .int .u32 va] w fun e w' => ∃ v, e = .returned (.tuple #[.agg #[.int .i64 tZ.size, .int .u32 tZ.va, .int .u64 tZ.pa, .int .i64 tZ.dom, .int .i64 tZ.ap, .int .u32 tZ.bits, .bool tZ.ng, .bool tZ.xn], .agg #[.int .i64 2, .int .i64 0, .int .i64 0], v]) ∧ Us w' v [fA c va] ∧ Below w.heap.size w w' := by
  have hq : (er != 0) = true := by simp [hne]
  have HA := hidW (fun ww => vfirst_any c va ww hc hv)
  rw [hO, hon] at HA
  have HX := hidW (F3.new (A0 w.heap.size) (St0.new ht) 26 49 32 [.bool c.on, .bool c.tre, .bool c.afe, .int .i64 c.n, .bool c.pd0, .bool c.pd1, .int .u64 c.b0, .int .u64 c.b1, .int .u32 c.dacr, .int .u32 c.prrr, .int .u32 c.nmrr, .int .i64 c.asid] [.int .i64 0, .int .u32 0, .int .u64 0, .int .i64 0, .int .i64 0, .int .u32 0, .bool false, .bool false] [.int .i64 0, .int .i64 0, .int .i64 0])
  have A := A0 w.heap.size
  rw [hon] at HX ⊢
  go_enter Tryd.func34, Tryd.ntmps34
  go_wp2_with fail
  go_at_call 18
  refine (HA.out _).mono ?_
  rintro e wa ⟨rfl, hb⟩
  have HX1 := hidW (HX.out.below A hb)
  clear hb HX HA
  generalize w.heap.size + 1 + 1 = z at *
  generalize w.heap.size + 1 = y at *
  have HK := hidW ((hm.below HX1.out.f.bel).word (fA c va) (fA_rng c va hc hv).1 (fA_rng c va hc hv).2)
  rw [hx, he] at HK
  go_wp2_with fail
  go_at_call 19
  refine HK.out.mono ?_
  rintro e wb ⟨rfl, rfl⟩
  clear HK
  have HX2 := hidW (HX1.out.below A (below_new wa (.cells #[.int .u64 (fA c va)] 23)))
  have c1 := HX2.out.b.bl.cell
  have f1 := HX2.out.b.bl.frozen
  have c2 := HX2.out.c.bl.cell
  have f2 := HX2.out.c.bl.frozen
  have n1 : ¬ y = z := by have := HX2.out.hz; omega
  have n2 : ¬ z = y := by have := HX2.out.hz; omega
  go_wp2
  refine bodyPost_ret (v := .tuple #[.agg #[.int .i64 tZ.size, .int .u32 tZ.va, .int .u64 tZ.pa, .int .i64 tZ.dom, .int .i64 tZ.ap, .int .u32 tZ.bits, .bool tZ.ng, .bool tZ.xn], .agg #[.int .i64 2, .int .i64 0, .int .i64 0], .slice (some ⟨wa.heap.size, 0, none⟩) 1 1]) (by simp [results, Tryd.results34, go_sem, c1, f1, c2, f2, n1, n2, tZ]) rfl ⟨_, rfl, Us.one (Bl.keep3 (Bl.keep8 (Bl.new wa 23 [.int .u64 (fA c va)]) (by have := HX1.out.b.bl.lt; omega) _ _ _ _ _ _ _ _) (by have := HX1.out.c.bl.lt; omega) _ _ _), (HX2.out.fin11 A _ _ _ _ _ _ _ _ _ _ _).bel⟩
set_option maxRecDepth 100000 in
set_option maxHeartbeats 2000000 in
theorem steps_zero (c : Ctx) (va : Int) (w : World) {S : Nat → Prop} {rv : Value} {M : Mo} (hm : MemR w S rv M) (ht : TW w) (hc : c.Ok) (hv : 0 ≤ va ∧ va < 4294967296) (hon : c.on = true) (hO : fO c va = true) (x er : Int) (hx : M.wd (fA c va) = x) (he : M.er (fA c va) = er) (h0 : er = 0) (k1 k2 k3 : Int) (k4 : Bool) (k5 k6 : Int) (k7 k8 : Bool) (hd : D1 x = ⟨k1, k2, k3, k4, k5, k6, k7, k8⟩) (hk : k1 = 0) :
    Calls Tryd.prog 34 #[rv, .agg #[.bool c.on, .bool c.tre, .bool c.afe, .int .i64 c.n, .bool c.pd0, .bool c.pd1, .int .u64 c.b0, .int .u64 c.b1, .int .u32 c.dacr, .int .u32 c.prrr, .int .u32 c.nmrr, .int .i64 c.asid], .int .u32 va] w fun e w' => ∃ v, e = .returned (.tuple #[.agg #[.int .i64 tZ.size, .int .u32 tZ.va, .int .u64 tZ.pa, .int .i64 tZ.dom, .int .i64 tZ.ap, .int .u32 tZ.bits, .bool tZ.ng, .bool tZ.xn], .agg #[.int .i64 3, .int .i64 0, .int .i64 0], v]) ∧ Us w' v [fA c va] ∧ Below w.heap.size w w' := by
  subst h0
  have hx0 : 0 ≤ x ∧ x < 4294967296 := by rw [← hx]; exact hm.ok _
  have HD := hidW (fun ww => rdec1_any x ww hx0)
  rw [hd] at HD
  clear hd
  subst hk
  have HA := hidW (fun ww => vfirst_any c va ww hc hv)
  rw [hO, hon] at HA
  have HX := hidW (F3.new (A0 w.heap.size) (St0.new ht) 26 49 32 [.bool c.on, .bool c.tre, .bool c.afe, .int .i64 c.n, .bool c.pd0, .bool c.pd1, .int .u64 c.b0, .int .u64 c.b1, .int .u32 c.dacr, .int .u32 c.prrr, .int .u32 c.nmrr, .int .i64 c.asid] [.int .i64 0, .int .u32 0, .int .u64 0, .int .i64 0, .int .i64 0, .int .u32 0, .bool false, .bool false] [.int .i64 0, .int .i64 0, .int .i64 0])
  have A := A0 w.heap.size
  rw [hon] at HX ⊢
  go_enter Tryd.func34, Tryd.ntmps34
  go_wp2_with fail
  go_at_call 18
  refine (HA.out _).mono ?_
  rintro e wa ⟨rfl, hb⟩
  have HX1 := hidW (HX.out.below A hb)
  clear hb HX HA
  generalize w.heap.size + 1 + 1 = z at *
  generalize w.heap.size + 1 = y at *
  have HK := hidW ((hm.below HX1.out.f.bel).word (fA c va) (fA_rng c va hc hv).1 (fA_rng c va hc hv).2)
  rw [hx, he] at HK
  go_wp2_with fail
  go_at_call 19
  refine HK.out.mono ?_
  rintro e wb ⟨rfl, rfl⟩
  clear HK
  go_wp2_with fail
  go_at_call 20
  refine (HD.out _).mono ?_
  rintro e wc ⟨rfl, hb⟩
  have HX2 := hidW (HX1.out.below A hb)
  clear hb HX1 HD
  have HX3 := hidW (HX2.out.below A (below_new wc (.cells #[.int .i64 0, .int .u64 k2, .int .i64 k3, .bool k4, .int .i64 k5, .int .u32 k6, .bool k7, .bool k8] 70)))
  have HX4 := hidW (HX3.out.below A (below_new _ (.cells #[.int .u64 (fA c va)] 23)))
  have hsz : (wc.alloc (.cells #[.int .i64 0, .int .u64 k2, .int .i64 k3, .bool k4, .int .i64 k5, .int .u32 k6, .bool k7, .bool k8] 70)).heap.size = wc.heap.size + 1 := by simp
  have HN := hidW (Bl.new (wc.alloc (.cells #[.int .i64 0, .int .u64 k2, .int .i64 k3, .bool k4, .int .i64 k5, .int .u32 k6, .bool k7, .bool k8] 70)) 23 [.int .u64 (fA c va)])
  rw [hsz] at HN
  have c1 := HX4.out.b.bl.cell
  have f1 := HX4.out.b.bl.frozen
  have c2 := HX4.out.c.bl.cell
  have f2 := HX4.out.c.bl.frozen
  have n1 : ¬ y = z := by have := HX4.out.hz; omega
  have n2 : ¬ z = y := by have := HX4.out.hz; omega
  have m1 : wc.heap.size + 1 ≠ y := by have := HX2.out.b.bl.lt; omega
  have m2 : wc.heap.size + 1 ≠ z := by have := HX2.out.c.bl.lt; omega
  go_wp2
  refine bodyPost_ret (v := .tuple #[.agg #[.int .i64 tZ.size, .int .u32 tZ.va, .int .u64 tZ.pa, .int .i64 tZ.dom, .int .i64 tZ.ap, .int .u32 tZ.bits, .bool tZ.ng, .bool tZ.xn], .agg #[.int .i64 3, .int .i64 0, .int .i64 0], .slice (some ⟨wc.heap.size + 1, 0, none⟩) 1 1]) (by simp [results, Tryd.results34, go_sem, c1, f1, c2, f2, n1, n2, tZ]) rfl ⟨_, rfl, Us.one (Bl.keep3 (Bl.keep8 HN.out m1 _ _ _ _ _ _ _ _) m2 _ _ _), (HX4.out.fin11 A _ _ _ _ _ _ _ _ _ _ _).bel⟩
set_option maxRecDepth 100000 in
set_option maxHeartbeats 2000000 in
theorem steps_blk (c : Ctx) (va : Int) (w : World) {S : Nat → Prop} {rv : Value} {M : Mo} (hm : MemR w S rv M) (ht : TW w) (hc : c.Ok) (hv : 0 ≤ va ∧ va < 4294967296) (hon : c.on = true) (hO : fO c va = true) (x er : Int) (hx : M.wd (fA c va) = x) (he : M.er (fA c va) = er) (h0 : er = 0) (k1 k2 k3 : Int) (k4 : Bool) (k5 k6 : Int) (k7 k8 : Bool) (hd : D1 x = ⟨k1, k2, k3, k4, k5, k6, k7, k8⟩) (hk : ¬ k1 = 0) (hk1 : ¬ k1 = 1) (u : Tra) (hu : trF ⟨k1, k2, k3, k4, k5, k6, k7, k8⟩ 0 va = u) :
    Calls Tryd.prog 34 #[rv, .agg #[.bool c.on, .bool c.tre, .bool c.afe, .int .i64 c.n, .bool c.pd0, .bool c.pd1, .int .u64 c.b0, .int .u64 c.b1, .int .u32 c.dacr, .int .u32 c.prrr, .int .u32 c.nmrr, .int .i64 c.asid], .int .u32 va] w fun e w' => ∃ v, e = .returned (.tuple #[.agg #[.int .i64 u.size, .int .u32 u.va, .int .u64 u.pa, .int .i64 u.dom, .int .i64 u.ap, .int .u32 u.bits, .bool u.ng, .bool u.xn], .agg #[.int .i64 0, .int .i64 0, .int .i64 0], v]) ∧ Us w' v [fA c va] ∧ Below w.heap.size w w' := by
  subst h0
  have hx0 : 0 ≤ x ∧ x < 4294967296 := by rw [← hx]; exact hm.ok _
  have HD := hidW (fun ww => rdec1_any x ww hx0)
  rw [hd] at HD
  have HT := hidW (fun ww => rtrans_any (D1 x) 0 va ww (ok_D1 x hx0).1 hv)
  rw [hd, hu] at HT
  clear hd hu
  have hq : (k1 == 0) = false := by simp [hk]
  have hq1 : (k1 != 1) = true := by simp [hk1]
  have HA := hidW (fun ww => vfirst_any c va ww hc hv)
  rw [hO, hon] at HA
  have HX := hidW (F3.new (A0 w.heap.size) (St0.new ht) 26 49 32 [.bool c.on, .bool c.tre, .bool c.afe, .int .i64 c.n, .bool c.pd0, .bool c.pd1, .int .u64 c.b0, .int .u64 c.b1, .int .u32 c.dacr, .int .u32 c.prrr, .int .u32 c.nmrr, .int .i64 c.asid] [.int .i64 0, .int .u32 0, .int .u64 0, .int .i64 0, .int .i64 0, .int .u32 0, .bool false, .bool false] [.int .i64 0, .int .i64 0, .int .i64 0])
  have A := A0 w.heap.size
  rw [hon] at HX ⊢
  go_enter Tryd.func34, Tryd.ntmps34
  go_wp2_with fail
  go_at_call 18
  refine (HA.out _).mono ?_
  rintro e wa ⟨rfl, hb⟩
  have HX1 := hidW (HX.out.below A hb)
  clear hb HX HA
  generalize w.heap.size + 1 + 1 = z at *
  generalize w.heap.size + 1 = y at *
  have HK := hidW ((hm.below HX1.out.f.bel).word (fA c va) (fA_rng c va hc hv).1 (fA_rng c va hc hv).2)
  rw [hx, he] at HK
  go_wp2_with fail
  go_at_call 19
  refine HK.out.mono ?_
  rintro e wb ⟨rfl, rfl⟩
  clear HK
  go_wp2_with fail
  go_at_call 20
  refine (HD.out _).mono ?_
  rintro e wc ⟨rfl, hb⟩
  have HX2 := hidW (HX1.out.below A hb)
  clear hb HX1 HD
  have HX3 := hidW (HX2.out.below A (below_new wc (.cells #[.int .i64 k1, .int .u64 k2, .int .i64 k3, .bool k4, .int .i64 k5, .int .u32 k6, .bool k7, .bool k8] 70)))
  go_wp2_with fail
  go_at_call 22
  refine (HT.out _).mono ?_
  rintro e wd ⟨rfl, hb⟩
  have HX5 := hidW (HX3.out.below A hb)
  clear hb HX2 HX3 HT
  have HX4 := hidW (HX5.out.below A (below_new wd (.cells #[.int .u64 (fA c va)] 23)))
  have c1 := HX4.out.b.bl.cell
  have f1 := HX4.out.b.bl.frozen
  have c2 := HX4.out.c.bl.cell
  have f2 := HX4.out.c.bl.frozen
  have n1 : ¬ y = z := by have := HX4.out.hz; omega
  have n2 : ¬ z = y := by have := HX4.out.hz; omega
  go_wp2
  refine bodyPost_ret (v := .tuple #[.agg #[.int .i64 u.size, .int .u32 u.va, .int .u64 u.pa, .int .i64 u.dom, .int .i64 u.ap, .int .u32 u.bits, .bool u.ng, .bool u.xn], .agg #[.int .i64 0, .int .i64 0, .int .i64 0], .slice (some ⟨wd.heap.size, 0, none⟩) 1 1]) (by simp [results, Tryd.results34, go_sem, c1, f1, c2, f2, n1, n2, tZ]) rfl ⟨_, rfl, Us.one (Bl.keep3 (Bl.keep8 (Bl.new wd 23 [.int .u64 (fA c va)]) (by have := HX5.out.b.bl.lt; omega) _ _ _ _ _ _ _ _) (by have := HX5.out.c.bl.lt; omega) _ _ _), (HX4.out.fin11 A _ _ _ _ _ _ _ _ _ _ _).bel⟩
end Go.Proofs.YtmodcbdgnmjkoabDoor
