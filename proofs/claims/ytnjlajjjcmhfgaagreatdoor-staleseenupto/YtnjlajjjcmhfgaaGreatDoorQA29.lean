import Derived.Test.YtnjlajjjcmhfgaaGreatDoorQA28
namespace Go.Proofs.YtnjlajjjcmhfgaaGreatDoor
open Go.RowKit Go.Sort Go.Shelf Go.Lib
open Mm (Turn gr RowAt)
set_option linter.unusedVariables false
set_option linter.unusedSimpArgs false
/-- A known block that the walk does not find there. -/
def stB (U : Tra) (asid va : Int) (b : Blo) : Bool := !(b.t.same U) && ovF b va asid
theorem stF_some {M : Mo} {K : List Blo} {J : Jud} {asid va : Int} {c : Ctx} (h : J asid = some c) : stF M K J asid va = K.any (stB (wk M c va).1 asid va) := by
  unfold stF
  rw [h]
  rfl
theorem stF_none {M : Mo} {K : List Blo} {J : Jud} {asid va : Int} (h : J asid = none) : stF M K J asid va = false := by
  unfold stF
  rw [h]
/-- Stale under way. -/
structure SX (W wr : World) (kb r bf : Nat) (K T : List Blo) (U : Tra) (asid va : Int) : Prop where
  bel : Below W.heap.size W wr
  kr : KR wr kb r K T
  bf : Bl wr bf 43 ([.int .i64 U.size, .int .u32 U.va, .int .u64 U.pa, .int .i64 U.dom, .int .i64 U.ap, .int .u32 U.bits, .bool U.ng, .bool U.xn])
  tr : TR wr
  sub : ∀ b ∈ T, b ∈ K
  no : ∀ b ∈ K, b ∉ T → stB U asid va b = false
section
variable {W wr w' : World} {kb r bf : Nat} {K T : List Blo} {U : Tra} {asid va : Int}
theorem SX.below (h : SX W wr kb r bf K T U asid va) (hb : Below wr.heap.size wr w') : SX W w' kb r bf K T U asid va :=
  ⟨Below.step h.bel hb, h.kr.turn (X := fun _ => False) (Turn.below hb) (fun h => h) (fun h => h), h.bf.below hb, h.tr.below hb, h.sub, h.no⟩
theorem SX.next {b : Blo} (h : SX W wr kb r bf K T U asid va) (hr : W.heap.size ≤ r) (hg : wr.grownBy w' (some r)) (hk : KR w' kb r K (rm T b)) (hq : stB U asid va b = false) : SX W w' kb r bf K (rm T b) U asid va := by
  have T1 : Turn (· = r) wr w' := Turn.grown hg (fun k e => by cases e; exact .inl rfl)
  refine ⟨h.bel.trans (T1.to (fun x hx => by subst hx; exact hr) h.bel.size), hk, h.bf.turn T1 (Bl.nr h.kr h.bf), h.tr.turnM T1 (fun x hx _ => by subst hx; exact h.kr.nt.1), fun x hx => h.sub x (mem_rm.1 hx).1, fun x hx hn => ?_⟩
  by_cases e : x = b
  · subst e; exact hq
  · exact h.no x hx (fun hT => hn (mem_rm.2 ⟨hT, e⟩))
theorem SX.left (h : SX W wr kb r bf K T U asid va) (hb : Below wr.heap.size wr w') : w'.rangeLeft kb r = wr.rangeLeft kb r := turn_left (X := fun _ => False) (Turn.below hb) h.kr.lt.2 h.kr.lt.1 (fun h => h) (fun h => h)
end
set_option maxRecDepth 100000 in
set_option maxHeartbeats 4000000 in
theorem stale_none (W : World) (p kb jb : Nat) (K : List Blo) (J : Jud) (h : PK W p kb jb K J) (iv : Value) (asid va : Int) (ha : -9223372036854775808 ≤ asid ∧ asid ≤ 9223372036854775807) (hJ : J asid = none) :
    Calls Tryz.prog 30 #[.pointer (some ⟨p, 0, none⟩), iv, .int .i64 asid, .int .u32 va] W fun e w' => e = .returned (.bool false) ∧ Below W.heap.size W w' := by
  have c1 := h.c1
  have hlk := h.jm.look ha.1 ha.2
  rw [hJ, jd_none hJ] at hlk
  simp only [Option.isSome_none] at hlk
  have HB := hidW (below_new W (.cells ([.bool cZ.on, .bool cZ.tre, .bool cZ.afe, .int .i64 cZ.n, .bool cZ.pd0, .bool cZ.pd1, .int .u64 cZ.b0, .int .u64 cZ.b1, .int .u32 cZ.dacr, .int .u32 cZ.prrr, .int .u32 cZ.nmrr, .int .i64 cZ.asid]).toArray 47))
  clear h hJ
  generalize cZ = z at *
  go_enter Tryz.func30, Tryz.ntmps30
  go_wp2
  go_ret
  exact ⟨rfl, HB.out⟩
set_option maxRecDepth 100000 in
set_option maxHeartbeats 8000000 in
theorem stale_some (W : World) (p kb jb : Nat) (K : List Blo) (J : Jud) (h : PK W p kb jb K J) (S : Nat → Prop) (iv : Value) (M : Mo) (hm : MemP W S iv M) (ht : TS W) (asid va : Int) (ha : -9223372036854775808 ≤ asid ∧ asid ≤ 9223372036854775807) (hv : 0 ≤ va ∧ va < 4294967296) (c : Ctx) (hJ : J asid = some c) :
    Calls Tryz.prog 30 #[.pointer (some ⟨p, 0, none⟩), iv, .int .i64 asid, .int .u32 va] W fun e w' => e = .returned (.bool (K.any (stB (wk M c va).1 asid va))) ∧ Below W.heap.size W w' := by
  have c1 := h.c1
  have hlk := h.jm.look ha.1 ha.2
  rw [hJ, jd_some hJ] at hlk
  simp only [Option.isSome_some] at hlk
  have hc := (h.ok.j _ _ hJ).2.2.1
  have hb0 := below_new W (.cells ([.bool c.on, .bool c.tre, .bool c.afe, .int .i64 c.n, .bool c.pd0, .bool c.pd1, .int .u64 c.b0, .int .u64 c.b1, .int .u32 c.dacr, .int .u32 c.prrr, .int .u32 c.nmrr, .int .i64 c.asid]).toArray 47)
  have HW := hidW (walk_pure c va _ (hm.below hb0) (ht.below hb0).tw hc hv)
  have HP := hidW (h.below hb0)
  have HT := hidW (ht.below hb0)
  have HB := hidW hb0
  have cC := (Bl.new W 47 ([.bool c.on, .bool c.tre, .bool c.afe, .int .i64 c.n, .bool c.pd0, .bool c.pd1, .int .u64 c.b0, .int .u64 c.b1, .int .u32 c.dacr, .int .u32 c.prrr, .int .u32 c.nmrr, .int .i64 c.asid])).cell
  have HO := hidW h.ok
  clear h hJ hc hm ht hb0
  generalize (wk M c va).1 = U at *
  generalize (wk M c va).2 = F at *
  go_enter Tryz.func30, Tryz.ntmps30
  go_wp2_with fail
  go_at_call 32
  refine HW.out.mono ?_
  rintro e w1 ⟨rfl, hb1⟩
  have hb2 : Below (W.alloc (.cells ([.bool c.on, .bool c.tre, .bool c.afe, .int .i64 c.n, .bool c.pd0, .bool c.pd1, .int .u64 c.b0, .int .u64 c.b1, .int .u32 c.dacr, .int .u32 c.prrr, .int .u32 c.nmrr, .int .i64 c.asid]).toArray 47)).heap.size (W.alloc (.cells ([.bool c.on, .bool c.tre, .bool c.afe, .int .i64 c.n, .bool c.pd0, .bool c.pd1, .int .u64 c.b0, .int .u64 c.b1, .int .u32 c.dacr, .int .u32 c.prrr, .int .u32 c.nmrr, .int .i64 c.asid]).toArray 47)) ((w1.alloc (.cells ([.int .i64 U.size, .int .u32 U.va, .int .u64 U.pa, .int .i64 U.dom, .int .i64 U.ap, .int .u32 U.bits, .bool U.ng, .bool U.xn]).toArray 43)).alloc (.cells ([.int .i64 F.k, .int .i64 F.l, .int .i64 F.d]).toArray 88)) := Below.step hb1 (Below.step (below_new _ _) (below_new _ _))
  have hP2 := HP.out.below hb2
  obtain ⟨w3, hr3, hk3, hg3, hs3⟩ := hP2.km.range
  have T3 : Turn (fun _ => False) ((w1.alloc (.cells ([.int .i64 U.size, .int .u32 U.va, .int .u64 U.pa, .int .i64 U.dom, .int .i64 U.ap, .int .u32 U.bits, .bool U.ng, .bool U.xn]).toArray 43)).alloc (.cells ([.int .i64 F.k, .int .i64 F.l, .int .i64 F.d]).toArray 88)) w3 := Turn.grown hg3 (fun k e => by cases e)
  have c0 := hP2.c0
  have hBf : Bl ((w1.alloc (.cells ([.int .i64 U.size, .int .u32 U.va, .int .u64 U.pa, .int .i64 U.dom, .int .i64 U.ap, .int .u32 U.bits, .bool U.ng, .bool U.xn]).toArray 43)).alloc (.cells ([.int .i64 F.k, .int .i64 F.l, .int .i64 F.d]).toArray 88)) w1.heap.size 43 ([.int .i64 U.size, .int .u32 U.va, .int .u64 U.pa, .int .i64 U.dom, .int .i64 U.ap, .int .u32 U.bits, .bool U.ng, .bool U.xn]) := (Bl.new w1 _ _).below (below_new _ _)
  have hBW : Below W.heap.size W ((w1.alloc (.cells ([.int .i64 U.size, .int .u32 U.va, .int .u64 U.pa, .int .i64 U.dom, .int .i64 U.ap, .int .u32 U.bits, .bool U.ng, .bool U.xn]).toArray 43)).alloc (.cells ([.int .i64 F.k, .int .i64 F.l, .int .i64 F.d]).toArray 88)) := Below.step HB.out hb2
  have HX : Hid (SX W w3 kb ((w1.alloc (.cells ([.int .i64 U.size, .int .u32 U.va, .int .u64 U.pa, .int .i64 U.dom, .int .i64 U.ap, .int .u32 U.bits, .bool U.ng, .bool U.xn]).toArray 43)).alloc (.cells ([.int .i64 F.k, .int .i64 F.l, .int .i64 F.d]).toArray 88)).heap.size w1.heap.size K K U asid va) :=
    ⟨((Turn.below (S := fun _ => False) hBW).then T3).to (fun x hx => hx.elim) (Nat.le_refl _), hk3, hBf.turn T3 (fun h => h), (HT.out.below hb2).r.turnM T3 (fun x hx => hx.elim), fun b hb => hb, fun b hb hn => absurd hb hn⟩
  have hrW : W.heap.size ≤ ((w1.alloc (.cells ([.int .i64 U.size, .int .u32 U.va, .int .u64 U.pa, .int .i64 U.dom, .int .i64 U.ap, .int .u32 U.bits, .bool U.ng, .bool U.xn]).toArray 43)).alloc (.cells ([.int .i64 F.k, .int .i64 F.l, .int .i64 F.d]).toArray 88)).heap.size := hBW.size
  clear hb1 hb2 hP2 hk3 hg3 T3 hBf hBW HW HP HT HB hlk cC c1
  generalize hrr : ((w1.alloc (.cells ([.int .i64 U.size, .int .u32 U.va, .int .u64 U.pa, .int .i64 U.dom, .int .i64 U.ap, .int .u32 U.bits, .bool U.ng, .bool U.xn]).toArray 43)).alloc (.cells ([.int .i64 F.k, .int .i64 F.l, .int .i64 F.d]).toArray 88)).heap.size = r at *
  go_wp2
  clear hr3 hs3 hrr c0
  generalize w1.heap.size = bf at *
  go_loopw [37] (fun _ wr => ∃ (T : List Blo), Hid (SX W wr kb r bf K T U asid va)) (fun _ wr => wr.rangeLeft kb r)
  case atStart => exact ⟨K, HX⟩
  case round =>
    obtain ⟨T, HX1⟩ := hrel
    clear HX
    have hTo : ∀ x ∈ T, KOk x := fun x hx => HO.out.ok x (HX1.out.sub x hx)
    rcases HX1.out.kr.next hTo 0 with ⟨rfl, hnx⟩ | ⟨b, w4, hb, hnx, hk4, hg4, hs4, hen, hlt⟩
    · go_wp2
      go_ret
      have : K.any (stB U asid va) = false := List.any_eq_false.2 (fun x hx => by rw [HX1.out.no x hx (by simp)]; simp)
      rw [this]
      exact ⟨rfl, HX1.out.bel⟩
    · have hbo := hTo b hb
      have hbK := HX1.out.sub b hb
      have hbn := below_new w4 (.cells ([.int .i64 b.asid, .int .i64 b.t.size, .int .u32 b.t.va, .int .u64 b.t.pa, .int .i64 b.t.dom, .int .i64 b.t.ap, .int .u32 b.t.bits, .bool b.t.ng, .bool b.t.xn]).toArray 45)
      have T4 : Turn (· = r) wr w4 := Turn.grown hg4 (fun k e => by cases e; exact .inl rfl)
      have hTR : TR w4 := HX1.out.tr.turnM T4 (fun x hx _ => by subst hx; exact HX1.out.kr.nt.1)
      have hBf4 : Bl w4 bf 43 ([.int .i64 U.size, .int .u32 U.va, .int .u64 U.pa, .int .i64 U.dom, .int .i64 U.ap, .int .u32 U.bits, .bool U.ng, .bool U.xn]) := HX1.out.bf.turn T4 (Bl.nr HX1.out.kr HX1.out.bf)
      have hBW4 : Below W.heap.size W w4 := HX1.out.bel.trans (T4.to (fun x hx => by subst hx; exact hrW) HX1.out.bel.size)
      have HB5 : Hid (Below W.heap.size W (w4.alloc (.cells ([.int .i64 b.asid, .int .i64 b.t.size, .int .u32 b.t.va, .int .u64 b.t.pa, .int .i64 b.t.dom, .int .i64 b.t.ap, .int .u32 b.t.bits, .bool b.t.ng, .bool b.t.xn]).toArray 45))) := hBW4.alloc hBW4.size _
      have HOv := hidW (fun ww hw => over_any b va asid ww hw hbo.ok hv)
      have HT5 := hidW (hTR.below hbn)
      have HN : Hid (stB U asid va b = false → SX W (w4.alloc (.cells ([.int .i64 b.asid, .int .i64 b.t.size, .int .u32 b.t.va, .int .u64 b.t.pa, .int .i64 b.t.dom, .int .i64 b.t.ap, .int .u32 b.t.bits, .bool b.t.ng, .bool b.t.xn]).toArray 45)) kb r bf K (rm T b) U asid va) := fun hq => (HX1.out.next hrW hg4 hk4 hq).below hbn
      have HL : Hid ((w4.alloc (.cells ([.int .i64 b.asid, .int .i64 b.t.size, .int .u32 b.t.va, .int .u64 b.t.pa, .int .i64 b.t.dom, .int .i64 b.t.ap, .int .u32 b.t.bits, .bool b.t.ng, .bool b.t.xn]).toArray 45)).rangeLeft kb r < wr.rangeLeft kb r) := by
        have e1 : (w4.alloc (.cells ([.int .i64 b.asid, .int .i64 b.t.size, .int .u32 b.t.va, .int .u64 b.t.pa, .int .i64 b.t.dom, .int .i64 b.t.ap, .int .u32 b.t.bits, .bool b.t.ng, .bool b.t.xn]).toArray 45)).rangeLeft kb r = w4.rangeLeft kb r := turn_left (X := fun _ => False) (Turn.below hbn) hk4.lt.2 hk4.lt.1 (fun h => h) (fun h => h)
        exact e1 ▸ hlt
      have hLt := hk4.lt
      have HY : Hid (stB U asid va b = true → K.any (stB U asid va) = true) := fun hq => List.any_eq_true.2 ⟨b, hbK, hq⟩
      have cB := (Bl.new w4 45 ([.int .i64 b.asid, .int .i64 b.t.size, .int .u32 b.t.va, .int .u64 b.t.pa, .int .i64 b.t.dom, .int .i64 b.t.ap, .int .u32 b.t.bits, .bool b.t.ng, .bool b.t.xn])).cell
      have cF := (hBf4.below hbn).cell
      have hq : stB U asid va b = (!(b.t.same U) && ovF b va asid) := rfl
      have eT := eqT b.t U
      have n1 : ¬ bf = w4.heap.size := by have := hBf4.lt; omega
      have HKR := hidW (hk4.turn (X := fun _ => False) (Turn.below hbn) (fun h => h) (fun h => h))
      clear hTR hBf4 hBW4 T4 hbn HX1 hk4 hg4 hlt hTo hb hs4 hbK hbo hLt
      generalize b.t.same U = sb at *
      cases sb
      · generalize ovF b va asid = ob at *
        go_wp2_with fail
        go_at_call 34
        refine (HOv.out _ HT5.out).mono ?_
        rintro e w6 ⟨rfl, hb6⟩
        have HB6 := hidW (Below.step HB5.out hb6)
        have HN6 : Hid (stB U asid va b = false → SX W w6 kb r bf K (rm T b) U asid va) := fun hq => (HN.out hq).below hb6
        have HL6 : Hid (w6.rangeLeft kb r < wr.rangeLeft kb r) := by
          have e1 : w6.rangeLeft kb r = (w4.alloc (.cells ([.int .i64 b.asid, .int .i64 b.t.size, .int .u32 b.t.va, .int .u64 b.t.pa, .int .i64 b.t.dom, .int .i64 b.t.ap, .int .u32 b.t.bits, .bool b.t.ng, .bool b.t.xn]).toArray 45)).rangeLeft kb r := turn_left (X := fun _ => False) (Turn.below hb6) HKR.out.lt.2 HKR.out.lt.1 (fun h => h) (fun h => h)
          have := HL.out
          show w6.rangeLeft kb r < wr.rangeLeft kb r
          omega
        clear hb6 HB5 HN HL HT5 HOv HKR cB cF hnx hen
        cases ob
        · simp at hq
          go_wp2
          go_roundw
          case rel => exact ⟨rm T b, HN6.out hq⟩
          case measure => exact HL6.out
        · simp at hq
          have HA := hidW (HY.out hq)
          clear hq HY
          go_wp2
          go_ret
          rw [HA.out]
          exact ⟨rfl, HB6.out⟩
      · rw [show (!true && ovF b va asid) = false by simp] at hq
        go_wp2
        go_roundw
        case rel => exact ⟨rm T b, HN.out hq⟩
        case measure => exact HL.out
end Go.Proofs.YtnjlajjjcmhfgaaGreatDoor
