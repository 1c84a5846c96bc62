import Derived.Test.YtmodcbdgnmjkoabDoorLa
import Derived.Deep.CutRange
import Derived.Test.YtmodcbdgnmjkoabDoorEc
import Derived.Test.YtmodcbdgnmjkoabDoorMG
import Derived.Test.YtmodcbdgnmjkoabDoorMS
import Derived.Test.YtmodcbdgnmjkoabDoorRz
import Derived.Test.YtmodcbdgnmjkoabDoorGz
namespace Go.Proofs.YtmodcbdgnmjkoabDoor
open Go.RowKit
open Mm (Turn gr PM RM valV errV Byts setV)
set_option linter.unusedVariables false
set_option linter.unusedSimpArgs false
set_option maxRecDepth 100000 in
theorem begin_bad (W : World) (f : Int) (s : Value) (h : f < 1 ∨ 65536 < f) :
    Calls Tryd.prog 5 #[.int .i64 f, s] W fun e W' => e = .returned (.tuple #[.pointer none, .bool true]) ∧ W = W' := by
  have HP := hidW (Mm.pnew_bad W f h)
  have HR := hidW (Mm.rnew_bad W f h)
  clear h
  go_enter Tryd.func5, Tryd.ntmps5
  go_wp2_with (first
    | (go_at_call 10; refine HP.out.mono ?_; rintro e w1 ⟨rfl, rfl⟩)
    | (go_at_call 11; refine HR.out.mono ?_; rintro e w1 ⟨rfl, rfl⟩))
  go_ret2
  exact ⟨rfl, rfl⟩
set_option maxRecDepth 100000 in
set_option maxHeartbeats 8000000 in
theorem begin_ok (W : World) (N : Nat) (h1 : 1 ≤ N) (h2 : N ≤ 65536) (a : Option Addr) (cap : Nat) (ps : List Pt) (hp : PutsAt W a ps) (hl : ps.length ≤ 9223372036854775807) :
    Calls Tryd.prog 5 #[.int .i64 N, .slice a ps.length cap] W fun e W' => ∃ B p r, e = .returned (.tuple #[.pointer (some ⟨B, 0, none⟩), .bool true]) ∧ Bl W' B 38 [.pointer (some ⟨p, 0, none⟩), .pointer (some ⟨r, 0, none⟩)] ∧ W.heap.size ≤ B ∧ Two W W' p r N (pm N ps ps.length) := by
  have HS := hidW hp
  clear hp
  generalize hn : ps.length = n at *
  have HN := hidW hn
  clear hn
  go_enter Tryd.func5, Tryd.ntmps5
  go_wp2_with fail
  go_at_call 10
  refine (Mm.pnew_any W N h1 h2).mono ?_
  rintro e w1 ⟨rfl, g1, T1⟩
  go_wp2_with fail
  go_at_call 11
  refine (Mm.rnew_any w1 N h1 h2).mono ?_
  rintro e w2 ⟨rfl, g2, T2⟩
  have HT := hidW (Two.new g1 T1 g2 T2)
  clear g1 T1 g2 T2
  generalize W.heap.size + 1 = p at *
  generalize w1.heap.size = r at *
  go_wp2
  go_loopw [10] (fun i wr => ∃ k : Nat, k ≤ n ∧ i = .int .i64 k ∧ Hid (Two W wr p r N (pm N ps k))) (fun i _ => n - (intOf i).toNat)
  case atStart => exact ⟨0, Nat.zero_le _, rfl, HT.out⟩
  case round =>
    obtain ⟨k, hk, rfl, HK⟩ := hrel
    clear HT
    by_cases hlt : k < n
    · obtain ⟨q, hq⟩ : ∃ q, ps[k]? = some q := ⟨_, List.getElem?_eq_getElem (by rw [HN.out]; omega)⟩
      obtain ⟨b, off, rfl, hb, e0, e1⟩ := HS.out.lies k q hq
      have hok := HS.out.oks q (List.mem_of_getElem? hq)
      have hstep := hidW (pm_step (N := N) hq)
      have hkz : (k : Int) < (n : Int) := by omega
      have hpa : ((q.pa.toNat : Nat) : Int) = q.pa := Int.toNat_of_nonneg hok.1.1
      have HD := hidW (HK.out.below (below_drew (Below.refl _ wr)))
      have HC := hidW (HD.out.put q.pa.toNat q.w (by omega) hok.2.1 hok.2.2)
      rw [hpa] at HC
      have d0 : wr.cell? ⟨b, off + k * 2, none⟩ = some (.int .u64 q.pa) := (HK.out.bel.cell hb).trans e0
      have d1 : wr.cell? ⟨b, off + k * 2 + 1, none⟩ = some (.int .u32 q.w) := (HK.out.bel.cell hb).trans e1
      have HE := hidW (And.intro e0 e1)
      have HB1 := hidW HD.out.bel
      clear hq e0 e1 HK
      go_wp2
      go_region_held3 (fun w' => w'.cell? ⟨b, off + k * 2, none⟩ = some (.int .u64 q.pa) ∧ w'.cell? ⟨b, off + k * 2 + 1, none⟩ = some (.int .u32 q.w)) (exact ⟨(HB1.out.cell hb).trans HE.out.1, (HB1.out.cell hb).trans HE.out.2⟩) (first
        | (go_at_call 12; refine HC.out.mono ?_; rintro e wa ⟨rfl, hb1, hc1⟩; have HB1 := hidW hb1; have HC1 := hidW hc1; clear hb1 hc1)
        | (go_at_call 13; refine HC1.out.mono ?_; rintro e wb ⟨rfl, ht2⟩; have HB1 := hidW ht2.bel; have HT2 := hidW ht2; clear ht2))
      have HT3 : Hid (Two W wb p r N (pm N ps (k + 1))) := by rw [hstep.out]; exact HT2.out
      clear HT2 HC1 HC HD hstep
      go_wp2
      go_roundw
      case rel => exact ⟨k + 1, by omega, by go_num, HT3.out⟩
      case measure => simp [intOf]; omega
    · obtain rfl : k = n := by omega
      have HE := hidW (And.intro (Bl.new wr 38 [.pointer (some ⟨p, 0, none⟩), .pointer (some ⟨r, 0, none⟩)]) (And.intro HK.out.bel.size (HK.out.below (below_new wr (.cells #[.pointer (some ⟨p, 0, none⟩), .pointer (some ⟨r, 0, none⟩)] 38)))))
      clear HK
      go_wp2
      go_ret2
      exact ⟨_, p, r, rfl, HE.out.1, HE.out.2.1, HE.out.2.2⟩
end Go.Proofs.YtmodcbdgnmjkoabDoor
namespace Go.Proofs.YtmodcbdgnmjkoabDoor
open Go.RowKit
open Mm (Turn gr PM RM valV errV Byts setV)
set_option linter.unusedVariables false
set_option linter.unusedSimpArgs false
abbrev zT : List Value := [.int .i64 0, .int .u32 0, .int .u64 0, .int .i64 0, .int .i64 0, .int .u32 0, .bool false, .bool false]
abbrev zF : List Value := [.int .i64 0, .int .i64 0, .int .i64 0]
set_option maxRecDepth 100000 in
theorem eqF (a b : Fa) (w : World) : (Op.equalIn 10000 32 (.agg #[.int .i64 a.k, .int .i64 a.l, .int .i64 a.d]) (.agg #[.int .i64 b.k, .int .i64 b.l, .int .i64 b.d])).run Tryd.prog w = .ok (a.same b) w := by
  obtain ⟨a1, a2, a3⟩ := a
  obtain ⟨b1, b2, b3⟩ := b
  go_simp
  simp only [Fa.same]
  repeat' split
  all_goals simp_all
/-- What stands in the laws' loops: the context's box, both memories. -/
structure KL (W wr : World) (c : Ctx) (x B p r N : Nat) (m : Nat → Int) : Prop where
  bel : Below W.heap.size W wr
  C : Bl wr x 26 [.bool c.on, .bool c.tre, .bool c.afe, .int .i64 c.n, .bool c.pd0, .bool c.pd1, .int .u64 c.b0, .int .u64 c.b1, .int .u32 c.dacr, .int .u32 c.prrr, .int .u32 c.nmrr, .int .i64 c.asid]
  B : Bl wr B 38 [.pointer (some ⟨p, 0, none⟩), .pointer (some ⟨r, 0, none⟩)]
  mem : ∃ S1 S2, PM wr S1 p N m ∧ RM wr S2 r N m
  tab : TW wr
theorem KL.below {W wr wn : World} {c : Ctx} {x B p r N : Nat} {m : Nat → Int} (h : KL W wr c x B p r N m) (hb : Below wr.heap.size wr wn) : KL W wn c x B p r N m := by
  obtain ⟨S1, S2, h1, h2⟩ := h.mem
  exact ⟨Below.step h.bel hb, h.C.below hb, h.B.below hb, ⟨S1, S2, h1.keep (S' := fun _ => False) (Turn.below hb) (fun _ _ h => h), h2.keep (S' := fun _ => False) (Turn.below hb) (fun _ _ h => h)⟩, h.tab.below hb⟩
theorem KL.walk {W wr : World} {c : Ctx} {x B p r N : Nat} {m : Nat → Int} (h : KL W wr c x B p r N m) (hc : c.Ok) (va : Int) (hv : 0 ≤ va ∧ va < 4294967296) :
    Calls Tryd.prog 14 #[.iface 35 (.pointer (some ⟨p, 0, none⟩)), .agg #[.bool c.on, .bool c.tre, .bool c.afe, .int .i64 c.n, .bool c.pd0, .bool c.pd1, .int .u64 c.b0, .int .u64 c.b1, .int .u32 c.dacr, .int .u32 c.prrr, .int .u32 c.nmrr, .int .i64 c.asid], .int .u32 va] wr fun e w' => e = .returned (.tuple #[.agg #[.int .i64 ((wk (ramMo N m) c va).1).size, .int .u32 ((wk (ramMo N m) c va).1).va, .int .u64 ((wk (ramMo N m) c va).1).pa, .int .i64 ((wk (ramMo N m) c va).1).dom, .int .i64 ((wk (ramMo N m) c va).1).ap, .int .u32 ((wk (ramMo N m) c va).1).bits, .bool ((wk (ramMo N m) c va).1).ng, .bool ((wk (ramMo N m) c va).1).xn], .agg #[.int .i64 ((wk (ramMo N m) c va).2).k, .int .i64 ((wk (ramMo N m) c va).2).l, .int .i64 ((wk (ramMo N m) c va).2).d]]) ∧ Below wr.heap.size wr w' := by
  obtain ⟨S1, S2, h1, h2⟩ := h.mem
  exact walk_pure c va wr (.inl ⟨p, N, m, rfl, rfl, h1⟩) h.tab hc hv
theorem KL.vwalk {W wr : World} {c : Ctx} {x B p r N : Nat} {m : Nat → Int} (h : KL W wr c x B p r N m) (hc : c.Ok) (va : Int) (hv : 0 ≤ va ∧ va < 4294967296) :
    Calls Tryd.prog 16 #[.pointer (some ⟨r, 0, none⟩), .agg #[.bool c.on, .bool c.tre, .bool c.afe, .int .i64 c.n, .bool c.pd0, .bool c.pd1, .int .u64 c.b0, .int .u64 c.b1, .int .u32 c.dacr, .int .u32 c.prrr, .int .u32 c.nmrr, .int .i64 c.asid], .int .u32 va] wr fun e w' => e = .returned (.tuple #[.agg #[.int .i64 ((wk (ramMo N m) c va).1).size, .int .u32 ((wk (ramMo N m) c va).1).va, .int .u64 ((wk (ramMo N m) c va).1).pa, .int .i64 ((wk (ramMo N m) c va).1).dom, .int .i64 ((wk (ramMo N m) c va).1).ap, .int .u32 ((wk (ramMo N m) c va).1).bits, .bool ((wk (ramMo N m) c va).1).ng, .bool ((wk (ramMo N m) c va).1).xn], .agg #[.int .i64 ((wk (ramMo N m) c va).2).k, .int .i64 ((wk (ramMo N m) c va).2).l, .int .i64 ((wk (ramMo N m) c va).2).d]]) ∧ Below wr.heap.size wr w' := by
  obtain ⟨S1, S2, h1, h2⟩ := h.mem
  exact vwalk_any c va wr (.inl ⟨r, N, m, rfl, rfl, h2⟩) h.tab hc hv
theorem KL.new {W w1 : World} {c : Ctx} {B p r N : Nat} {m : Nat → Int} (hb : Bl w1 B 38 [.pointer (some ⟨p, 0, none⟩), .pointer (some ⟨r, 0, none⟩)]) (h : Two (W.alloc (.cells #[.bool c.on, .bool c.tre, .bool c.afe, .int .i64 c.n, .bool c.pd0, .bool c.pd1, .int .u64 c.b0, .int .u64 c.b1, .int .u32 c.dacr, .int .u32 c.prrr, .int .u32 c.nmrr, .int .i64 c.asid] 26)) w1 p r N m) (ht : TW W) : KL W w1 c W.heap.size B p r N m := by
  obtain ⟨⟨S1, S2, h1, h2, _⟩, h6⟩ := h
  exact ⟨Below.step (below_new _ _) h6, (Bl.new W 26 [.bool c.on, .bool c.tre, .bool c.afe, .int .i64 c.n, .bool c.pd0, .bool c.pd1, .int .u64 c.b0, .int .u64 c.b1, .int .u32 c.dacr, .int .u32 c.prrr, .int .u32 c.nmrr, .int .i64 c.asid]).below h6, hb, ⟨S1, S2, h1, h2⟩, (ht.below (below_new _ _)).below h6⟩
/-- A translation and a fault have been told, and lie in boxes of their own. -/
structure Got (wr wx : World) (s t : Nat) (u : Tra) (f : Fa) : Prop where
  bel : Below wr.heap.size wr wx
  T : Bl wx s 49 [.int .i64 u.size, .int .u32 u.va, .int .u64 u.pa, .int .i64 u.dom, .int .i64 u.ap, .int .u32 u.bits, .bool u.ng, .bool u.xn]
  F : Bl wx t 32 [.int .i64 f.k, .int .i64 f.l, .int .i64 f.d]
  hs : wr.heap.size ≤ s
  ht : wr.heap.size ≤ t
theorem Bl.new1 (w : World) (o : Obj) (t : TypeId) (l : List Value) : Bl ((w.alloc o).alloc (.cells l.toArray t)) (w.heap.size + 1) t l := by
  have h := Bl.new (w.alloc o) t l
  rw [show (w.alloc o).heap.size = w.heap.size + 1 by simp] at h
  exact h
theorem got1 {wr w1 : World} (h : Below wr.heap.size wr w1) (u : Tra) (f : Fa) : Got wr ((w1.alloc (.cells #[.int .i64 u.size, .int .u32 u.va, .int .u64 u.pa, .int .i64 u.dom, .int .i64 u.ap, .int .u32 u.bits, .bool u.ng, .bool u.xn] 49)).alloc (.cells #[.int .i64 f.k, .int .i64 f.l, .int .i64 f.d] 32)) w1.heap.size (w1.heap.size + 1) u f :=
  ⟨(h.alloc h.size _).alloc (by simp; have := h.size; omega) _, (Bl.new w1 _ [.int .i64 u.size, .int .u32 u.va, .int .u64 u.pa, .int .i64 u.dom, .int .i64 u.ap, .int .u32 u.bits, .bool u.ng, .bool u.xn]).below (below_new _ _), Bl.new1 _ _ _ [.int .i64 f.k, .int .i64 f.l, .int .i64 f.d], h.size, by have := h.size; omega⟩
theorem got2 {wr w1 : World} (h : Below wr.heap.size wr w1) (u : Tra) (f : Fa) : Got wr ((w1.alloc (.cells #[.int .i64 f.k, .int .i64 f.l, .int .i64 f.d] 32)).alloc (.cells #[.int .i64 u.size, .int .u32 u.va, .int .u64 u.pa, .int .i64 u.dom, .int .i64 u.ap, .int .u32 u.bits, .bool u.ng, .bool u.xn] 49)) (w1.heap.size + 1) w1.heap.size u f :=
  ⟨(h.alloc h.size _).alloc (by simp; have := h.size; omega) _, Bl.new1 _ _ _ [.int .i64 u.size, .int .u32 u.va, .int .u64 u.pa, .int .i64 u.dom, .int .i64 u.ap, .int .u32 u.bits, .bool u.ng, .bool u.xn], (Bl.new w1 _ [.int .i64 f.k, .int .i64 f.l, .int .i64 f.d]).below (below_new _ _), by have := h.size; omega, h.size⟩
theorem got3 {wr w1 : World} (h : Below wr.heap.size wr w1) (u : Tra) (f : Fa) (b : Nat) (hb : wr.heap.size ≤ b) (hT : Bl w1 b 49 zT) : Got wr ((((((((((w1.setCell ⟨b, 0, none⟩ (.int .i64 u.size)).setCell ⟨b, 1, none⟩ (.int .u32 u.va)).setCell ⟨b, 2, none⟩ (.int .u64 u.pa)).setCell ⟨b, 3, none⟩ (.int .i64 u.dom)).setCell ⟨b, 4, none⟩ (.int .i64 u.ap)).setCell ⟨b, 5, none⟩ (.int .u32 u.bits)).setCell ⟨b, 6, none⟩ (.bool u.ng)).setCell ⟨b, 7, none⟩ (.bool u.xn))).alloc (.cells #[.int .i64 f.k, .int .i64 f.l, .int .i64 f.d] 32)) b w1.heap.size u f := by
  have hN := Bl.new (((((((((w1.setCell ⟨b, 0, none⟩ (.int .i64 u.size)).setCell ⟨b, 1, none⟩ (.int .u32 u.va)).setCell ⟨b, 2, none⟩ (.int .u64 u.pa)).setCell ⟨b, 3, none⟩ (.int .i64 u.dom)).setCell ⟨b, 4, none⟩ (.int .i64 u.ap)).setCell ⟨b, 5, none⟩ (.int .u32 u.bits)).setCell ⟨b, 6, none⟩ (.bool u.ng)).setCell ⟨b, 7, none⟩ (.bool u.xn))) 32 [.int .i64 f.k, .int .i64 f.l, .int .i64 f.d]
  rw [heap8] at hN
  exact ⟨Below.alloc (Below.setCell (Below.setCell (Below.setCell (Below.setCell (Below.setCell (Below.setCell (Below.setCell (Below.setCell h hb _) hb _) hb _) hb _) hb _) hb _) hb _) hb _) (by rw [heap8]; exact h.size) _, (hT.set8 _ _ _ _ _ _ _ _).below (below_new _ _), hN, hb, h.size⟩
theorem got4 {wr w1 : World} (h : Below wr.heap.size wr w1) (u : Tra) (f : Fa) (b : Nat) (hb : wr.heap.size ≤ b) (hF : Bl w1 b 32 zF) : Got wr (((((w1.setCell ⟨b, 0, none⟩ (.int .i64 f.k)).setCell ⟨b, 1, none⟩ (.int .i64 f.l)).setCell ⟨b, 2, none⟩ (.int .i64 f.d))).alloc (.cells #[.int .i64 u.size, .int .u32 u.va, .int .u64 u.pa, .int .i64 u.dom, .int .i64 u.ap, .int .u32 u.bits, .bool u.ng, .bool u.xn] 49)) w1.heap.size b u f := by
  have hN := Bl.new ((((w1.setCell ⟨b, 0, none⟩ (.int .i64 f.k)).setCell ⟨b, 1, none⟩ (.int .i64 f.l)).setCell ⟨b, 2, none⟩ (.int .i64 f.d))) 49 [.int .i64 u.size, .int .u32 u.va, .int .u64 u.pa, .int .i64 u.dom, .int .i64 u.ap, .int .u32 u.bits, .bool u.ng, .bool u.xn]
  rw [heap3] at hN
  exact ⟨Below.alloc (Below.setCell (Below.setCell (Below.setCell h hb _) hb _) hb _) (by rw [heap3]; exact h.size) _, hN, (hF.set3 _ _ _).below (below_new _ _), h.size, hb⟩
theorem got5 {wr w1 : World} (h : Below wr.heap.size wr w1) (u : Tra) (f : Fa) (b d : Nat) (hb : wr.heap.size ≤ b) (hd : wr.heap.size ≤ d) (hn : b ≠ d) (hT : Bl w1 b 49 zT) (hF : Bl w1 d 32 zF) : Got wr ((((((((((((w1.setCell ⟨b, 0, none⟩ (.int .i64 u.size)).setCell ⟨b, 1, none⟩ (.int .u32 u.va)).setCell ⟨b, 2, none⟩ (.int .u64 u.pa)).setCell ⟨b, 3, none⟩ (.int .i64 u.dom)).setCell ⟨b, 4, none⟩ (.int .i64 u.ap)).setCell ⟨b, 5, none⟩ (.int .u32 u.bits)).setCell ⟨b, 6, none⟩ (.bool u.ng)).setCell ⟨b, 7, none⟩ (.bool u.xn)).setCell ⟨d, 0, none⟩ (.int .i64 f.k)).setCell ⟨d, 1, none⟩ (.int .i64 f.l)).setCell ⟨d, 2, none⟩ (.int .i64 f.d))) b d u f :=
  ⟨Below.setCell (Below.setCell (Below.setCell (Below.setCell (Below.setCell (Below.setCell (Below.setCell (Below.setCell (Below.setCell (Below.setCell (Below.setCell h hb _) hb _) hb _) hb _) hb _) hb _) hb _) hb _) hd _) hd _) hd _, (hT.set8 _ _ _ _ _ _ _ _).keep3 hn _ _ _, (hF.keep8 (fun e => hn e.symm) _ _ _ _ _ _ _ _).set3 _ _ _, hb, hd⟩
end Go.Proofs.YtmodcbdgnmjkoabDoor
namespace Go.Proofs.YtmodcbdgnmjkoabDoor
open Go.RowKit
open Mm (Turn gr PM valV errV Byts)
set_option linter.unusedVariables false
set_option linter.unusedSimpArgs false
/-- What an access answers. -/
def goF (M : Mo) (c : Ctx) (va : Int) (priv : Bool) (k : Int) : Int × Fa :=
  if (wk M c va).2.k = 0 then (if (chF (wk M c va).1 c priv k).k = 0 then ((wk M c va).1.pa + (va - (wk M c va).1.va), fZ) else (0, chF (wk M c va).1 c priv k)) else (0, (wk M c va).2)
theorem below_at {w w1 w2 : World} {x : Nat} (hx : w.heap.size = x) (h : Below x w w1) (h2 : Below w1.heap.size w1 w2) : Below x w w2 := by
  subst hx
  exact Below.step h h2
theorem TC.tw {w : World} (h : TC w) : TW w := ⟨h.r.toTT⟩
set_option maxRecDepth 100000 in
set_option maxHeartbeats 4000000 in
theorem go_bad1 (c : Ctx) (va : Int) (priv : Bool) (k : Int) (w : World) (iv : Value) (U : Tra) (F : Fa) (hk : (F.k == 0) = false) (hv : 0 ≤ va ∧ va < 4294967296) (ht : TC w)
    (HC : Hid (Calls Tryd.prog 14 #[iv, .agg #[.bool c.on, .bool c.tre, .bool c.afe, .int .i64 c.n, .bool c.pd0, .bool c.pd1, .int .u64 c.b0, .int .u64 c.b1, .int .u32 c.dacr, .int .u32 c.prrr, .int .u32 c.nmrr, .int .i64 c.asid], .int .u32 va] ((w.alloc (.cells #[.bool c.on, .bool c.tre, .bool c.afe, .int .i64 c.n, .bool c.pd0, .bool c.pd1, .int .u64 c.b0, .int .u64 c.b1, .int .u32 c.dacr, .int .u32 c.prrr, .int .u32 c.nmrr, .int .i64 c.asid] 26)).alloc (.cells #[.int .i64 0, .int .i64 0, .int .i64 0] 32)) fun e w' => e = .returned (.tuple #[.agg #[.int .i64 U.size, .int .u32 U.va, .int .u64 U.pa, .int .i64 U.dom, .int .i64 U.ap, .int .u32 U.bits, .bool U.ng, .bool U.xn], .agg #[.int .i64 F.k, .int .i64 F.l, .int .i64 F.d]]) ∧ Below ((w.alloc (.cells #[.bool c.on, .bool c.tre, .bool c.afe, .int .i64 c.n, .bool c.pd0, .bool c.pd1, .int .u64 c.b0, .int .u64 c.b1, .int .u32 c.dacr, .int .u32 c.prrr, .int .u32 c.nmrr, .int .i64 c.asid] 26)).alloc (.cells #[.int .i64 0, .int .i64 0, .int .i64 0] 32)).heap.size ((w.alloc (.cells #[.bool c.on, .bool c.tre, .bool c.afe, .int .i64 c.n, .bool c.pd0, .bool c.pd1, .int .u64 c.b0, .int .u64 c.b1, .int .u32 c.dacr, .int .u32 c.prrr, .int .u32 c.nmrr, .int .i64 c.asid] 26)).alloc (.cells #[.int .i64 0, .int .i64 0, .int .i64 0] 32)) w')) :
    Calls Tryd.prog 6 #[iv, .agg #[.bool c.on, .bool c.tre, .bool c.afe, .int .i64 c.n, .bool c.pd0, .bool c.pd1, .int .u64 c.b0, .int .u64 c.b1, .int .u32 c.dacr, .int .u32 c.prrr, .int .u32 c.nmrr, .int .i64 c.asid], .int .u32 va, .bool priv, .int .i64 k] w fun e w' => e = .returned (.tuple #[.int .u64 0, .agg #[.int .i64 F.k, .int .i64 F.l, .int .i64 F.d]]) ∧ Below w.heap.size w w' := by
  have HB := hidW (Below.step (below_new w (.cells #[.bool c.on, .bool c.tre, .bool c.afe, .int .i64 c.n, .bool c.pd0, .bool c.pd1, .int .u64 c.b0, .int .u64 c.b1, .int .u32 c.dacr, .int .u32 c.prrr, .int .u32 c.nmrr, .int .i64 c.asid] 26)) (below_new _ (.cells #[.int .i64 0, .int .i64 0, .int .i64 0] 32)))
  have HT := hidW (ht.below HB.out)
  have HX : Hid (Bl ((w.alloc (.cells #[.bool c.on, .bool c.tre, .bool c.afe, .int .i64 c.n, .bool c.pd0, .bool c.pd1, .int .u64 c.b0, .int .u64 c.b1, .int .u32 c.dacr, .int .u32 c.prrr, .int .u32 c.nmrr, .int .i64 c.asid] 26)).alloc (.cells #[.int .i64 0, .int .i64 0, .int .i64 0] 32)) w.heap.size 26 [.bool c.on, .bool c.tre, .bool c.afe, .int .i64 c.n, .bool c.pd0, .bool c.pd1, .int .u64 c.b0, .int .u64 c.b1, .int .u32 c.dacr, .int .u32 c.prrr, .int .u32 c.nmrr, .int .i64 c.asid]) := (Bl.new _ _ _).below (below_new _ _)
  have HR : Hid (Bl ((w.alloc (.cells #[.bool c.on, .bool c.tre, .bool c.afe, .int .i64 c.n, .bool c.pd0, .bool c.pd1, .int .u64 c.b0, .int .u64 c.b1, .int .u32 c.dacr, .int .u32 c.prrr, .int .u32 c.nmrr, .int .i64 c.asid] 26)).alloc (.cells #[.int .i64 0, .int .i64 0, .int .i64 0] 32)) (w.heap.size + 1) 32 [.int .i64 0, .int .i64 0, .int .i64 0]) := Bl.new1 _ _ _ _
  have hsz : ((w.alloc (.cells #[.bool c.on, .bool c.tre, .bool c.afe, .int .i64 c.n, .bool c.pd0, .bool c.pd1, .int .u64 c.b0, .int .u64 c.b1, .int .u32 c.dacr, .int .u32 c.prrr, .int .u32 c.nmrr, .int .i64 c.asid] 26)).alloc (.cells #[.int .i64 0, .int .i64 0, .int .i64 0] 32)).heap.size = w.heap.size + 1 + 1 := by simp
  have c0 := HX.out.cell
  clear ht
  go_enter Tryd.func6, Tryd.ntmps6
  go_wp2_with fail
  generalize hw0 : ((w.alloc (.cells #[.bool c.on, .bool c.tre, .bool c.afe, .int .i64 c.n, .bool c.pd0, .bool c.pd1, .int .u64 c.b0, .int .u64 c.b1, .int .u32 c.dacr, .int .u32 c.prrr, .int .u32 c.nmrr, .int .i64 c.asid] 26)).alloc (.cells #[.int .i64 0, .int .i64 0, .int .i64 0] 32)) = w0 at *
  clear hw0
  go_at_call 14
  refine HC.out.mono ?_
  rintro e v1 ⟨rfl, hb⟩
  have hb' := Below.step hb (Below.step (below_new v1 (.cells #[.int .i64 U.size, .int .u32 U.va, .int .u64 U.pa, .int .i64 U.dom, .int .i64 U.ap, .int .u32 U.bits, .bool U.ng, .bool U.xn] 49)) (below_new _ (.cells #[.int .i64 F.k, .int .i64 F.l, .int .i64 F.d] 32)))
  have HT1 := hidW (HT.out.below hb')
  have HX1 := hidW (HX.out.below hb')
  have HR1 := hidW (HR.out.below hb')
  have HB1 := hidW (Below.step HB.out hb')
  have hz := hb.size
  have HU : Hid (Bl ((v1.alloc (.cells #[.int .i64 U.size, .int .u32 U.va, .int .u64 U.pa, .int .i64 U.dom, .int .i64 U.ap, .int .u32 U.bits, .bool U.ng, .bool U.xn] 49)).alloc (.cells #[.int .i64 F.k, .int .i64 F.l, .int .i64 F.d] 32)) v1.heap.size 49 [.int .i64 U.size, .int .u32 U.va, .int .u64 U.pa, .int .i64 U.dom, .int .i64 U.ap, .int .u32 U.bits, .bool U.ng, .bool U.xn]) := (Bl.new _ _ _).below (below_new _ _)
  have HV : Hid (Bl ((v1.alloc (.cells #[.int .i64 U.size, .int .u32 U.va, .int .u64 U.pa, .int .i64 U.dom, .int .i64 U.ap, .int .u32 U.bits, .bool U.ng, .bool U.xn] 49)).alloc (.cells #[.int .i64 F.k, .int .i64 F.l, .int .i64 F.d] 32)) (v1.heap.size + 1) 32 [.int .i64 F.k, .int .i64 F.l, .int .i64 F.d]) := Bl.new1 _ _ _ _
  clear hb hb' HT HX HR HB HC c0
  have cU := HU.out.cell
  have cV := HV.out.cell
  have cX := HX1.out.cell
  have fV := HV.out.frozen
  have lV := HV.out.lt
  go_wp2_with fail
  generalize hx : w.heap.size = x at *
  generalize hww : (v1.alloc (.cells #[.int .i64 U.size, .int .u32 U.va, .int .u64 U.pa, .int .i64 U.dom, .int .i64 U.ap, .int .u32 U.bits, .bool U.ng, .bool U.xn] 49)).alloc (.cells #[.int .i64 F.k, .int .i64 F.l, .int .i64 F.d] 32) = w2 at *
  clear hww
  generalize hr : x + 1 = r at *
  generalize hy : v1.heap.size = y at *
  generalize hq : y + 1 = q at *
  have h1 : ¬ y = r := by omega
  have h2 : ¬ q = r := by omega
  have h3 : ¬ y = q := by omega
  have h4 : x ≤ q := by omega
  have h5 : x ≤ r := by omega
  clear hz hsz
  have HP0 : Hid (w2.drew.cell? ⟨q, 0, none⟩ = some (.int .i64 F.k)) := HV.out.drew.cell 0
  have HS0 : Hid (∀ v0 v1 v2, (((w2.setCell ⟨r, 0, none⟩ v0).setCell ⟨r, 1, none⟩ v1).setCell ⟨r, 2, none⟩ v2).drew.cell? ⟨q, 0, none⟩ = some (.int .i64 F.k)) := fun v0 v1 v2 => (Bl.keep3 HV.out h2 v0 v1 v2).drew.cell 0
  have HP1 : Hid (w2.drew.cell? ⟨q, 1, none⟩ = some (.int .i64 F.l)) := HV.out.drew.cell 1
  have HS1 : Hid (∀ v0 v1 v2, (((w2.setCell ⟨r, 0, none⟩ v0).setCell ⟨r, 1, none⟩ v1).setCell ⟨r, 2, none⟩ v2).drew.cell? ⟨q, 1, none⟩ = some (.int .i64 F.l)) := fun v0 v1 v2 => (Bl.keep3 HV.out h2 v0 v1 v2).drew.cell 1
  have HP2 : Hid (w2.drew.cell? ⟨q, 2, none⟩ = some (.int .i64 F.d)) := HV.out.drew.cell 2
  have HS2 : Hid (∀ v0 v1 v2, (((w2.setCell ⟨r, 0, none⟩ v0).setCell ⟨r, 1, none⟩ v1).setCell ⟨r, 2, none⟩ v2).drew.cell? ⟨q, 2, none⟩ = some (.int .i64 F.d)) := fun v0 v1 v2 => (Bl.keep3 HV.out h2 v0 v1 v2).drew.cell 2
  have cR := HR1.out.cell
  have fR := HR1.out.frozen
  have lR := HR1.out.lt
  go_region_held3 (fun w' => w'.cell? ⟨q, 0, none⟩ = some (.int .i64 F.k) ∧ w'.cell? ⟨q, 1, none⟩ = some (.int .i64 F.l) ∧ w'.cell? ⟨q, 2, none⟩ = some (.int .i64 F.d)) (first | (with_reducible exact ⟨HP0.out, HP1.out, HP2.out⟩) | (with_reducible exact ⟨HS0.out _ _ _, HS1.out _ _ _, HS2.out _ _ _⟩)) (first | fail)
  go_wp2
  refine bodyPost_ret (v := .tuple #[.int .u64 0, .agg #[.int .i64 F.k, .int .i64 F.l, .int .i64 F.d]]) (by simp [results, Tryd.results6, go_sem, cR, fR, lR]) rfl ⟨rfl, ?_⟩
  rw [hx]
  exact below_drew (Below.setCell (Below.setCell (Below.setCell HB1.out h5 _) h5 _) h5 _)
set_option maxRecDepth 100000 in
set_option maxHeartbeats 4000000 in
theorem go_bad2 (c : Ctx) (va : Int) (priv : Bool) (k : Int) (w : World) (iv : Value) (U : Tra) (F G : Fa) (hk : (F.k == 0) = true) (hg : (G.k == 0) = false) (hv : 0 ≤ va ∧ va < 4294967296) (ht : TC w)
    (HC : Hid (Calls Tryd.prog 14 #[iv, .agg #[.bool c.on, .bool c.tre, .bool c.afe, .int .i64 c.n, .bool c.pd0, .bool c.pd1, .int .u64 c.b0, .int .u64 c.b1, .int .u32 c.dacr, .int .u32 c.prrr, .int .u32 c.nmrr, .int .i64 c.asid], .int .u32 va] ((w.alloc (.cells #[.bool c.on, .bool c.tre, .bool c.afe, .int .i64 c.n, .bool c.pd0, .bool c.pd1, .int .u64 c.b0, .int .u64 c.b1, .int .u32 c.dacr, .int .u32 c.prrr, .int .u32 c.nmrr, .int .i64 c.asid] 26)).alloc (.cells #[.int .i64 0, .int .i64 0, .int .i64 0] 32)) fun e w' => e = .returned (.tuple #[.agg #[.int .i64 U.size, .int .u32 U.va, .int .u64 U.pa, .int .i64 U.dom, .int .i64 U.ap, .int .u32 U.bits, .bool U.ng, .bool U.xn], .agg #[.int .i64 F.k, .int .i64 F.l, .int .i64 F.d]]) ∧ Below ((w.alloc (.cells #[.bool c.on, .bool c.tre, .bool c.afe, .int .i64 c.n, .bool c.pd0, .bool c.pd1, .int .u64 c.b0, .int .u64 c.b1, .int .u32 c.dacr, .int .u32 c.prrr, .int .u32 c.nmrr, .int .i64 c.asid] 26)).alloc (.cells #[.int .i64 0, .int .i64 0, .int .i64 0] 32)).heap.size ((w.alloc (.cells #[.bool c.on, .bool c.tre, .bool c.afe, .int .i64 c.n, .bool c.pd0, .bool c.pd1, .int .u64 c.b0, .int .u64 c.b1, .int .u32 c.dacr, .int .u32 c.prrr, .int .u32 c.nmrr, .int .i64 c.asid] 26)).alloc (.cells #[.int .i64 0, .int .i64 0, .int .i64 0] 32)) w'))
    (HK : Hid (∀ w, TC w → Calls Tryd.prog 15 #[.agg #[.int .i64 U.size, .int .u32 U.va, .int .u64 U.pa, .int .i64 U.dom, .int .i64 U.ap, .int .u32 U.bits, .bool U.ng, .bool U.xn], .agg #[.bool c.on, .bool c.tre, .bool c.afe, .int .i64 c.n, .bool c.pd0, .bool c.pd1, .int .u64 c.b0, .int .u64 c.b1, .int .u32 c.dacr, .int .u32 c.prrr, .int .u32 c.nmrr, .int .i64 c.asid], .bool priv, .int .i64 k] w fun e w' => e = .returned (.agg #[.int .i64 G.k, .int .i64 G.l, .int .i64 G.d]) ∧ Below w.heap.size w w')) :
    Calls Tryd.prog 6 #[iv, .agg #[.bool c.on, .bool c.tre, .bool c.afe, .int .i64 c.n, .bool c.pd0, .bool c.pd1, .int .u64 c.b0, .int .u64 c.b1, .int .u32 c.dacr, .int .u32 c.prrr, .int .u32 c.nmrr, .int .i64 c.asid], .int .u32 va, .bool priv, .int .i64 k] w fun e w' => e = .returned (.tuple #[.int .u64 0, .agg #[.int .i64 G.k, .int .i64 G.l, .int .i64 G.d]]) ∧ Below w.heap.size w w' := by
  have HB := hidW (Below.step (below_new w (.cells #[.bool c.on, .bool c.tre, .bool c.afe, .int .i64 c.n, .bool c.pd0, .bool c.pd1, .int .u64 c.b0, .int .u64 c.b1, .int .u32 c.dacr, .int .u32 c.prrr, .int .u32 c.nmrr, .int .i64 c.asid] 26)) (below_new _ (.cells #[.int .i64 0, .int .i64 0, .int .i64 0] 32)))
  have HT := hidW (ht.below HB.out)
  have HX : Hid (Bl ((w.alloc (.cells #[.bool c.on, .bool c.tre, .bool c.afe, .int .i64 c.n, .bool c.pd0, .bool c.pd1, .int .u64 c.b0, .int .u64 c.b1, .int .u32 c.dacr, .int .u32 c.prrr, .int .u32 c.nmrr, .int .i64 c.asid] 26)).alloc (.cells #[.int .i64 0, .int .i64 0, .int .i64 0] 32)) w.heap.size 26 [.bool c.on, .bool c.tre, .bool c.afe, .int .i64 c.n, .bool c.pd0, .bool c.pd1, .int .u64 c.b0, .int .u64 c.b1, .int .u32 c.dacr, .int .u32 c.prrr, .int .u32 c.nmrr, .int .i64 c.asid]) := (Bl.new _ _ _).below (below_new _ _)
  have HR : Hid (Bl ((w.alloc (.cells #[.bool c.on, .bool c.tre, .bool c.afe, .int .i64 c.n, .bool c.pd0, .bool c.pd1, .int .u64 c.b0, .int .u64 c.b1, .int .u32 c.dacr, .int .u32 c.prrr, .int .u32 c.nmrr, .int .i64 c.asid] 26)).alloc (.cells #[.int .i64 0, .int .i64 0, .int .i64 0] 32)) (w.heap.size + 1) 32 [.int .i64 0, .int .i64 0, .int .i64 0]) := Bl.new1 _ _ _ _
  have hsz : ((w.alloc (.cells #[.bool c.on, .bool c.tre, .bool c.afe, .int .i64 c.n, .bool c.pd0, .bool c.pd1, .int .u64 c.b0, .int .u64 c.b1, .int .u32 c.dacr, .int .u32 c.prrr, .int .u32 c.nmrr, .int .i64 c.asid] 26)).alloc (.cells #[.int .i64 0, .int .i64 0, .int .i64 0] 32)).heap.size = w.heap.size + 1 + 1 := by simp
  have c0 := HX.out.cell
  clear ht
  go_enter Tryd.func6, Tryd.ntmps6
  go_wp2_with fail
  generalize hw0 : ((w.alloc (.cells #[.bool c.on, .bool c.tre, .bool c.afe, .int .i64 c.n, .bool c.pd0, .bool c.pd1, .int .u64 c.b0, .int .u64 c.b1, .int .u32 c.dacr, .int .u32 c.prrr, .int .u32 c.nmrr, .int .i64 c.asid] 26)).alloc (.cells #[.int .i64 0, .int .i64 0, .int .i64 0] 32)) = w0 at *
  clear hw0
  go_at_call 14
  refine HC.out.mono ?_
  rintro e v1 ⟨rfl, hb⟩
  have hb' := Below.step hb (Below.step (below_new v1 (.cells #[.int .i64 U.size, .int .u32 U.va, .int .u64 U.pa, .int .i64 U.dom, .int .i64 U.ap, .int .u32 U.bits, .bool U.ng, .bool U.xn] 49)) (below_new _ (.cells #[.int .i64 F.k, .int .i64 F.l, .int .i64 F.d] 32)))
  have HT1 := hidW (HT.out.below hb')
  have HX1 := hidW (HX.out.below hb')
  have HR1 := hidW (HR.out.below hb')
  have HB1 := hidW (Below.step HB.out hb')
  have hz := hb.size
  have HU : Hid (Bl ((v1.alloc (.cells #[.int .i64 U.size, .int .u32 U.va, .int .u64 U.pa, .int .i64 U.dom, .int .i64 U.ap, .int .u32 U.bits, .bool U.ng, .bool U.xn] 49)).alloc (.cells #[.int .i64 F.k, .int .i64 F.l, .int .i64 F.d] 32)) v1.heap.size 49 [.int .i64 U.size, .int .u32 U.va, .int .u64 U.pa, .int .i64 U.dom, .int .i64 U.ap, .int .u32 U.bits, .bool U.ng, .bool U.xn]) := (Bl.new _ _ _).below (below_new _ _)
  have HV : Hid (Bl ((v1.alloc (.cells #[.int .i64 U.size, .int .u32 U.va, .int .u64 U.pa, .int .i64 U.dom, .int .i64 U.ap, .int .u32 U.bits, .bool U.ng, .bool U.xn] 49)).alloc (.cells #[.int .i64 F.k, .int .i64 F.l, .int .i64 F.d] 32)) (v1.heap.size + 1) 32 [.int .i64 F.k, .int .i64 F.l, .int .i64 F.d]) := Bl.new1 _ _ _ _
  clear hb hb' HT HX HR HB HC c0
  have cU := HU.out.cell
  have cV := HV.out.cell
  have cX := HX1.out.cell
  go_wp2_with fail
  generalize hx : w.heap.size = x at *
  generalize hww : (v1.alloc (.cells #[.int .i64 U.size, .int .u32 U.va, .int .u64 U.pa, .int .i64 U.dom, .int .i64 U.ap, .int .u32 U.bits, .bool U.ng, .bool U.xn] 49)).alloc (.cells #[.int .i64 F.k, .int .i64 F.l, .int .i64 F.d] 32) = w1 at *
  clear hww
  generalize hr : x + 1 = r at *
  generalize hy : v1.heap.size = y at *
  generalize hq : y + 1 = q at *
  have h1 : ¬ y = r := by omega
  have h2 : ¬ q = r := by omega
  have h3 : ¬ y = q := by omega
  have h4 : x ≤ q := by omega
  have h5 : x ≤ r := by omega
  clear hz hsz
  go_at_call 15
  refine (HK.out _ HT1.out).mono ?_
  rintro e w3 ⟨rfl, hb⟩
  have HT := hidW (HT1.out.below hb)
  have HR2 := hidW (HR1.out.below hb)
  have HB2 := hidW (below_at hx HB1.out hb)
  have HU2 := hidW (HU.out.below hb)
  have HV2 := hidW (HV.out.below hb)
  clear hb HT1 HX1 HR1 HB1 HU HV HK cU cV cX
  have cU := HU2.out.cell
  have cV := HV2.out.cell
  have fV := HV2.out.frozen
  have lV := HV2.out.lt
  have hqr := (fun e => h2 e.symm : ¬ r = q)
  have hqy := (fun e => h3 e.symm : ¬ q = y)
  go_wp2_with fail
  have HV := hidW (HV2.out.set3 (.int .i64 G.k) (.int .i64 G.l) (.int .i64 G.d))
  have HR1 := hidW (HR2.out.keep3 hqr (.int .i64 G.k) (.int .i64 G.l) (.int .i64 G.d))
  have HB1 : Hid (Below x w (((w3.setCell ⟨q, 0, none⟩ (.int .i64 G.k)).setCell ⟨q, 1, none⟩ (.int .i64 G.l)).setCell ⟨q, 2, none⟩ (.int .i64 G.d))) := Below.setCell (Below.setCell (Below.setCell HB2.out h4 _) h4 _) h4 _
  clear cU cV fV lV HU2 HV2 HR2 HB2
  generalize ((w3.setCell ⟨q, 0, none⟩ (.int .i64 G.k)).setCell ⟨q, 1, none⟩ (.int .i64 G.l)).setCell ⟨q, 2, none⟩ (.int .i64 G.d) = w2 at *
  have HP0 : Hid (w2.drew.cell? ⟨q, 0, none⟩ = some (.int .i64 G.k)) := HV.out.drew.cell 0
  have HS0 : Hid (∀ v0 v1 v2, (((w2.setCell ⟨r, 0, none⟩ v0).setCell ⟨r, 1, none⟩ v1).setCell ⟨r, 2, none⟩ v2).drew.cell? ⟨q, 0, none⟩ = some (.int .i64 G.k)) := fun v0 v1 v2 => (Bl.keep3 HV.out h2 v0 v1 v2).drew.cell 0
  have HP1 : Hid (w2.drew.cell? ⟨q, 1, none⟩ = some (.int .i64 G.l)) := HV.out.drew.cell 1
  have HS1 : Hid (∀ v0 v1 v2, (((w2.setCell ⟨r, 0, none⟩ v0).setCell ⟨r, 1, none⟩ v1).setCell ⟨r, 2, none⟩ v2).drew.cell? ⟨q, 1, none⟩ = some (.int .i64 G.l)) := fun v0 v1 v2 => (Bl.keep3 HV.out h2 v0 v1 v2).drew.cell 1
  have HP2 : Hid (w2.drew.cell? ⟨q, 2, none⟩ = some (.int .i64 G.d)) := HV.out.drew.cell 2
  have HS2 : Hid (∀ v0 v1 v2, (((w2.setCell ⟨r, 0, none⟩ v0).setCell ⟨r, 1, none⟩ v1).setCell ⟨r, 2, none⟩ v2).drew.cell? ⟨q, 2, none⟩ = some (.int .i64 G.d)) := fun v0 v1 v2 => (Bl.keep3 HV.out h2 v0 v1 v2).drew.cell 2
  have cR := HR1.out.cell
  have fR := HR1.out.frozen
  have lR := HR1.out.lt
  go_region_held3 (fun w' => w'.cell? ⟨q, 0, none⟩ = some (.int .i64 G.k) ∧ w'.cell? ⟨q, 1, none⟩ = some (.int .i64 G.l) ∧ w'.cell? ⟨q, 2, none⟩ = some (.int .i64 G.d)) (first | (with_reducible exact ⟨HP0.out, HP1.out, HP2.out⟩) | (with_reducible exact ⟨HS0.out _ _ _, HS1.out _ _ _, HS2.out _ _ _⟩)) (first | fail)
  go_wp2
  refine bodyPost_ret (v := .tuple #[.int .u64 0, .agg #[.int .i64 G.k, .int .i64 G.l, .int .i64 G.d]]) (by simp [results, Tryd.results6, go_sem, cR, fR, lR]) rfl ⟨rfl, ?_⟩
  rw [hx]
  exact below_drew (Below.setCell (Below.setCell (Below.setCell HB1.out h5 _) h5 _) h5 _)
set_option maxRecDepth 100000 in
set_option maxHeartbeats 4000000 in
theorem go_fine (c : Ctx) (va : Int) (priv : Bool) (k : Int) (w : World) (iv : Value) (U : Tra) (F G : Fa) (hk : (F.k == 0) = true) (hg : (G.k == 0) = true) (hm : IntKind.u32.wrap (va - U.va) = va - U.va) (hu : IntKind.u64.wrap (va - U.va) = va - U.va) (ha : IntKind.u64.wrap (U.pa + (va - U.va)) = U.pa + (va - U.va)) (hv : 0 ≤ va ∧ va < 4294967296) (ht : TC w)
    (HC : Hid (Calls Tryd.prog 14 #[iv, .agg #[.bool c.on, .bool c.tre, .bool c.afe, .int .i64 c.n, .bool c.pd0, .bool c.pd1, .int .u64 c.b0, .int .u64 c.b1, .int .u32 c.dacr, .int .u32 c.prrr, .int .u32 c.nmrr, .int .i64 c.asid], .int .u32 va] ((w.alloc (.cells #[.bool c.on, .bool c.tre, .bool c.afe, .int .i64 c.n, .bool c.pd0, .bool c.pd1, .int .u64 c.b0, .int .u64 c.b1, .int .u32 c.dacr, .int .u32 c.prrr, .int .u32 c.nmrr, .int .i64 c.asid] 26)).alloc (.cells #[.int .i64 0, .int .i64 0, .int .i64 0] 32)) fun e w' => e = .returned (.tuple #[.agg #[.int .i64 U.size, .int .u32 U.va, .int .u64 U.pa, .int .i64 U.dom, .int .i64 U.ap, .int .u32 U.bits, .bool U.ng, .bool U.xn], .agg #[.int .i64 F.k, .int .i64 F.l, .int .i64 F.d]]) ∧ Below ((w.alloc (.cells #[.bool c.on, .bool c.tre, .bool c.afe, .int .i64 c.n, .bool c.pd0, .bool c.pd1, .int .u64 c.b0, .int .u64 c.b1, .int .u32 c.dacr, .int .u32 c.prrr, .int .u32 c.nmrr, .int .i64 c.asid] 26)).alloc (.cells #[.int .i64 0, .int .i64 0, .int .i64 0] 32)).heap.size ((w.alloc (.cells #[.bool c.on, .bool c.tre, .bool c.afe, .int .i64 c.n, .bool c.pd0, .bool c.pd1, .int .u64 c.b0, .int .u64 c.b1, .int .u32 c.dacr, .int .u32 c.prrr, .int .u32 c.nmrr, .int .i64 c.asid] 26)).alloc (.cells #[.int .i64 0, .int .i64 0, .int .i64 0] 32)) w'))
    (HK : Hid (∀ w, TC w → Calls Tryd.prog 15 #[.agg #[.int .i64 U.size, .int .u32 U.va, .int .u64 U.pa, .int .i64 U.dom, .int .i64 U.ap, .int .u32 U.bits, .bool U.ng, .bool U.xn], .agg #[.bool c.on, .bool c.tre, .bool c.afe, .int .i64 c.n, .bool c.pd0, .bool c.pd1, .int .u64 c.b0, .int .u64 c.b1, .int .u32 c.dacr, .int .u32 c.prrr, .int .u32 c.nmrr, .int .i64 c.asid], .bool priv, .int .i64 k] w fun e w' => e = .returned (.agg #[.int .i64 G.k, .int .i64 G.l, .int .i64 G.d]) ∧ Below w.heap.size w w')) :
    Calls Tryd.prog 6 #[iv, .agg #[.bool c.on, .bool c.tre, .bool c.afe, .int .i64 c.n, .bool c.pd0, .bool c.pd1, .int .u64 c.b0, .int .u64 c.b1, .int .u32 c.dacr, .int .u32 c.prrr, .int .u32 c.nmrr, .int .i64 c.asid], .int .u32 va, .bool priv, .int .i64 k] w fun e w' => e = .returned (.tuple #[.int .u64 (U.pa + (va - U.va)), .agg #[.int .i64 fZ.k, .int .i64 fZ.l, .int .i64 fZ.d]]) ∧ Below w.heap.size w w' := by
  have HB := hidW (Below.step (below_new w (.cells #[.bool c.on, .bool c.tre, .bool c.afe, .int .i64 c.n, .bool c.pd0, .bool c.pd1, .int .u64 c.b0, .int .u64 c.b1, .int .u32 c.dacr, .int .u32 c.prrr, .int .u32 c.nmrr, .int .i64 c.asid] 26)) (below_new _ (.cells #[.int .i64 0, .int .i64 0, .int .i64 0] 32)))
  have HT := hidW (ht.below HB.out)
  have HX : Hid (Bl ((w.alloc (.cells #[.bool c.on, .bool c.tre, .bool c.afe, .int .i64 c.n, .bool c.pd0, .bool c.pd1, .int .u64 c.b0, .int .u64 c.b1, .int .u32 c.dacr, .int .u32 c.prrr, .int .u32 c.nmrr, .int .i64 c.asid] 26)).alloc (.cells #[.int .i64 0, .int .i64 0, .int .i64 0] 32)) w.heap.size 26 [.bool c.on, .bool c.tre, .bool c.afe, .int .i64 c.n, .bool c.pd0, .bool c.pd1, .int .u64 c.b0, .int .u64 c.b1, .int .u32 c.dacr, .int .u32 c.prrr, .int .u32 c.nmrr, .int .i64 c.asid]) := (Bl.new _ _ _).below (below_new _ _)
  have HR : Hid (Bl ((w.alloc (.cells #[.bool c.on, .bool c.tre, .bool c.afe, .int .i64 c.n, .bool c.pd0, .bool c.pd1, .int .u64 c.b0, .int .u64 c.b1, .int .u32 c.dacr, .int .u32 c.prrr, .int .u32 c.nmrr, .int .i64 c.asid] 26)).alloc (.cells #[.int .i64 0, .int .i64 0, .int .i64 0] 32)) (w.heap.size + 1) 32 [.int .i64 0, .int .i64 0, .int .i64 0]) := Bl.new1 _ _ _ _
  have hsz : ((w.alloc (.cells #[.bool c.on, .bool c.tre, .bool c.afe, .int .i64 c.n, .bool c.pd0, .bool c.pd1, .int .u64 c.b0, .int .u64 c.b1, .int .u32 c.dacr, .int .u32 c.prrr, .int .u32 c.nmrr, .int .i64 c.asid] 26)).alloc (.cells #[.int .i64 0, .int .i64 0, .int .i64 0] 32)).heap.size = w.heap.size + 1 + 1 := by simp
  have c0 := HX.out.cell
  clear ht
  go_enter Tryd.func6, Tryd.ntmps6
  go_wp2_with fail
  generalize hw0 : ((w.alloc (.cells #[.bool c.on, .bool c.tre, .bool c.afe, .int .i64 c.n, .bool c.pd0, .bool c.pd1, .int .u64 c.b0, .int .u64 c.b1, .int .u32 c.dacr, .int .u32 c.prrr, .int .u32 c.nmrr, .int .i64 c.asid] 26)).alloc (.cells #[.int .i64 0, .int .i64 0, .int .i64 0] 32)) = w0 at *
  clear hw0
  go_at_call 14
  refine HC.out.mono ?_
  rintro e v1 ⟨rfl, hb⟩
  have hb' := Below.step hb (Below.step (below_new v1 (.cells #[.int .i64 U.size, .int .u32 U.va, .int .u64 U.pa, .int .i64 U.dom, .int .i64 U.ap, .int .u32 U.bits, .bool U.ng, .bool U.xn] 49)) (below_new _ (.cells #[.int .i64 F.k, .int .i64 F.l, .int .i64 F.d] 32)))
  have HT1 := hidW (HT.out.below hb')
  have HX1 := hidW (HX.out.below hb')
  have HR1 := hidW (HR.out.below hb')
  have HB1 := hidW (Below.step HB.out hb')
  have hz := hb.size
  have HU : Hid (Bl ((v1.alloc (.cells #[.int .i64 U.size, .int .u32 U.va, .int .u64 U.pa, .int .i64 U.dom, .int .i64 U.ap, .int .u32 U.bits, .bool U.ng, .bool U.xn] 49)).alloc (.cells #[.int .i64 F.k, .int .i64 F.l, .int .i64 F.d] 32)) v1.heap.size 49 [.int .i64 U.size, .int .u32 U.va, .int .u64 U.pa, .int .i64 U.dom, .int .i64 U.ap, .int .u32 U.bits, .bool U.ng, .bool U.xn]) := (Bl.new _ _ _).below (below_new _ _)
  have HV : Hid (Bl ((v1.alloc (.cells #[.int .i64 U.size, .int .u32 U.va, .int .u64 U.pa, .int .i64 U.dom, .int .i64 U.ap, .int .u32 U.bits, .bool U.ng, .bool U.xn] 49)).alloc (.cells #[.int .i64 F.k, .int .i64 F.l, .int .i64 F.d] 32)) (v1.heap.size + 1) 32 [.int .i64 F.k, .int .i64 F.l, .int .i64 F.d]) := Bl.new1 _ _ _ _
  clear hb hb' HT HX HR HB HC c0
  have cU := HU.out.cell
  have cV := HV.out.cell
  have cX := HX1.out.cell
  go_wp2_with fail
  generalize hx : w.heap.size = x at *
  generalize hww : (v1.alloc (.cells #[.int .i64 U.size, .int .u32 U.va, .int .u64 U.pa, .int .i64 U.dom, .int .i64 U.ap, .int .u32 U.bits, .bool U.ng, .bool U.xn] 49)).alloc (.cells #[.int .i64 F.k, .int .i64 F.l, .int .i64 F.d] 32) = w1 at *
  clear hww
  generalize hr : x + 1 = r at *
  generalize hy : v1.heap.size = y at *
  generalize hq : y + 1 = q at *
  have h1 : ¬ y = r := by omega
  have h2 : ¬ q = r := by omega
  have h3 : ¬ y = q := by omega
  have h4 : x ≤ q := by omega
  have h5 : x ≤ r := by omega
  clear hz hsz
  go_at_call 15
  refine (HK.out _ HT1.out).mono ?_
  rintro e w3 ⟨rfl, hb⟩
  have HT := hidW (HT1.out.below hb)
  have HR2 := hidW (HR1.out.below hb)
  have HB2 := hidW (below_at hx HB1.out hb)
  have HU2 := hidW (HU.out.below hb)
  have HV2 := hidW (HV.out.below hb)
  clear hb HT1 HX1 HR1 HB1 HU HV HK cU cV cX
  have cU := HU2.out.cell
  have cV := HV2.out.cell
  have fV := HV2.out.frozen
  have lV := HV2.out.lt
  have hqr := (fun e => h2 e.symm : ¬ r = q)
  have hqy := (fun e => h3 e.symm : ¬ q = y)
  have HV := hidW (HV2.out.set3 (.int .i64 G.k) (.int .i64 G.l) (.int .i64 G.d))
  have HR1 := hidW (HR2.out.keep3 hqr (.int .i64 G.k) (.int .i64 G.l) (.int .i64 G.d))
  have cR := HR2.out.cell
  have fR := HR2.out.frozen
  have lR := HR2.out.lt
  have cR1 := HR1.out.cell
  have fR1 := HR1.out.frozen
  have lR1 := HR1.out.lt
  go_wp2
  refine bodyPost_ret (v := .tuple #[.int .u64 (U.pa + (va - U.va)), .agg #[.int .i64 fZ.k, .int .i64 fZ.l, .int .i64 fZ.d]]) (by simp [results, Tryd.results6, go_sem, fZ, cR, fR, lR, cR1, fR1, lR1]) rfl ⟨rfl, ?_⟩
  rw [hx]
  exact Below.setCell (Below.setCell (Below.setCell (Below.setCell (Below.setCell (Below.setCell HB2.out h4 _) h4 _) h4 _) h5 _) h5 _) h5 _
theorem go_any (c : Ctx) (va : Int) (priv : Bool) (k : Int) (w : World) {S : Nat → Prop} {iv : Value} {M : Mo} (h : MemP w S iv M) (ht : TC w) (hc : c.Ok) (hv : 0 ≤ va ∧ va < 4294967296) :
    Calls Tryd.prog 6 #[iv, .agg #[.bool c.on, .bool c.tre, .bool c.afe, .int .i64 c.n, .bool c.pd0, .bool c.pd1, .int .u64 c.b0, .int .u64 c.b1, .int .u32 c.dacr, .int .u32 c.prrr, .int .u32 c.nmrr, .int .i64 c.asid], .int .u32 va, .bool priv, .int .i64 k] w fun e w' => e = .returned (.tuple #[.int .u64 (goF M c va priv k).1, .agg #[.int .i64 ((goF M c va priv k).2).k, .int .i64 ((goF M c va priv k).2).l, .int .i64 ((goF M c va priv k).2).d]]) ∧ Below w.heap.size w w' := by
  have b0 : Below w.heap.size w ((w.alloc (.cells #[.bool c.on, .bool c.tre, .bool c.afe, .int .i64 c.n, .bool c.pd0, .bool c.pd1, .int .u64 c.b0, .int .u64 c.b1, .int .u32 c.dacr, .int .u32 c.prrr, .int .u32 c.nmrr, .int .i64 c.asid] 26)).alloc (.cells #[.int .i64 0, .int .i64 0, .int .i64 0] 32)) := Below.step (below_new _ _) (below_new _ _)
  have HC := hidW (walk_pure c va _ (h.below b0) (ht.tw.below b0) hc hv)
  have HF : (wk M c va).2.k = 0 → (wk M c va).2 = fZ ∧ Fnd (wk M c va).1 va := fun hk => by
    obtain ⟨h1, h2, _⟩ := found h.ok hc hv rfl hk
    exact ⟨h1, h2⟩
  unfold goF
  generalize wk M c va = R at *
  obtain ⟨U, F⟩ := R
  dsimp only at HF ⊢
  by_cases hk : F.k = 0
  · obtain ⟨hF, hf⟩ := HF hk
    have HK := hidW (fun w (hw : TC w) => check_any U c priv k w hw (hf.ft hv) hc.dacr)
    have hrg := hf.rng hv
    have hpa := hf.pa
    rw [if_pos hk]
    by_cases hg : (chF U c priv k).k = 0
    · rw [if_pos hg]
      exact go_fine c va priv k w iv U F (chF U c priv k) (by simp [hk]) (by simp [hg]) (by rw [IntKind.wrap_u32]; omega) (by rw [IntKind.wrap_u64]; omega) (by rw [IntKind.wrap_u64]; omega) hv ht HC HK
    · rw [if_neg hg]
      exact go_bad2 c va priv k w iv U F (chF U c priv k) (by simp [hk]) (by simpa using hg) hv ht HC HK
  · rw [if_neg hk]
    exact go_bad1 c va priv k w iv U F (by simpa using hk) hv ht HC
end Go.Proofs.YtmodcbdgnmjkoabDoor
namespace Go.Proofs.YtmodcbdgnmjkoabDoor
open Go.RowKit
set_option linter.unusedVariables false
set_option linter.unusedSimpArgs false
/-- What the reference says of rights in letters. -/
def canS (r s : Bool) : ByteArray := if s then ⟨#[114, 119]⟩ else if r then ⟨#[114]⟩ else ⟨#[]⟩
set_option maxRecDepth 100000 in
set_option maxHeartbeats 8000000 in
theorem can_any (ap : Nat) (afe priv : Bool) (w : World) (h : ap < 8) :
    Calls Tryd.prog 72 #[.int .i64 ap, .bool afe, .bool priv] w fun e w' => e = .returned (.string (canS (maR ap afe priv) (maW ap afe priv))) ∧ w = w' := by
  rcases (show ap = 0 ∨ ap = 1 ∨ ap = 2 ∨ ap = 3 ∨ ap = 4 ∨ ap = 5 ∨ ap = 6 ∨ ap = 7 by omega) with rfl | rfl | rfl | rfl | rfl | rfl | rfl | rfl <;> cases afe <;> cases priv
  all_goals
    go_enter Tryd.func72, Tryd.ntmps72
    go_wp2
    go_ret
    exact ⟨rfl, rfl⟩
theorem may_le (ap : Nat) (afe priv : Bool) (h : ap < 8) (hs : maW ap afe priv = true) : maR ap afe priv = true := by
  rcases (show ap = 0 ∨ ap = 1 ∨ ap = 2 ∨ ap = 3 ∨ ap = 4 ∨ ap = 5 ∨ ap = 6 ∨ ap = 7 by omega) with rfl | rfl | rfl | rfl | rfl | rfl | rfl | rfl <;> cases afe <;> cases priv <;> first | rfl | exact absurd hs (by decide)
set_option maxRecDepth 100000 in
set_option maxHeartbeats 1000000 in
theorem rallows_no (ap bt : Int) (ng xn afe priv : Bool) (k : Int) (w : World) (h : ¬ (0 ≤ ap ∧ ap < 8)) :
    Calls Tryd.prog 37 #[.agg #[.int .i64 ap, .int .u32 bt, .bool ng, .bool xn], .bool afe, .bool priv, .int .i64 k] w fun e w' => e = .returned (.bool false) ∧ Below w.heap.size w w' := by
  have HN : Hid (∀ o, Below w.heap.size w (w.alloc o)) := below_new w
  by_cases h1 : ap < 0
  · have q1 : decide (ap < 0) = true := by simp [h1]
    clear h
    go_enter Tryd.func37, Tryd.ntmps37
    go_wp2
    go_ret
    exact ⟨rfl, HN.out _⟩
  · have q1 : decide (ap < 0) = false := by simp; omega
    have q2 : decide (7 < ap) = true := by simp; omega
    clear h
    go_enter Tryd.func37, Tryd.ntmps37
    go_wp2
    go_ret
    exact ⟨rfl, HN.out _⟩
set_option maxRecDepth 100000 in
set_option maxHeartbeats 4000000 in
theorem rallows_yes (ap bt : Int) (ng xn afe priv r s : Bool) (hrs : s = true → r = true) (k : Int) (w : World) (h1 : 0 ≤ ap) (h2 : ap < 8)
    (HA : ∀ w, Calls Tryd.prog 72 #[.int .i64 ap, .bool afe, .bool priv] w fun e w' => e = .returned (.string (canS r s)) ∧ w = w') :
    Calls Tryd.prog 37 #[.agg #[.int .i64 ap, .int .u32 bt, .bool ng, .bool xn], .bool afe, .bool priv, .int .i64 k] w fun e w' => e = .returned (.bool (if k = 1 then r && !xn else if k = 2 then r else if k = 3 then s else false)) ∧ Below w.heap.size w w' := by
  have q1 : decide (ap < 0) = false := by simp; omega
  have q2 : decide (7 < ap) = false := by simp; omega
  have HN : Hid (∀ o, Below w.heap.size w (w.alloc o)) := below_new w
  have HA' : Hid (∀ w, Calls Tryd.prog 72 #[.int .i64 ap, .bool afe, .bool priv] w fun e w' => e = .returned (.string (canS r s)) ∧ w = w') := HA
  have ek : (k = 1 ∨ k = 2 ∨ k = 3 ∨ (¬ (k = 1) ∧ ¬ (k = 2) ∧ ¬ (k = 3))) := by omega
  clear HA h1 h2
  cases r <;> cases s
  case false.true => exact absurd (hrs rfl) (by decide)
  all_goals
    simp only [canS, if_pos, if_neg, Bool.false_eq_true, if_false] at HA'
    rcases ek with rfl | rfl | rfl | ⟨k1, k2, k3⟩
    · go_enter Tryd.func37, Tryd.ntmps37
      go_wp2_with (first | (go_at_call 72; refine (HA'.out _).mono ?_; rintro e w' ⟨rfl, rfl⟩) | go_in)
      go_ret
      exact ⟨by simp, HN.out _⟩
    · go_enter Tryd.func37, Tryd.ntmps37
      go_wp2_with (first | (go_at_call 72; refine (HA'.out _).mono ?_; rintro e w' ⟨rfl, rfl⟩) | go_in)
      go_ret
      exact ⟨by simp, HN.out _⟩
    · go_enter Tryd.func37, Tryd.ntmps37
      go_wp2_with (first | (go_at_call 72; refine (HA'.out _).mono ?_; rintro e w' ⟨rfl, rfl⟩) | go_in)
      go_ret
      exact ⟨by simp, HN.out _⟩
    · have z1 : (k == 1) = false := by simp [k1]
      have z2 : (k == 2) = false := by simp [k2]
      have z3 : (k == 3) = false := by simp [k3]
      go_enter Tryd.func37, Tryd.ntmps37
      go_wp2_with (first | (go_at_call 72; refine (HA'.out _).mono ?_; rintro e w' ⟨rfl, rfl⟩) | go_in)
      go_ret
      exact ⟨by simp [k1, k2, k3], HN.out _⟩
theorem rallows_any (ap bt : Int) (ng xn afe priv : Bool) (k : Int) (w : World) :
    Calls Tryd.prog 37 #[.agg #[.int .i64 ap, .int .u32 bt, .bool ng, .bool xn], .bool afe, .bool priv, .int .i64 k] w fun e w' => e = .returned (.bool (alF ap xn afe priv k)) ∧ Below w.heap.size w w' := by
  unfold alF
  by_cases h : 0 ≤ ap ∧ ap < 8
  · rw [if_pos h]
    obtain ⟨n, rfl⟩ := Int.eq_ofNat_of_zero_le h.1
    exact rallows_yes n bt ng xn afe priv _ _ (may_le n afe priv (by omega)) k w h.1 h.2 (fun w => can_any n afe priv w (by omega))
  · rw [if_neg h]
    exact rallows_no ap bt ng xn afe priv k w h
end Go.Proofs.YtmodcbdgnmjkoabDoor
namespace Go.Proofs.YtmodcbdgnmjkoabDoor
open Go.RowKit
set_option linter.unusedVariables false
set_option linter.unusedSimpArgs false

set_option maxRecDepth 100000 in
theorem rplace_24_32 (b : Int) (w : World) (hb : 0 ≤ b) : Calls Tryd.prog 70 #[.int .u64 b, .int .i64 24, .int .i64 32] w fun e w' => e = .returned (.bool (decide (b % 16777216 = 0) && decide (b < 4294967296))) ∧ w = w' := by
  have hp1 := fun w => power_lit2 24 16777216 w (by decide) (by decide) 24 rfl
  have hp2 := fun w => power_lit2 32 4294967296 w (by decide) (by decide) 32 rfl
  have ht : b.tmod 16777216 = b % 16777216 := Int.tmod_eq_emod_of_nonneg hb
  by_cases h : b % 16777216 = 0
  · have q : (b % 16777216 == 0) = true := by simp [h]
    go_enter Tryd.func70, Tryd.ntmps70
    go_wp2_with (first
      | (go_at_call_of 42 (Value.int IntKind.i64 24); refine (hp1 _).mono ?_; rintro e w' ⟨rfl, rfl⟩)
      | (go_at_call_of 42 (Value.int IntKind.i64 32); refine (hp2 _).mono ?_; rintro e w' ⟨rfl, rfl⟩)
      | go_in)
    go_ret
    exact ⟨by simp [h], rfl⟩
  · have q : (b % 16777216 == 0) = false := by simp [h]
    go_enter Tryd.func70, Tryd.ntmps70
    go_wp2_with (first
      | (go_at_call_of 42 (Value.int IntKind.i64 24); refine (hp1 _).mono ?_; rintro e w' ⟨rfl, rfl⟩)
      | (go_at_call_of 42 (Value.int IntKind.i64 32); refine (hp2 _).mono ?_; rintro e w' ⟨rfl, rfl⟩)
      | go_in)
    go_ret
    exact ⟨by simp [h], rfl⟩
end Go.Proofs.YtmodcbdgnmjkoabDoor
namespace Go.Proofs.YtmodcbdgnmjkoabDoor
open Go.RowKit
set_option linter.unusedVariables false
set_option linter.unusedSimpArgs false

set_option maxRecDepth 100000 in
set_option maxHeartbeats 8000000 in
theorem rright_1 (t2 t3 t4 t5 t6 : Int) (t7 t8 : Bool) (W : World) (P L a b Q z : Bool) (hw : t2 % 18446744073709551616 = t2) (ha : decide (t4 < 0) = a) (hb : decide (15 < t4) = b) (hz : (t4 == 0) = z)
    (HS : ∀ w, Calls Tryd.prog 69 #[.int .i64 1] w fun e w' => e = .returned (.int .i64 12) ∧ w = w')
    (HV : ∀ w, Calls Tryd.prog 70 #[.int .u64 t2, .int .i64 12, .int .i64 32] w fun e w' => e = .returned (.bool P) ∧ w = w')
    (HQ : ∀ w, Calls Tryd.prog 70 #[.int .u64 t3, .int .i64 12, .int .i64 32] w fun e w' => e = .returned (.bool Q) ∧ w = w')
    (HL : ∀ w, Calls Tryd.prog 71 #[.agg #[.int .i64 t5, .int .u32 t6, .bool t7, .bool t8]] w fun e w' => e = .returned (.bool L) ∧ Below w.heap.size w w') :
    Calls Tryd.prog 35 #[.agg #[.int .i64 1, .int .u32 t2, .int .u64 t3, .int .i64 t4, .int .i64 t5, .int .u32 t6, .bool t7, .bool t8]] W fun r w' => r = .returned (.bool (if P && (L && (!a && !b)) then Q else false)) ∧ Below W.heap.size W w' := by
  have hN := Bl.new W 49 [.int .i64 1, .int .u32 t2, .int .u64 t3, .int .i64 t4, .int .i64 t5, .int .u32 t6, .bool t7, .bool t8]
  have HB0 : Hid (∀ o, Below W.heap.size W (W.alloc o)) := fun o => ((Below.refl _ _).alloc (Nat.le_refl _) o)
  cases P <;> cases L <;> cases a <;> cases b
  all_goals
    go_enter Tryd.func35, Tryd.ntmps35
    go_wp2_with (first
      | (go_at_call 69; refine (HS _).mono ?_; rintro e w' ⟨rfl, rfl⟩)
      | (go_at_call_of 70 (Value.int IntKind.u64 t2); refine (HV _).mono ?_; rintro e w' ⟨rfl, rfl⟩)
      | (go_at_call_of 70 (Value.int IntKind.u64 t3); refine (HQ _).mono ?_; rintro e w' ⟨rfl, rfl⟩)
      | (go_at_call 71; refine (HL _).mono ?_; rintro e w2 ⟨rfl, hbb⟩; have hx2 := hN.below hbb; have HBL : Hid (Below W.heap.size W w2) := Below.one hbb; clear hbb hN; have hc := hx2.cell)
      | go_in)
    go_ret
    exact ⟨rfl, (by first | exact HBL.out | exact HB0.out _)⟩
end Go.Proofs.YtmodcbdgnmjkoabDoor
namespace Go.Proofs.YtmodcbdgnmjkoabDoor
open Go.RowKit
set_option linter.unusedVariables false
set_option linter.unusedSimpArgs false

set_option maxRecDepth 100000 in
set_option maxHeartbeats 8000000 in
theorem rright_2 (t2 t3 t4 t5 t6 : Int) (t7 t8 : Bool) (W : World) (P L a b Q z : Bool) (hw : t2 % 18446744073709551616 = t2) (ha : decide (t4 < 0) = a) (hb : decide (15 < t4) = b) (hz : (t4 == 0) = z)
    (HS : ∀ w, Calls Tryd.prog 69 #[.int .i64 2] w fun e w' => e = .returned (.int .i64 16) ∧ w = w')
    (HV : ∀ w, Calls Tryd.prog 70 #[.int .u64 t2, .int .i64 16, .int .i64 32] w fun e w' => e = .returned (.bool P) ∧ w = w')
    (HQ : ∀ w, Calls Tryd.prog 70 #[.int .u64 t3, .int .i64 16, .int .i64 32] w fun e w' => e = .returned (.bool Q) ∧ w = w')
    (HL : ∀ w, Calls Tryd.prog 71 #[.agg #[.int .i64 t5, .int .u32 t6, .bool t7, .bool t8]] w fun e w' => e = .returned (.bool L) ∧ Below w.heap.size w w') :
    Calls Tryd.prog 35 #[.agg #[.int .i64 2, .int .u32 t2, .int .u64 t3, .int .i64 t4, .int .i64 t5, .int .u32 t6, .bool t7, .bool t8]] W fun r w' => r = .returned (.bool (if P && (L && (!a && !b)) then Q else false)) ∧ Below W.heap.size W w' := by
  have hN := Bl.new W 49 [.int .i64 2, .int .u32 t2, .int .u64 t3, .int .i64 t4, .int .i64 t5, .int .u32 t6, .bool t7, .bool t8]
  have HB0 : Hid (∀ o, Below W.heap.size W (W.alloc o)) := fun o => ((Below.refl _ _).alloc (Nat.le_refl _) o)
  cases P <;> cases L <;> cases a <;> cases b
  all_goals
    go_enter Tryd.func35, Tryd.ntmps35
    go_wp2_with (first
      | (go_at_call 69; refine (HS _).mono ?_; rintro e w' ⟨rfl, rfl⟩)
      | (go_at_call_of 70 (Value.int IntKind.u64 t2); refine (HV _).mono ?_; rintro e w' ⟨rfl, rfl⟩)
      | (go_at_call_of 70 (Value.int IntKind.u64 t3); refine (HQ _).mono ?_; rintro e w' ⟨rfl, rfl⟩)
      | (go_at_call 71; refine (HL _).mono ?_; rintro e w2 ⟨rfl, hbb⟩; have hx2 := hN.below hbb; have HBL : Hid (Below W.heap.size W w2) := Below.one hbb; clear hbb hN; have hc := hx2.cell)
      | go_in)
    go_ret
    exact ⟨rfl, (by first | exact HBL.out | exact HB0.out _)⟩
end Go.Proofs.YtmodcbdgnmjkoabDoor
namespace Go.Proofs.YtmodcbdgnmjkoabDoor
open Go.RowKit
set_option linter.unusedVariables false
set_option linter.unusedSimpArgs false

set_option maxRecDepth 100000 in
set_option maxHeartbeats 8000000 in
theorem rright_3 (t2 t3 t4 t5 t6 : Int) (t7 t8 : Bool) (W : World) (P L a b Q z : Bool) (hw : t2 % 18446744073709551616 = t2) (ha : decide (t4 < 0) = a) (hb : decide (15 < t4) = b) (hz : (t4 == 0) = z)
    (HS : ∀ w, Calls Tryd.prog 69 #[.int .i64 3] w fun e w' => e = .returned (.int .i64 20) ∧ w = w')
    (HV : ∀ w, Calls Tryd.prog 70 #[.int .u64 t2, .int .i64 20, .int .i64 32] w fun e w' => e = .returned (.bool P) ∧ w = w')
    (HQ : ∀ w, Calls Tryd.prog 70 #[.int .u64 t3, .int .i64 20, .int .i64 32] w fun e w' => e = .returned (.bool Q) ∧ w = w')
    (HL : ∀ w, Calls Tryd.prog 71 #[.agg #[.int .i64 t5, .int .u32 t6, .bool t7, .bool t8]] w fun e w' => e = .returned (.bool L) ∧ Below w.heap.size w w') :
    Calls Tryd.prog 35 #[.agg #[.int .i64 3, .int .u32 t2, .int .u64 t3, .int .i64 t4, .int .i64 t5, .int .u32 t6, .bool t7, .bool t8]] W fun r w' => r = .returned (.bool (if P && (L && (!a && !b)) then Q else false)) ∧ Below W.heap.size W w' := by
  have hN := Bl.new W 49 [.int .i64 3, .int .u32 t2, .int .u64 t3, .int .i64 t4, .int .i64 t5, .int .u32 t6, .bool t7, .bool t8]
  have HB0 : Hid (∀ o, Below W.heap.size W (W.alloc o)) := fun o => ((Below.refl _ _).alloc (Nat.le_refl _) o)
  cases P <;> cases L <;> cases a <;> cases b
  all_goals
    go_enter Tryd.func35, Tryd.ntmps35
    go_wp2_with (first
      | (go_at_call 69; refine (HS _).mono ?_; rintro e w' ⟨rfl, rfl⟩)
      | (go_at_call_of 70 (Value.int IntKind.u64 t2); refine (HV _).mono ?_; rintro e w' ⟨rfl, rfl⟩)
      | (go_at_call_of 70 (Value.int IntKind.u64 t3); refine (HQ _).mono ?_; rintro e w' ⟨rfl, rfl⟩)
      | (go_at_call 71; refine (HL _).mono ?_; rintro e w2 ⟨rfl, hbb⟩; have hx2 := hN.below hbb; have HBL : Hid (Below W.heap.size W w2) := Below.one hbb; clear hbb hN; have hc := hx2.cell)
      | go_in)
    go_ret
    exact ⟨rfl, (by first | exact HBL.out | exact HB0.out _)⟩
end Go.Proofs.YtmodcbdgnmjkoabDoor
namespace Go.Proofs.YtmodcbdgnmjkoabDoor
open Go.RowKit
set_option linter.unusedVariables false
set_option linter.unusedSimpArgs false

set_option maxRecDepth 100000 in
set_option maxHeartbeats 8000000 in
theorem rright_4 (t2 t3 t4 t5 t6 : Int) (t7 t8 : Bool) (W : World) (P L a b Q z : Bool) (hw : t2 % 18446744073709551616 = t2) (ha : decide (t4 < 0) = a) (hb : decide (15 < t4) = b) (hz : (t4 == 0) = z)
    (HS : ∀ w, Calls Tryd.prog 69 #[.int .i64 4] w fun e w' => e = .returned (.int .i64 24) ∧ w = w')
    (HV : ∀ w, Calls Tryd.prog 70 #[.int .u64 t2, .int .i64 24, .int .i64 32] w fun e w' => e = .returned (.bool P) ∧ w = w')
    (HQ : ∀ w, Calls Tryd.prog 70 #[.int .u64 t3, .int .i64 24, .int .i64 40] w fun e w' => e = .returned (.bool Q) ∧ w = w')
    (HL : ∀ w, Calls Tryd.prog 71 #[.agg #[.int .i64 t5, .int .u32 t6, .bool t7, .bool t8]] w fun e w' => e = .returned (.bool L) ∧ Below w.heap.size w w') :
    Calls Tryd.prog 35 #[.agg #[.int .i64 4, .int .u32 t2, .int .u64 t3, .int .i64 t4, .int .i64 t5, .int .u32 t6, .bool t7, .bool t8]] W fun r w' => r = .returned (.bool (if P && (L && (!a && !b)) then Q && z else false)) ∧ Below W.heap.size W w' := by
  have hN := Bl.new W 49 [.int .i64 4, .int .u32 t2, .int .u64 t3, .int .i64 t4, .int .i64 t5, .int .u32 t6, .bool t7, .bool t8]
  have HB0 : Hid (∀ o, Below W.heap.size W (W.alloc o)) := fun o => ((Below.refl _ _).alloc (Nat.le_refl _) o)
  cases P <;> cases L <;> cases a <;> cases b <;> cases Q
  all_goals
    go_enter Tryd.func35, Tryd.ntmps35
    go_wp2_with (first
      | (go_at_call 69; refine (HS _).mono ?_; rintro e w' ⟨rfl, rfl⟩)
      | (go_at_call_of 70 (Value.int IntKind.u64 t2); refine (HV _).mono ?_; rintro e w' ⟨rfl, rfl⟩)
      | (go_at_call_of 70 (Value.int IntKind.u64 t3); refine (HQ _).mono ?_; rintro e w' ⟨rfl, rfl⟩)
      | (go_at_call 71; refine (HL _).mono ?_; rintro e w2 ⟨rfl, hbb⟩; have hx2 := hN.below hbb; have HBL : Hid (Below W.heap.size W w2) := Below.one hbb; clear hbb hN; have hc := hx2.cell)
      | go_in)
    go_ret
    exact ⟨rfl, (by first | exact HBL.out | exact HB0.out _)⟩
end Go.Proofs.YtmodcbdgnmjkoabDoor
namespace Go.Proofs.YtmodcbdgnmjkoabDoor
open Go.RowKit
set_option linter.unusedVariables false
set_option linter.unusedSimpArgs false

set_option maxRecDepth 100000 in
set_option maxHeartbeats 4000000 in
theorem rright_no (t : Tra) (W : World) (HS : ∀ w, Calls Tryd.prog 69 #[.int .i64 t.size] w fun e w' => e = .returned (.int .i64 0) ∧ w = w') : Calls Tryd.prog 35 #[.agg #[.int .i64 t.size, .int .u32 t.va, .int .u64 t.pa, .int .i64 t.dom, .int .i64 t.ap, .int .u32 t.bits, .bool t.ng, .bool t.xn]] W fun r w' => r = .returned (.bool false) ∧ Below W.heap.size W w' := by
  have HB0 : Hid (∀ o, Below W.heap.size W (W.alloc o)) := fun o => ((Below.refl _ _).alloc (Nat.le_refl _) o)
  go_enter Tryd.func35, Tryd.ntmps35
  go_wp2_with (first
    | (go_at_call 69; refine (HS _).mono ?_; rintro e w' ⟨rfl, rfl⟩)
    | go_in)
  go_ret
  exact ⟨rfl, HB0.out _⟩
theorem rright_any (t : Tra) (W : World) (hv : 0 ≤ t.va ∧ t.va < 4294967296) (hO : Ok (enF t)) : Calls Tryd.prog 35 #[.agg #[.int .i64 t.size, .int .u32 t.va, .int .u64 t.pa, .int .i64 t.dom, .int .i64 t.ap, .int .u32 t.bits, .bool t.ng, .bool t.xn]] W fun r w' => r = .returned (.bool (riF t)) ∧ Below W.heap.size W w' := by
  have hp : 0 ≤ t.pa := hO.1.1
  by_cases hs : 1 ≤ t.size ∧ t.size ≤ 4
  · have hri := ri_iff t hO hs
    have HL := fun w => rleaf_any t.ap t.bits t.ng t.xn w
    have hw : t.va % 18446744073709551616 = t.va := by omega
    obtain ⟨s, t2, t3, t4, t5, t6, t7, t8⟩ := t
    simp only at hs hv hp hw HL
    rcases (show s = 1 ∨ s = 2 ∨ s = 3 ∨ s = 4 by omega) with rfl | rfl | rfl | rfl
    · have hB : (if (decide (t2 % 4096 = 0) && decide (t2 < 4294967296)) && (lfB t5 t6 && (!(decide (t4 < 0)) && !(decide (15 < t4)))) then (decide (t3 % 4096 = 0) && decide (t3 < 4294967296)) else false) = riF ⟨1, t2, t3, t4, t5, t6, t7, t8⟩ := by
        apply Bool.eq_iff_iff.2
        rw [hri]
        have e4 : byN 1 = 4096 := rfl
        simp only [RR, e4, show ¬ ((1 : Int) = 4) from by decide, if_false]
        split
        · rename_i h
          simp only [Bool.and_eq_true, decide_eq_true_eq, lfB_iff, Bool.not_eq_true', decide_eq_false_iff_not, beq_iff_eq] at h ⊢
          omega
        · rename_i h
          simp only [Bool.and_eq_true, decide_eq_true_eq, lfB_iff, Bool.not_eq_true', decide_eq_false_iff_not] at h
          constructor
          · intro f
            cases f
          · intro g
            exfalso
            omega
      rw [← hB]
      exact rright_1 t2 t3 t4 t5 t6 t7 t8 W _ _ _ _ _ _ hw rfl rfl rfl (fun w => shift_any 1 w) (fun w => rplace_12_32 t2 w hv.1) (fun w => rplace_12_32 t3 w hp) HL
    · have hB : (if (decide (t2 % 65536 = 0) && decide (t2 < 4294967296)) && (lfB t5 t6 && (!(decide (t4 < 0)) && !(decide (15 < t4)))) then (decide (t3 % 65536 = 0) && decide (t3 < 4294967296)) else false) = riF ⟨2, t2, t3, t4, t5, t6, t7, t8⟩ := by
        apply Bool.eq_iff_iff.2
        rw [hri]
        have e4 : byN 2 = 65536 := rfl
        simp only [RR, e4, show ¬ ((2 : Int) = 4) from by decide, if_false]
        split
        · rename_i h
          simp only [Bool.and_eq_true, decide_eq_true_eq, lfB_iff, Bool.not_eq_true', decide_eq_false_iff_not, beq_iff_eq] at h ⊢
          omega
        · rename_i h
          simp only [Bool.and_eq_true, decide_eq_true_eq, lfB_iff, Bool.not_eq_true', decide_eq_false_iff_not] at h
          constructor
          · intro f
            cases f
          · intro g
            exfalso
            omega
      rw [← hB]
      exact rright_2 t2 t3 t4 t5 t6 t7 t8 W _ _ _ _ _ _ hw rfl rfl rfl (fun w => shift_any 2 w) (fun w => rplace_16_32 t2 w hv.1) (fun w => rplace_16_32 t3 w hp) HL
    · have hB : (if (decide (t2 % 1048576 = 0) && decide (t2 < 4294967296)) && (lfB t5 t6 && (!(decide (t4 < 0)) && !(decide (15 < t4)))) then (decide (t3 % 1048576 = 0) && decide (t3 < 4294967296)) else false) = riF ⟨3, t2, t3, t4, t5, t6, t7, t8⟩ := by
        apply Bool.eq_iff_iff.2
        rw [hri]
        have e4 : byN 3 = 1048576 := rfl
        simp only [RR, e4, show ¬ ((3 : Int) = 4) from by decide, if_false]
        split
        · rename_i h
          simp only [Bool.and_eq_true, decide_eq_true_eq, lfB_iff, Bool.not_eq_true', decide_eq_false_iff_not, beq_iff_eq] at h ⊢
          omega
        · rename_i h
          simp only [Bool.and_eq_true, decide_eq_true_eq, lfB_iff, Bool.not_eq_true', decide_eq_false_iff_not] at h
          constructor
          · intro f
            cases f
          · intro g
            exfalso
            omega
      rw [← hB]
      exact rright_3 t2 t3 t4 t5 t6 t7 t8 W _ _ _ _ _ _ hw rfl rfl rfl (fun w => shift_any 3 w) (fun w => rplace_20_32 t2 w hv.1) (fun w => rplace_20_32 t3 w hp) HL
    · have hB : (if (decide (t2 % 16777216 = 0) && decide (t2 < 4294967296)) && (lfB t5 t6 && (!(decide (t4 < 0)) && !(decide (15 < t4)))) then (decide (t3 % 16777216 = 0) && decide (t3 < 1099511627776)) && (t4 == 0) else false) = riF ⟨4, t2, t3, t4, t5, t6, t7, t8⟩ := by
        apply Bool.eq_iff_iff.2
        rw [hri]
        have e4 : byN 4 = 16777216 := rfl
        simp only [RR, e4, if_true]
        split
        · rename_i h
          simp only [Bool.and_eq_true, decide_eq_true_eq, lfB_iff, Bool.not_eq_true', decide_eq_false_iff_not, beq_iff_eq] at h ⊢
          omega
        · rename_i h
          simp only [Bool.and_eq_true, decide_eq_true_eq, lfB_iff, Bool.not_eq_true', decide_eq_false_iff_not] at h
          constructor
          · intro f
            cases f
          · intro g
            exfalso
            omega
      rw [← hB]
      exact rright_4 t2 t3 t4 t5 t6 t7 t8 W _ _ _ _ _ _ hw rfl rfl rfl (fun w => shift_any 4 w) (fun w => rplace_24_32 t2 w hv.1) (fun w => rplace_24_40 t3 w hp) HL
  · have hf : riF t = false := by
      have q : (decide (1 ≤ t.size) && decide (t.size ≤ 4)) = false := by simp; omega
      unfold riF; rw [q]; rfl
    rw [hf]
    have HS := fun w => shift_any t.size w
    rw [show shN t.size = 0 by unfold shN; rw [if_neg (by omega), if_neg (by omega), if_neg (by omega), if_neg (by omega)]] at HS
    exact rright_no t W HS
end Go.Proofs.YtmodcbdgnmjkoabDoor
namespace Go.Proofs.YtmodcbdgnmjkoabDoor
open Go.RowKit
set_option linter.unusedVariables false
set_option linter.unusedSimpArgs false
set_option maxRecDepth 100000 in
theorem rlevel_any (s : Int) (w : World) : Calls Tryd.prog 36 #[.int .i64 s] w fun e w' => e = .returned (.int .i64 (lvF s)) ∧ w = w' := by
  rcases (show s = 1 ∨ s = 2 ∨ s = 3 ∨ s = 4 ∨ (¬ s = 1 ∧ ¬ s = 2 ∧ ¬ s = 3 ∧ ¬ s = 4) by omega) with rfl | rfl | rfl | rfl | ⟨h1, h2, h3, h4⟩
  iterate 4
    · go_enter Tryd.func36, Tryd.ntmps36
      go_wp2
      go_ret
      exact ⟨rfl, rfl⟩
  · have z1 : (s == 1) = false := by simp [h1]
    have z2 : (s == 2) = false := by simp [h2]
    have z3 : (s == 3) = false := by simp [h3]
    have z4 : (s == 4) = false := by simp [h4]
    go_enter Tryd.func36, Tryd.ntmps36
    go_wp2
    go_ret
    exact ⟨by simp [lvF, h1, h2, h3, h4], rfl⟩
/-- Besides, the box of the fault that is made. -/
structure FK (w wr : World) (t : Tra) (c : Ctx) (b : Nat) : Prop extends CK w wr t c where
  F : Bl wr b 32 [.int .i64 0, .int .i64 (lvF t.size), .int .i64 t.dom]
  ne : w.heap.size + 1 + 1 < b
theorem FK.new {w wr : World} {t : Tra} {c : Ctx} (h : CK w wr t c) : FK w (wr.alloc (.cells #[.int .i64 0, .int .i64 (lvF t.size), .int .i64 t.dom] 32)) t c wr.heap.size := ⟨h.step (below_new _ _), Bl.new _ _ _, h.R.lt⟩
theorem FK.step {w wr wn : World} {t : Tra} {c : Ctx} {b : Nat} (h : FK w wr t c b) (hb : Below wr.heap.size wr wn) : FK w wn t c b := ⟨h.toCK.step hb, h.F.below hb, h.ne⟩
theorem FK.drew {w wr : World} {t : Tra} {c : Ctx} {b : Nat} (h : FK w wr t c b) : FK w wr.drew t c b := ⟨h.toCK.drew, h.F.drew, h.ne⟩
theorem pow4 (a : Int) (n : Nat) : a / 2 ^ (2 * n) / 4 = a / 2 ^ (2 * (n + 1)) := by
  rw [Int.ediv_ediv_of_nonneg (Int.le_of_lt (pow_pos _)), show 2 * (n + 1) = 2 * n + 2 by omega, Int.pow_add]
  rfl
set_option maxRecDepth 100000 in
set_option maxHeartbeats 8000000 in
theorem rcheck_core (t : Tra) (on tre afe : Bool) (cn : Int) (pd0 pd1 : Bool) (q0 q1 dacr prrr nmrr asid : Int) (priv : Bool) (k : Int) (ri X : Bool) (ba : Int) (w : World) (ha : 0 ≤ dacr ∧ dacr < 4294967296)
    (hX : alF t.ap t.xn afe priv k = X) (hba : baF t afe dacr priv k = ba) (hri : ri = true → (0 ≤ t.dom ∧ t.dom ≤ 15) ∧ (0 ≤ t.ap ∧ t.ap ≤ 7))
    (HR : ∀ w, Calls Tryd.prog 35 #[.agg #[.int .i64 t.size, .int .u32 t.va, .int .u64 t.pa, .int .i64 t.dom, .int .i64 t.ap, .int .u32 t.bits, .bool t.ng, .bool t.xn]] w fun e w' => e = .returned (.bool ri) ∧ Below w.heap.size w w') :
    Calls Tryd.prog 17 #[.agg #[.int .i64 t.size, .int .u32 t.va, .int .u64 t.pa, .int .i64 t.dom, .int .i64 t.ap, .int .u32 t.bits, .bool t.ng, .bool t.xn], .agg #[.bool on, .bool tre, .bool afe, .int .i64 cn, .bool pd0, .bool pd1, .int .u64 q0, .int .u64 q1, .int .u32 dacr, .int .u32 prrr, .int .u32 nmrr, .int .i64 asid], .bool priv, .int .i64 k] w fun e w' => e = .returned (if on && ri then (if ba = 0 then .agg #[.int .i64 0, .int .i64 0, .int .i64 0] else .agg #[.int .i64 ba, .int .i64 (lvF t.size), .int .i64 t.dom]) else .agg #[.int .i64 0, .int .i64 0, .int .i64 0]) ∧ Below w.heap.size w w' := by
  have HL : Hid (∀ s w, Calls Tryd.prog 36 #[.int .i64 s] w fun e w' => e = .returned (.int .i64 (lvF s)) ∧ w = w') := rlevel_any
  have HA : Hid (∀ w, Calls Tryd.prog 37 #[.agg #[.int .i64 t.ap, .int .u32 t.bits, .bool t.ng, .bool t.xn], .bool afe, .bool priv, .int .i64 k] w fun e w' => e = .returned (.bool X) ∧ Below w.heap.size w w') := fun w => by rw [← hX]; exact rallows_any t.ap t.bits t.ng t.xn afe priv k w
  have HX0 := hidZ (CK.new w t ⟨on, tre, afe, cn, pd0, pd1, q0, q1, dacr, prrr, nmrr, asid⟩)
  have HR1 := hidZ HR
  clear HR
  cases on
  · go_enter Tryd.func17, Tryd.ntmps17
    go_wp2
    refine bodyPost_ret (v := .agg #[.int .i64 0, .int .i64 0, .int .i64 0]) (by simp [results, Tryd.results17, go_sem]) rfl ⟨by simp, ?_⟩
    exact HX0.out.bel
  cases ri
  · go_enter Tryd.func17, Tryd.ntmps17
    go_wp2_with (fail)
    go_at_call 35
    refine (HR1.out _).mono ?_
    rintro e w1 ⟨rfl, hb⟩
    have HX1 := hidZ (HX0.out.step hb)
    clear hb HX0
    have c0 := HX1.out.R.cell
    have f0 := HX1.out.R.frozen
    have l0 := HX1.out.R.lt
    go_wp2
    refine bodyPost_ret (v := .agg #[.int .i64 0, .int .i64 0, .int .i64 0]) (by simp [results, Tryd.results17, go_sem, c0, f0, l0]) rfl ⟨by simp, HX1.out.end3 _ _ _⟩
  obtain ⟨hd, hp⟩ := hri rfl
  have Hba := hidZ hba
  have Hd := hidZ hd
  have Ha := hidZ ha
  have Hp := hidZ hp
  have HX' := hidZ hX
  clear hba hd ha hp hri hX
  go_enter Tryd.func17, Tryd.ntmps17
  go_wp2_with (fail)
  go_at_call 35
  refine (HR1.out _).mono ?_
  rintro e w1 ⟨rfl, hb⟩
  have HS2 := hidZ (HX0.out.step hb)
  have HS := hidZ (HS2.out.drew)
  have K0 : Hid (w1.drew.cell? ⟨w.heap.size, 0, none⟩ = some (.int .i64 t.size) ∧ w1.drew.cell? ⟨w.heap.size, 3, none⟩ = some (.int .i64 t.dom)) := ⟨HS.out.T.cell 0, HS.out.T.cell 3⟩
  have KA : Hid (∀ o, (w1.alloc o).drew.cell? ⟨w.heap.size, 0, none⟩ = some (.int .i64 t.size) ∧ (w1.alloc o).drew.cell? ⟨w.heap.size, 3, none⟩ = some (.int .i64 t.dom)) := fun o => ⟨(HS2.out.step (below_new _ o)).drew.T.cell 0, (HS2.out.step (below_new _ o)).drew.T.cell 3⟩
  have HF0 := hidZ (FK.new HS2.out).drew
  clear hb HX0
  go_wp2
  refine wp_region_held_drew (S := fun w' => w'.cell? ⟨w.heap.size, 0, none⟩ = some (.int .i64 t.size) ∧ w'.cell? ⟨w.heap.size, 3, none⟩ = some (.int .i64 t.dom)) (by kernel_rfl) (by (try dsimp only); exact K0.out) (fun hHeld => ?_)
  refine wpAnyH_take (i := 0) (oi := { dst := some 21, op := Op.fieldAddr 49 (Operand.tmp 4) 0, type := 0, pos := _, after := #[], guard := none }) (v := ?_) rfl (by kernel_rfl) (by kernel_rfl) (by kernel_rfl) (fun _ _ _ h => h) (Or.inl ⟨by rfl, ?_⟩) (by assumption) ?_
  rotate_left
  · (intro w hSw; (try dsimp only at hSw); go_simp; try with_reducible rfl)
  simp only [Act.put, List.setIfInBounds_toArray, List.set_cons_zero, List.set_cons_succ]
  refine wpAnyH_take (i := 1) (oi := { dst := some 22, op := Op.load 3 (Operand.tmp 21), type := 3, pos := _, after := #[{ on := 0, ground := Ground.data }], guard := none }) (v := ?_) rfl (by kernel_rfl) (by kernel_rfl) (by kernel_rfl) (fun _ _ _ h => h) (Or.inl ⟨by rfl, ?_⟩) (by assumption) ?_
  rotate_left
  · (intro w hSw; (try dsimp only at hSw); go_simp; try with_reducible rfl)
  simp only [Act.put, List.setIfInBounds_toArray, List.set_cons_zero, List.set_cons_succ]
  refine wpAnyH_take (i := 3) (oi := { dst := some 24, op := Op.fieldAddr 49 (Operand.tmp 4) 3, type := 0, pos := _, after := #[], guard := none }) (v := ?_) rfl (by kernel_rfl) (by kernel_rfl) (by kernel_rfl) (fun _ _ _ h => h) (Or.inl ⟨by rfl, ?_⟩) (by assumption) ?_
  rotate_left
  · (intro w hSw; (try dsimp only at hSw); go_simp; try with_reducible rfl)
  simp only [Act.put, List.setIfInBounds_toArray, List.set_cons_zero, List.set_cons_succ]
  refine wpAnyH_take (i := 4) (oi := { dst := some 25, op := Op.load 3 (Operand.tmp 24), type := 3, pos := _, after := #[{ on := 3, ground := Ground.data }], guard := none }) (v := ?_) rfl (by kernel_rfl) (by kernel_rfl) (by kernel_rfl) (fun _ _ _ h => h) (Or.inl ⟨by rfl, ?_⟩) (by assumption) ?_
  rotate_left
  · (intro w hSw; (try dsimp only at hSw); go_simp; try with_reducible rfl)
  simp only [Act.put, List.setIfInBounds_toArray, List.set_cons_zero, List.set_cons_succ]
  refine wpAnyH_ready (rs := [2, 6]) (by kernel_rfl) (by simp) ?_
  refine (AllReadyH.cons (o := { dst := some 23, op := Op.call { callee := Callee.value (Operand.func 36), args := #[Operand.tmp 22], argTypes := #[3] }, type := 3, pos := _, after := #[{ on := 1, ground := Ground.data }], guard := none }) rfl (fun K hK => ?_) (AllReadyH.cons (o := { dst := some 9, op := Op.alloc 32, type := 0, pos := _, after := #[], guard := none }) rfl (fun K hK => ?_) AllReadyH.nil))
  · go_simp
    (go_at_call 36; refine (HL.out _ _).mono ?_; rintro e w3 ⟨rfl, rfl⟩)
    refine hK.out _ _ ?_ (fun hHeld => ?_)
    · ((try dsimp only); first | with_reducible exact K0.out | with_reducible exact KA.out _)
    clear hK K
    try simp only [Act.put, List.setIfInBounds_toArray, List.set_cons_zero, List.set_cons_succ]
    refine wpAnyH_take (i := 5) (oi := { dst := some 26, op := Op.build 32 #[(1, Operand.tmp 23), (2, Operand.tmp 25)], type := 32, pos := _, after := #[{ on := 2, ground := Ground.data }, { on := 4, ground := Ground.data }], guard := none }) (v := ?_) rfl (by kernel_rfl) (by kernel_rfl) (by kernel_rfl) (fun _ _ _ h => h) (Or.inl ⟨by rfl, ?_⟩) (by assumption) ?_
    rotate_left
    · (intro w hSw; (try dsimp only at hSw); go_simp; try with_reducible rfl)
    simp only [Act.put, List.setIfInBounds_toArray, List.set_cons_zero, List.set_cons_succ]
    refine wpAnyH_ready (rs := [6]) (by kernel_rfl) (by simp) ?_
    refine (AllReadyH.cons (o := { dst := some 9, op := Op.alloc 32, type := 0, pos := _, after := #[], guard := none }) rfl (fun K hK => ?_) AllReadyH.nil)
    go_simp
    skip
    refine hK.out _ _ ?_ (fun hHeld => ?_)
    · ((try dsimp only); first | with_reducible exact K0.out | with_reducible exact KA.out _)
    clear hK K
    try simp only [Act.put, List.setIfInBounds_toArray, List.set_cons_zero, List.set_cons_succ]
    refine wpAnyH_ready (rs := [7]) (by kernel_rfl) (by simp) ?_
    refine (AllReadyH.cons (o := { dst := none, op := Op.store 32 (Operand.tmp 9) (Operand.tmp 26), type := 0, pos := _, after := #[{ on := 6, ground := Ground.data }, { on := 5, ground := Ground.data }, { on := 2, ground := Ground.chain }, { on := 0, ground := Ground.phase }, { on := 1, ground := Ground.phase }, { on := 2, ground := Ground.phase }, { on := 3, ground := Ground.phase }, { on := 4, ground := Ground.phase }, { on := 5, ground := Ground.phase }, { on := 6, ground := Ground.phase }], guard := none }) rfl (fun K hK => ?_) AllReadyH.nil)
    go_simp
    skip
    refine hK.out _ _ ?_ (fun hHeld => ?_)
    · ((try dsimp only); first | with_reducible exact K0.out | with_reducible exact KA.out _)
    clear hK K
    try simp only [Act.put, List.setIfInBounds_toArray, List.set_cons_zero, List.set_cons_succ]
    refine wpAnyH_done (by kernel_rfl) ?_ _
    have cc := HS2.out.C.cell
    simp only at cc
    have lc : w.heap.size + 1 < w1.heap.size := HS2.out.C.lt
    have nc : ¬ (w.heap.size + 1 = w1.heap.size) := by omega
    clear hHeld K0 KA HS HS2 HR1 HL
    go_wp2
    generalize w1.heap.size = b at *
    clear cc lc nc
    go_loopw [10, 11] (fun v i wr => ∃ n : Nat, (n : Int) ≤ t.dom ∧ v = .int .u32 (dacr / 2 ^ (2 * n)) ∧ i = .int .i64 n ∧ FK w wr t ⟨true, tre, afe, cn, pd0, pd1, q0, q1, dacr, prrr, nmrr, asid⟩ b) (fun _ i _ => (t.dom - intOf i).toNat)
    case atStart => exact ⟨0, Hd.out.1, by simp, rfl, HF0.out⟩
    case round =>
      obtain ⟨n, hn, rfl, rfl, hF⟩ := hrel
      have HF1 := hidZ hF
      have c0 := hF.T.cell
      have c1 := hF.C.cell
      simp only at c1
      clear hF HF0
      have hv0 : 0 ≤ dacr / 2 ^ (2 * n) := (shr_range dacr (2 * n) Ha.out).1
      by_cases h : (n : Int) < t.dom
      · have hw : IntKind.i64.wrap ((n : Int) + 1) = ((n + 1 : Nat) : Int) := by have := Hd.out; rw [IntKind.wrap_i64]; omega
        have hq : (dacr / 2 ^ (2 * n)).tdiv 4 = dacr / 2 ^ (2 * (n + 1)) := by rw [Int.tdiv_eq_ediv_of_nonneg hv0, pow4]
        clear hn
        go_wp2
        go_roundw
        case rel => exact ⟨n + 1, by omega, by rw [Int.emod_eq_of_lt (shr_range dacr (2 * (n + 1)) Ha.out).1 (shr_range dacr (2 * (n + 1)) Ha.out).2], rfl, HF1.out⟩
        case measure => simp [intOf]; omega
      · have he : t.dom = n := by omega
        have hfd : fdF dacr t.dom = dacr / 2 ^ (2 * n) % 4 := by
          unfold fdF
          rw [he, show (2 * (n : Int)).toNat = 2 * n by omega]
        have m2 : (dacr / 2 ^ (2 * n)).tmod 2 = dacr / 2 ^ (2 * n) % 2 := Int.tmod_eq_emod_of_nonneg hv0
        have m4 : (dacr / 2 ^ (2 * n)).tmod 4 = dacr / 2 ^ (2 * n) % 4 := Int.tmod_eq_emod_of_nonneg hv0
        have ma : t.ap.tmod 2 = t.ap % 2 := Int.tmod_eq_emod_of_nonneg Hp.out.1
        have HE := hidZ Hba.out
        unfold baF at HE
        rw [hfd] at HE
        clear he hfd hn Hba
        generalize dacr / 2 ^ (2 * n) = v at *
        have c2 := HF1.out.R.cell
        have f2 := HF1.out.R.frozen
        have l2 := HF1.out.R.lt
        have c3 := HF1.out.F.cell
        have f3 := HF1.out.F.frozen
        have l3 := HF1.out.F.lt
        have ne := HF1.out.ne
        have n1 : ¬ (w.heap.size + 1 + 1 = b) := by omega
        have n2 : ¬ (b = w.heap.size + 1 + 1) := by omega
        have n3 : ¬ (w.heap.size = b) := by omega
        have n4 : ¬ (w.heap.size + 1 = b) := by omega
        have HG : Hid (w.heap.size ≤ b) := by have h5 : w.heap.size ≤ b := by omega
                                              exact h5
        by_cases h1 : afe = true ∧ t.ap % 2 = 0
        · rw [if_pos h1] at HE
          obtain ⟨rfl, h1⟩ := h1
          rw [h1] at ma
          obtain rfl : 7 = ba := HE.out
          clear h1
          go_wp2
          refine bodyPost_ret (v := .agg #[.int .i64 7, .int .i64 (lvF t.size), .int .i64 t.dom]) (by simp [results, Tryd.results17, go_sem, c2, f2, l2, n1, n2]) rfl ⟨by simp, (by (repeat (with_reducible refine Below.setCell ?_ (by first | exact HG.out | (simp; omega)) _)); exact HF1.out.bel)⟩
        · rw [if_neg h1] at HE
          have hg : afe = false ∨ (afe = true ∧ (t.ap % 2 == 0) = false) := by
            cases afe
            · exact Or.inl rfl
            · right
              refine ⟨rfl, ?_⟩
              simpa using h1
          clear h1
          by_cases h2 : v % 2 = 0
          · rw [if_neg (by omega), if_neg (by omega)] at HE
            obtain rfl : 8 = ba := HE.out
            rw [h2] at m2
            clear h2
            rcases hg with rfl | ⟨rfl, q1⟩
            all_goals
              go_wp2
              refine bodyPost_ret (v := .agg #[.int .i64 8, .int .i64 (lvF t.size), .int .i64 t.dom]) (by simp [results, Tryd.results17, go_sem, c2, f2, l2, n1, n2]) rfl ⟨by simp, (by (repeat (with_reducible refine Below.setCell ?_ (by first | exact HG.out | (simp; omega)) _)); exact HF1.out.bel)⟩
          · have q2 : v % 2 = 1 := by omega
            rw [q2] at m2
            by_cases h3 : v % 4 = 3
            · rw [if_pos h3] at HE
              obtain rfl : 0 = ba := HE.out
              rw [h3] at m4
              clear h2 q2 h3
              rcases hg with rfl | ⟨rfl, q1⟩
              all_goals
                go_wp2
                refine bodyPost_ret (v := .agg #[.int .i64 0, .int .i64 0, .int .i64 0]) (by simp [results, Tryd.results17, go_sem, c2, f2, l2, n1, n2]) rfl ⟨by simp, HF1.out.end3 _ _ _⟩
            · have q3 : v % 4 = 1 := by omega
              rw [if_neg h3, if_pos q3] at HE
              rw [q3] at m4
              clear h2 q2 h3 q3
              obtain ⟨X, hX⟩ : ∃ X, alF t.ap t.xn afe priv k = X := ⟨_, rfl⟩
              rw [hX] at HE
              rw [hX] at HX'
              obtain rfl : X = _ := HX'.out
              clear hX HX'
              rcases hg with rfl | ⟨rfl, q1⟩
              all_goals
                cases X
                all_goals
                  simp only [if_true, if_false, Bool.false_eq_true] at HE
                  go_wp2_with (fail)
                  go_at_call 37
                  refine (HA.out _).mono ?_
                  rintro e w5 ⟨rfl, hb⟩
                  have HF2 := hidZ (HF1.out.step hb)
                  clear hb HF1 c0 c1 c2 f2 l2 c3 f3 l3
                  have c2 := HF2.out.R.cell
                  have f2 := HF2.out.R.frozen
                  have l2 := HF2.out.R.lt
                  have c3 := HF2.out.F.cell
                  have f3 := HF2.out.F.frozen
                  have l3 := HF2.out.F.lt
                  first
                  | (obtain rfl : 9 = ba := HE.out
                     go_wp2
                     refine bodyPost_ret (v := .agg #[.int .i64 9, .int .i64 (lvF t.size), .int .i64 t.dom]) (by simp [results, Tryd.results17, go_sem, c2, f2, l2, n1, n2]) rfl ⟨by simp, (by (repeat (with_reducible refine Below.setCell ?_ (by first | exact HG.out | (simp; omega)) _)); exact HF2.out.bel)⟩)
                  | (obtain rfl : 0 = ba := HE.out
                     go_wp2
                     refine bodyPost_ret (v := .agg #[.int .i64 0, .int .i64 0, .int .i64 0]) (by simp [results, Tryd.results17, go_sem, c2, f2, l2, n1, n2]) rfl ⟨by simp, HF2.out.end3 _ _ _⟩)
  · go_simp
    skip
    refine hK.out _ _ ?_ (fun hHeld => ?_)
    · ((try dsimp only); first | with_reducible exact K0.out | with_reducible exact KA.out _)
    clear hK K
    try simp only [Act.put, List.setIfInBounds_toArray, List.set_cons_zero, List.set_cons_succ]
    refine wpAnyH_ready (rs := [2]) (by kernel_rfl) (by simp) ?_
    refine (AllReadyH.cons (o := { dst := some 23, op := Op.call { callee := Callee.value (Operand.func 36), args := #[Operand.tmp 22], argTypes := #[3] }, type := 3, pos := _, after := #[{ on := 1, ground := Ground.data }], guard := none }) rfl (fun K hK => ?_) AllReadyH.nil)
    go_simp
    (go_at_call 36; refine (HL.out _ _).mono ?_; rintro e w3 ⟨rfl, rfl⟩)
    refine hK.out _ _ ?_ (fun hHeld => ?_)
    · ((try dsimp only); first | with_reducible exact K0.out | with_reducible exact KA.out _)
    clear hK K
    try simp only [Act.put, List.setIfInBounds_toArray, List.set_cons_zero, List.set_cons_succ]
    refine wpAnyH_take (i := 5) (oi := { dst := some 26, op := Op.build 32 #[(1, Operand.tmp 23), (2, Operand.tmp 25)], type := 32, pos := _, after := #[{ on := 2, ground := Ground.data }, { on := 4, ground := Ground.data }], guard := none }) (v := ?_) rfl (by kernel_rfl) (by kernel_rfl) (by kernel_rfl) (fun _ _ _ h => h) (Or.inl ⟨by rfl, ?_⟩) (by assumption) ?_
    rotate_left
    · (intro w hSw; (try dsimp only at hSw); go_simp; try with_reducible rfl)
    simp only [Act.put, List.setIfInBounds_toArray, List.set_cons_zero, List.set_cons_succ]
    refine wpAnyH_ready (rs := [7]) (by kernel_rfl) (by simp) ?_
    refine (AllReadyH.cons (o := { dst := none, op := Op.store 32 (Operand.tmp 9) (Operand.tmp 26), type := 0, pos := _, after := #[{ on := 6, ground := Ground.data }, { on := 5, ground := Ground.data }, { on := 2, ground := Ground.chain }, { on := 0, ground := Ground.phase }, { on := 1, ground := Ground.phase }, { on := 2, ground := Ground.phase }, { on := 3, ground := Ground.phase }, { on := 4, ground := Ground.phase }, { on := 5, ground := Ground.phase }, { on := 6, ground := Ground.phase }], guard := none }) rfl (fun K hK => ?_) AllReadyH.nil)
    go_simp
    skip
    refine hK.out _ _ ?_ (fun hHeld => ?_)
    · ((try dsimp only); first | with_reducible exact K0.out | with_reducible exact KA.out _)
    clear hK K
    try simp only [Act.put, List.setIfInBounds_toArray, List.set_cons_zero, List.set_cons_succ]
    refine wpAnyH_done (by kernel_rfl) ?_ _
    have cc := HS2.out.C.cell
    simp only at cc
    have lc : w.heap.size + 1 < w1.heap.size := HS2.out.C.lt
    have nc : ¬ (w.heap.size + 1 = w1.heap.size) := by omega
    clear hHeld K0 KA HS HS2 HR1 HL
    go_wp2
    generalize w1.heap.size = b at *
    clear cc lc nc
    go_loopw [10, 11] (fun v i wr => ∃ n : Nat, (n : Int) ≤ t.dom ∧ v = .int .u32 (dacr / 2 ^ (2 * n)) ∧ i = .int .i64 n ∧ FK w wr t ⟨true, tre, afe, cn, pd0, pd1, q0, q1, dacr, prrr, nmrr, asid⟩ b) (fun _ i _ => (t.dom - intOf i).toNat)
    case atStart => exact ⟨0, Hd.out.1, by simp, rfl, HF0.out⟩
    case round =>
      obtain ⟨n, hn, rfl, rfl, hF⟩ := hrel
      have HF1 := hidZ hF
      have c0 := hF.T.cell
      have c1 := hF.C.cell
      simp only at c1
      clear hF HF0
      have hv0 : 0 ≤ dacr / 2 ^ (2 * n) := (shr_range dacr (2 * n) Ha.out).1
      by_cases h : (n : Int) < t.dom
      · have hw : IntKind.i64.wrap ((n : Int) + 1) = ((n + 1 : Nat) : Int) := by have := Hd.out; rw [IntKind.wrap_i64]; omega
        have hq : (dacr / 2 ^ (2 * n)).tdiv 4 = dacr / 2 ^ (2 * (n + 1)) := by rw [Int.tdiv_eq_ediv_of_nonneg hv0, pow4]
        clear hn
        go_wp2
        go_roundw
        case rel => exact ⟨n + 1, by omega, by rw [Int.emod_eq_of_lt (shr_range dacr (2 * (n + 1)) Ha.out).1 (shr_range dacr (2 * (n + 1)) Ha.out).2], rfl, HF1.out⟩
        case measure => simp [intOf]; omega
      · have he : t.dom = n := by omega
        have hfd : fdF dacr t.dom = dacr / 2 ^ (2 * n) % 4 := by
          unfold fdF
          rw [he, show (2 * (n : Int)).toNat = 2 * n by omega]
        have m2 : (dacr / 2 ^ (2 * n)).tmod 2 = dacr / 2 ^ (2 * n) % 2 := Int.tmod_eq_emod_of_nonneg hv0
        have m4 : (dacr / 2 ^ (2 * n)).tmod 4 = dacr / 2 ^ (2 * n) % 4 := Int.tmod_eq_emod_of_nonneg hv0
        have ma : t.ap.tmod 2 = t.ap % 2 := Int.tmod_eq_emod_of_nonneg Hp.out.1
        have HE := hidZ Hba.out
        unfold baF at HE
        rw [hfd] at HE
        clear he hfd hn Hba
        generalize dacr / 2 ^ (2 * n) = v at *
        have c2 := HF1.out.R.cell
        have f2 := HF1.out.R.frozen
        have l2 := HF1.out.R.lt
        have c3 := HF1.out.F.cell
        have f3 := HF1.out.F.frozen
        have l3 := HF1.out.F.lt
        have ne := HF1.out.ne
        have n1 : ¬ (w.heap.size + 1 + 1 = b) := by omega
        have n2 : ¬ (b = w.heap.size + 1 + 1) := by omega
        have n3 : ¬ (w.heap.size = b) := by omega
        have n4 : ¬ (w.heap.size + 1 = b) := by omega
        have HG : Hid (w.heap.size ≤ b) := by have h5 : w.heap.size ≤ b := by omega
                                              exact h5
        by_cases h1 : afe = true ∧ t.ap % 2 = 0
        · rw [if_pos h1] at HE
          obtain ⟨rfl, h1⟩ := h1
          rw [h1] at ma
          obtain rfl : 7 = ba := HE.out
          clear h1
          go_wp2
          refine bodyPost_ret (v := .agg #[.int .i64 7, .int .i64 (lvF t.size), .int .i64 t.dom]) (by simp [results, Tryd.results17, go_sem, c2, f2, l2, n1, n2]) rfl ⟨by simp, (by (repeat (with_reducible refine Below.setCell ?_ (by first | exact HG.out | (simp; omega)) _)); exact HF1.out.bel)⟩
        · rw [if_neg h1] at HE
          have hg : afe = false ∨ (afe = true ∧ (t.ap % 2 == 0) = false) := by
            cases afe
            · exact Or.inl rfl
            · right
              refine ⟨rfl, ?_⟩
              simpa using h1
          clear h1
          by_cases h2 : v % 2 = 0
          · rw [if_neg (by omega), if_neg (by omega)] at HE
            obtain rfl : 8 = ba := HE.out
            rw [h2] at m2
            clear h2
            rcases hg with rfl | ⟨rfl, q1⟩
            all_goals
              go_wp2
              refine bodyPost_ret (v := .agg #[.int .i64 8, .int .i64 (lvF t.size), .int .i64 t.dom]) (by simp [results, Tryd.results17, go_sem, c2, f2, l2, n1, n2]) rfl ⟨by simp, (by (repeat (with_reducible refine Below.setCell ?_ (by first | exact HG.out | (simp; omega)) _)); exact HF1.out.bel)⟩
          · have q2 : v % 2 = 1 := by omega
            rw [q2] at m2
            by_cases h3 : v % 4 = 3
            · rw [if_pos h3] at HE
              obtain rfl : 0 = ba := HE.out
              rw [h3] at m4
              clear h2 q2 h3
              rcases hg with rfl | ⟨rfl, q1⟩
              all_goals
                go_wp2
                refine bodyPost_ret (v := .agg #[.int .i64 0, .int .i64 0, .int .i64 0]) (by simp [results, Tryd.results17, go_sem, c2, f2, l2, n1, n2]) rfl ⟨by simp, HF1.out.end3 _ _ _⟩
            · have q3 : v % 4 = 1 := by omega
              rw [if_neg h3, if_pos q3] at HE
              rw [q3] at m4
              clear h2 q2 h3 q3
              obtain ⟨X, hX⟩ : ∃ X, alF t.ap t.xn afe priv k = X := ⟨_, rfl⟩
              rw [hX] at HE
              rw [hX] at HX'
              obtain rfl : X = _ := HX'.out
              clear hX HX'
              rcases hg with rfl | ⟨rfl, q1⟩
              all_goals
                cases X
                all_goals
                  simp only [if_true, if_false, Bool.false_eq_true] at HE
                  go_wp2_with (fail)
                  go_at_call 37
                  refine (HA.out _).mono ?_
                  rintro e w5 ⟨rfl, hb⟩
                  have HF2 := hidZ (HF1.out.step hb)
                  clear hb HF1 c0 c1 c2 f2 l2 c3 f3 l3
                  have c2 := HF2.out.R.cell
                  have f2 := HF2.out.R.frozen
                  have l2 := HF2.out.R.lt
                  have c3 := HF2.out.F.cell
                  have f3 := HF2.out.F.frozen
                  have l3 := HF2.out.F.lt
                  first
                  | (obtain rfl : 9 = ba := HE.out
                     go_wp2
                     refine bodyPost_ret (v := .agg #[.int .i64 9, .int .i64 (lvF t.size), .int .i64 t.dom]) (by simp [results, Tryd.results17, go_sem, c2, f2, l2, n1, n2]) rfl ⟨by simp, (by (repeat (with_reducible refine Below.setCell ?_ (by first | exact HG.out | (simp; omega)) _)); exact HF2.out.bel)⟩)
                  | (obtain rfl : 0 = ba := HE.out
                     go_wp2
                     refine bodyPost_ret (v := .agg #[.int .i64 0, .int .i64 0, .int .i64 0]) (by simp [results, Tryd.results17, go_sem, c2, f2, l2, n1, n2]) rfl ⟨by simp, HF2.out.end3 _ _ _⟩)
theorem rcheck_any (t : Tra) (c : Ctx) (priv : Bool) (k : Int) (w : World) (hf : Ft t) (ha : 0 ≤ c.dacr ∧ c.dacr < 4294967296) :
    Calls Tryd.prog 17 #[.agg #[.int .i64 t.size, .int .u32 t.va, .int .u64 t.pa, .int .i64 t.dom, .int .i64 t.ap, .int .u32 t.bits, .bool t.ng, .bool t.xn], .agg #[.bool c.on, .bool c.tre, .bool c.afe, .int .i64 c.n, .bool c.pd0, .bool c.pd1, .int .u64 c.b0, .int .u64 c.b1, .int .u32 c.dacr, .int .u32 c.prrr, .int .u32 c.nmrr, .int .i64 c.asid], .bool priv, .int .i64 k] w fun e w' => e = .returned (.agg #[.int .i64 (chF t c priv k).k, .int .i64 (chF t c priv k).l, .int .i64 (chF t c priv k).d]) ∧ Below w.heap.size w w' := by
  have h := rcheck_core t c.on c.tre c.afe c.n c.pd0 c.pd1 c.b0 c.b1 c.dacr c.prrr c.nmrr c.asid priv k (riF t) _ (baF t c.afe c.dacr priv k) w ha rfl rfl (fun hr => ri_range hf hr)
    (fun w => rright_any t w hf.va ⟨hf.pa, hf.bt⟩)
  refine h.mono ?_
  rintro e w' ⟨rfl, hb⟩
  refine ⟨?_, hb⟩
  unfold chF
  cases hq : (c.on && riF t) with
  | false => rfl
  | true =>
    rw [if_pos rfl, if_pos rfl]
    by_cases hz : baF t c.afe c.dacr priv k = 0
    · rw [if_pos hz, if_pos hz]
      rfl
    · rw [if_neg hz, if_neg hz]
end Go.Proofs.YtmodcbdgnmjkoabDoor
