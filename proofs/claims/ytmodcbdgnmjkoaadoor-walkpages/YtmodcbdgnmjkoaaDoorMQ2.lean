import Derived.Test.YtmodcbdgnmjkoaaDoorLa
import Derived.Deep.CutRange
import Derived.Test.YtmodcbdgnmjkoaaDoorEc
import Derived.Laws.BitsAllLaws
import Derived.Test.YtmodcbdgnmjkoaaDoorWi
import Derived.Test.YtmodcbdgnmjkoaaDoorEb
namespace Go.Proofs.YtmodcbdgnmjkoaaDoor
open Go.RowKit
open Mm (Turn gr PM RM valV errV Byts setV)
set_option linter.unusedVariables false
set_option linter.unusedSimpArgs false
set_option maxRecDepth 100000 in
theorem begin_bad (W : World) (f : Int) (s : Value) (h : f < 1 ∨ 65536 < f) :
    Calls Tryd.prog 22 #[.int .i64 f, s] W fun e W' => e = .returned (.tuple #[.pointer none, .bool true]) ∧ W = W' := by
  have HP := hidW (Mm.pnew_bad W f h)
  have HR := hidW (Mm.rnew_bad W f h)
  clear h
  go_enter Tryd.func22, Tryd.ntmps22
  go_wp2_with (first
    | (go_at_call 29; refine HP.out.mono ?_; rintro e w1 ⟨rfl, rfl⟩)
    | (go_at_call 41; refine HR.out.mono ?_; rintro e w1 ⟨rfl, rfl⟩))
  go_ret2
  exact ⟨rfl, rfl⟩
set_option maxRecDepth 100000 in
set_option maxHeartbeats 8000000 in
theorem begin_ok (W : World) (N : Nat) (h1 : 1 ≤ N) (h2 : N ≤ 65536) (a : Option Addr) (cap : Nat) (ps : List Pt) (hp : PutsAt W a ps) (hl : ps.length ≤ 9223372036854775807) :
    Calls Tryd.prog 22 #[.int .i64 N, .slice a ps.length cap] W fun e W' => ∃ B p r, e = .returned (.tuple #[.pointer (some ⟨B, 0, none⟩), .bool true]) ∧ Bl W' B 63 [.pointer (some ⟨p, 0, none⟩), .pointer (some ⟨r, 0, none⟩)] ∧ W.heap.size ≤ B ∧ Two W W' p r N (pm N ps ps.length) := by
  have HS := hidW hp
  clear hp
  generalize hn : ps.length = n at *
  have HN := hidW hn
  clear hn
  go_enter Tryd.func22, Tryd.ntmps22
  go_wp2_with fail
  go_at_call 29
  refine (Mm.pnew_any W N h1 h2).mono ?_
  rintro e w1 ⟨rfl, g1, T1⟩
  go_wp2_with fail
  go_at_call 41
  refine (Mm.rnew_any w1 N h1 h2).mono ?_
  rintro e w2 ⟨rfl, g2, T2⟩
  have HT := hidW (Two.new g1 T1 g2 T2)
  clear g1 T1 g2 T2
  generalize W.heap.size + 1 = p at *
  generalize w1.heap.size = r at *
  go_wp2
  go_loopw [10] (fun i wr => ∃ k : Nat, k ≤ n ∧ i = .int .i64 k ∧ Hid (Two W wr p r N (pm N ps k))) (fun i _ => n - (intOf i).toNat)
  case atStart => exact ⟨0, Nat.zero_le _, rfl, HT.out⟩
  case round =>
    obtain ⟨k, hk, rfl, HK⟩ := hrel
    clear HT
    by_cases hlt : k < n
    · obtain ⟨q, hq⟩ : ∃ q, ps[k]? = some q := ⟨_, List.getElem?_eq_getElem (by rw [HN.out]; omega)⟩
      obtain ⟨b, off, rfl, hb, e0, e1⟩ := HS.out.lies k q hq
      have hok := HS.out.oks q (List.mem_of_getElem? hq)
      have hstep := hidW (pm_step (N := N) hq)
      have hkz : (k : Int) < (n : Int) := by omega
      have hpa : ((q.pa.toNat : Nat) : Int) = q.pa := Int.toNat_of_nonneg hok.1.1
      have HD := hidW (HK.out.below (below_drew (Below.refl _ wr)))
      have HC := hidW (HD.out.put q.pa.toNat q.w (by omega) hok.2.1 hok.2.2)
      rw [hpa] at HC
      have d0 : wr.cell? ⟨b, off + k * 2, none⟩ = some (.int .u64 q.pa) := (HK.out.bel.cell hb).trans e0
      have d1 : wr.cell? ⟨b, off + k * 2 + 1, none⟩ = some (.int .u32 q.w) := (HK.out.bel.cell hb).trans e1
      have HE := hidW (And.intro e0 e1)
      have HB1 := hidW HD.out.bel
      clear hq e0 e1 HK
      go_wp2
      go_region_held3 (fun w' => w'.cell? ⟨b, off + k * 2, none⟩ = some (.int .u64 q.pa) ∧ w'.cell? ⟨b, off + k * 2 + 1, none⟩ = some (.int .u32 q.w)) (exact ⟨(HB1.out.cell hb).trans HE.out.1, (HB1.out.cell hb).trans HE.out.2⟩) (first
        | (go_at_call 13; refine HC.out.mono ?_; rintro e wa ⟨rfl, hb1, hc1⟩; have HB1 := hidW hb1; have HC1 := hidW hc1; clear hb1 hc1)
        | (go_at_call 42; refine HC1.out.mono ?_; rintro e wb ⟨rfl, ht2⟩; have HB1 := hidW ht2.bel; have HT2 := hidW ht2; clear ht2))
      have HT3 : Hid (Two W wb p r N (pm N ps (k + 1))) := by rw [hstep.out]; exact HT2.out
      clear HT2 HC1 HC HD hstep
      go_wp2
      go_roundw
      case rel => exact ⟨k + 1, by omega, by go_num, HT3.out⟩
      case measure => simp [intOf]; omega
    · obtain rfl : k = n := by omega
      have HE := hidW (And.intro (Bl.new wr 63 [.pointer (some ⟨p, 0, none⟩), .pointer (some ⟨r, 0, none⟩)]) (And.intro HK.out.bel.size (HK.out.below (below_new wr (.cells #[.pointer (some ⟨p, 0, none⟩), .pointer (some ⟨r, 0, none⟩)] 63)))))
      clear HK
      go_wp2
      go_ret2
      exact ⟨_, p, r, rfl, HE.out.1, HE.out.2.1, HE.out.2.2⟩
end Go.Proofs.YtmodcbdgnmjkoaaDoor
namespace Go.Proofs.YtmodcbdgnmjkoaaDoor
open Go.RowKit
open Mm (Turn gr PM RM valV errV Byts setV)
set_option linter.unusedVariables false
set_option linter.unusedSimpArgs false
abbrev zT : List Value := [.int .i64 0, .int .u32 0, .int .u64 0, .int .i64 0, .int .i64 0, .int .u32 0, .bool false, .bool false]
abbrev zF : List Value := [.int .i64 0, .int .i64 0, .int .i64 0]
set_option maxRecDepth 100000 in
theorem eqF (a b : Fa) (w : World) : (Op.equalIn 10000 37 (.agg #[.int .i64 a.k, .int .i64 a.l, .int .i64 a.d]) (.agg #[.int .i64 b.k, .int .i64 b.l, .int .i64 b.d])).run Tryd.prog w = .ok (a.same b) w := by
  obtain ⟨a1, a2, a3⟩ := a
  obtain ⟨b1, b2, b3⟩ := b
  go_simp
  simp only [Fa.same]
  repeat' split
  all_goals simp_all
/-- What stands in the laws' loops: the context's box, both memories. -/
structure KL (W wr : World) (c : Ctx) (x B p r N : Nat) (m : Nat → Int) : Prop where
  bel : Below W.heap.size W wr
  C : Bl wr x 26 [.bool c.on, .bool c.tre, .bool c.afe, .int .i64 c.n, .bool c.pd0, .bool c.pd1, .int .u64 c.b0, .int .u64 c.b1, .int .u32 c.dacr, .int .u32 c.prrr, .int .u32 c.nmrr, .int .i64 c.asid]
  B : Bl wr B 63 [.pointer (some ⟨p, 0, none⟩), .pointer (some ⟨r, 0, none⟩)]
  mem : ∃ S1 S2, PM wr S1 p N m ∧ RM wr S2 r N m
  tab : TW wr
theorem KL.below {W wr wn : World} {c : Ctx} {x B p r N : Nat} {m : Nat → Int} (h : KL W wr c x B p r N m) (hb : Below wr.heap.size wr wn) : KL W wn c x B p r N m := by
  obtain ⟨S1, S2, h1, h2⟩ := h.mem
  exact ⟨Below.step h.bel hb, h.C.below hb, h.B.below hb, ⟨S1, S2, h1.keep (S' := fun _ => False) (Turn.below hb) (fun _ _ h => h), h2.keep (S' := fun _ => False) (Turn.below hb) (fun _ _ h => h)⟩, h.tab.below hb⟩
theorem KL.walk {W wr : World} {c : Ctx} {x B p r N : Nat} {m : Nat → Int} (h : KL W wr c x B p r N m) (hc : c.Ok) (va : Int) (hv : 0 ≤ va ∧ va < 4294967296) :
    Calls Tryd.prog 11 #[.iface 30 (.pointer (some ⟨p, 0, none⟩)), .agg #[.bool c.on, .bool c.tre, .bool c.afe, .int .i64 c.n, .bool c.pd0, .bool c.pd1, .int .u64 c.b0, .int .u64 c.b1, .int .u32 c.dacr, .int .u32 c.prrr, .int .u32 c.nmrr, .int .i64 c.asid], .int .u32 va] wr fun e w' => e = .returned (.tuple #[.agg #[.int .i64 ((wk (ramMo N m) c va).1).size, .int .u32 ((wk (ramMo N m) c va).1).va, .int .u64 ((wk (ramMo N m) c va).1).pa, .int .i64 ((wk (ramMo N m) c va).1).dom, .int .i64 ((wk (ramMo N m) c va).1).ap, .int .u32 ((wk (ramMo N m) c va).1).bits, .bool ((wk (ramMo N m) c va).1).ng, .bool ((wk (ramMo N m) c va).1).xn], .agg #[.int .i64 ((wk (ramMo N m) c va).2).k, .int .i64 ((wk (ramMo N m) c va).2).l, .int .i64 ((wk (ramMo N m) c va).2).d]]) ∧ Below wr.heap.size wr w' := by
  obtain ⟨S1, S2, h1, h2⟩ := h.mem
  exact walk_pure c va wr (.inl ⟨p, N, m, rfl, rfl, h1⟩) h.tab hc hv
theorem KL.vwalk {W wr : World} {c : Ctx} {x B p r N : Nat} {m : Nat → Int} (h : KL W wr c x B p r N m) (hc : c.Ok) (va : Int) (hv : 0 ≤ va ∧ va < 4294967296) :
    Calls Tryd.prog 23 #[.pointer (some ⟨r, 0, none⟩), .agg #[.bool c.on, .bool c.tre, .bool c.afe, .int .i64 c.n, .bool c.pd0, .bool c.pd1, .int .u64 c.b0, .int .u64 c.b1, .int .u32 c.dacr, .int .u32 c.prrr, .int .u32 c.nmrr, .int .i64 c.asid], .int .u32 va] wr fun e w' => e = .returned (.tuple #[.agg #[.int .i64 ((wk (ramMo N m) c va).1).size, .int .u32 ((wk (ramMo N m) c va).1).va, .int .u64 ((wk (ramMo N m) c va).1).pa, .int .i64 ((wk (ramMo N m) c va).1).dom, .int .i64 ((wk (ramMo N m) c va).1).ap, .int .u32 ((wk (ramMo N m) c va).1).bits, .bool ((wk (ramMo N m) c va).1).ng, .bool ((wk (ramMo N m) c va).1).xn], .agg #[.int .i64 ((wk (ramMo N m) c va).2).k, .int .i64 ((wk (ramMo N m) c va).2).l, .int .i64 ((wk (ramMo N m) c va).2).d]]) ∧ Below wr.heap.size wr w' := by
  obtain ⟨S1, S2, h1, h2⟩ := h.mem
  exact vwalk_any c va wr (.inl ⟨r, N, m, rfl, rfl, h2⟩) h.tab hc hv
theorem KL.new {W w1 : World} {c : Ctx} {B p r N : Nat} {m : Nat → Int} (hb : Bl w1 B 63 [.pointer (some ⟨p, 0, none⟩), .pointer (some ⟨r, 0, none⟩)]) (h : Two (W.alloc (.cells #[.bool c.on, .bool c.tre, .bool c.afe, .int .i64 c.n, .bool c.pd0, .bool c.pd1, .int .u64 c.b0, .int .u64 c.b1, .int .u32 c.dacr, .int .u32 c.prrr, .int .u32 c.nmrr, .int .i64 c.asid] 26)) w1 p r N m) (ht : TW W) : KL W w1 c W.heap.size B p r N m := by
  obtain ⟨⟨S1, S2, h1, h2, _⟩, h6⟩ := h
  exact ⟨Below.step (below_new _ _) h6, (Bl.new W 26 [.bool c.on, .bool c.tre, .bool c.afe, .int .i64 c.n, .bool c.pd0, .bool c.pd1, .int .u64 c.b0, .int .u64 c.b1, .int .u32 c.dacr, .int .u32 c.prrr, .int .u32 c.nmrr, .int .i64 c.asid]).below h6, hb, ⟨S1, S2, h1, h2⟩, (ht.below (below_new _ _)).below h6⟩
/-- A translation and a fault have been told, and lie in boxes of their own. -/
structure Got (wr wx : World) (s t : Nat) (u : Tra) (f : Fa) : Prop where
  bel : Below wr.heap.size wr wx
  T : Bl wx s 35 [.int .i64 u.size, .int .u32 u.va, .int .u64 u.pa, .int .i64 u.dom, .int .i64 u.ap, .int .u32 u.bits, .bool u.ng, .bool u.xn]
  F : Bl wx t 37 [.int .i64 f.k, .int .i64 f.l, .int .i64 f.d]
  hs : wr.heap.size ≤ s
  ht : wr.heap.size ≤ t
theorem Bl.new1 (w : World) (o : Obj) (t : TypeId) (l : List Value) : Bl ((w.alloc o).alloc (.cells l.toArray t)) (w.heap.size + 1) t l := by
  have h := Bl.new (w.alloc o) t l
  rw [show (w.alloc o).heap.size = w.heap.size + 1 by simp] at h
  exact h
theorem got1 {wr w1 : World} (h : Below wr.heap.size wr w1) (u : Tra) (f : Fa) : Got wr ((w1.alloc (.cells #[.int .i64 u.size, .int .u32 u.va, .int .u64 u.pa, .int .i64 u.dom, .int .i64 u.ap, .int .u32 u.bits, .bool u.ng, .bool u.xn] 35)).alloc (.cells #[.int .i64 f.k, .int .i64 f.l, .int .i64 f.d] 37)) w1.heap.size (w1.heap.size + 1) u f :=
  ⟨(h.alloc h.size _).alloc (by simp; have := h.size; omega) _, (Bl.new w1 _ [.int .i64 u.size, .int .u32 u.va, .int .u64 u.pa, .int .i64 u.dom, .int .i64 u.ap, .int .u32 u.bits, .bool u.ng, .bool u.xn]).below (below_new _ _), Bl.new1 _ _ _ [.int .i64 f.k, .int .i64 f.l, .int .i64 f.d], h.size, by have := h.size; omega⟩
theorem got2 {wr w1 : World} (h : Below wr.heap.size wr w1) (u : Tra) (f : Fa) : Got wr ((w1.alloc (.cells #[.int .i64 f.k, .int .i64 f.l, .int .i64 f.d] 37)).alloc (.cells #[.int .i64 u.size, .int .u32 u.va, .int .u64 u.pa, .int .i64 u.dom, .int .i64 u.ap, .int .u32 u.bits, .bool u.ng, .bool u.xn] 35)) (w1.heap.size + 1) w1.heap.size u f :=
  ⟨(h.alloc h.size _).alloc (by simp; have := h.size; omega) _, Bl.new1 _ _ _ [.int .i64 u.size, .int .u32 u.va, .int .u64 u.pa, .int .i64 u.dom, .int .i64 u.ap, .int .u32 u.bits, .bool u.ng, .bool u.xn], (Bl.new w1 _ [.int .i64 f.k, .int .i64 f.l, .int .i64 f.d]).below (below_new _ _), by have := h.size; omega, h.size⟩
theorem got3 {wr w1 : World} (h : Below wr.heap.size wr w1) (u : Tra) (f : Fa) (b : Nat) (hb : wr.heap.size ≤ b) (hT : Bl w1 b 35 zT) : Got wr ((((((((((w1.setCell ⟨b, 0, none⟩ (.int .i64 u.size)).setCell ⟨b, 1, none⟩ (.int .u32 u.va)).setCell ⟨b, 2, none⟩ (.int .u64 u.pa)).setCell ⟨b, 3, none⟩ (.int .i64 u.dom)).setCell ⟨b, 4, none⟩ (.int .i64 u.ap)).setCell ⟨b, 5, none⟩ (.int .u32 u.bits)).setCell ⟨b, 6, none⟩ (.bool u.ng)).setCell ⟨b, 7, none⟩ (.bool u.xn))).alloc (.cells #[.int .i64 f.k, .int .i64 f.l, .int .i64 f.d] 37)) b w1.heap.size u f := by
  have hN := Bl.new (((((((((w1.setCell ⟨b, 0, none⟩ (.int .i64 u.size)).setCell ⟨b, 1, none⟩ (.int .u32 u.va)).setCell ⟨b, 2, none⟩ (.int .u64 u.pa)).setCell ⟨b, 3, none⟩ (.int .i64 u.dom)).setCell ⟨b, 4, none⟩ (.int .i64 u.ap)).setCell ⟨b, 5, none⟩ (.int .u32 u.bits)).setCell ⟨b, 6, none⟩ (.bool u.ng)).setCell ⟨b, 7, none⟩ (.bool u.xn))) 37 [.int .i64 f.k, .int .i64 f.l, .int .i64 f.d]
  rw [heap8] at hN
  exact ⟨Below.alloc (Below.setCell (Below.setCell (Below.setCell (Below.setCell (Below.setCell (Below.setCell (Below.setCell (Below.setCell h hb _) hb _) hb _) hb _) hb _) hb _) hb _) hb _) (by rw [heap8]; exact h.size) _, (hT.set8 _ _ _ _ _ _ _ _).below (below_new _ _), hN, hb, h.size⟩
theorem got4 {wr w1 : World} (h : Below wr.heap.size wr w1) (u : Tra) (f : Fa) (b : Nat) (hb : wr.heap.size ≤ b) (hF : Bl w1 b 37 zF) : Got wr (((((w1.setCell ⟨b, 0, none⟩ (.int .i64 f.k)).setCell ⟨b, 1, none⟩ (.int .i64 f.l)).setCell ⟨b, 2, none⟩ (.int .i64 f.d))).alloc (.cells #[.int .i64 u.size, .int .u32 u.va, .int .u64 u.pa, .int .i64 u.dom, .int .i64 u.ap, .int .u32 u.bits, .bool u.ng, .bool u.xn] 35)) w1.heap.size b u f := by
  have hN := Bl.new ((((w1.setCell ⟨b, 0, none⟩ (.int .i64 f.k)).setCell ⟨b, 1, none⟩ (.int .i64 f.l)).setCell ⟨b, 2, none⟩ (.int .i64 f.d))) 35 [.int .i64 u.size, .int .u32 u.va, .int .u64 u.pa, .int .i64 u.dom, .int .i64 u.ap, .int .u32 u.bits, .bool u.ng, .bool u.xn]
  rw [heap3] at hN
  exact ⟨Below.alloc (Below.setCell (Below.setCell (Below.setCell h hb _) hb _) hb _) (by rw [heap3]; exact h.size) _, hN, (hF.set3 _ _ _).below (below_new _ _), h.size, hb⟩
theorem got5 {wr w1 : World} (h : Below wr.heap.size wr w1) (u : Tra) (f : Fa) (b d : Nat) (hb : wr.heap.size ≤ b) (hd : wr.heap.size ≤ d) (hn : b ≠ d) (hT : Bl w1 b 35 zT) (hF : Bl w1 d 37 zF) : Got wr ((((((((((((w1.setCell ⟨b, 0, none⟩ (.int .i64 u.size)).setCell ⟨b, 1, none⟩ (.int .u32 u.va)).setCell ⟨b, 2, none⟩ (.int .u64 u.pa)).setCell ⟨b, 3, none⟩ (.int .i64 u.dom)).setCell ⟨b, 4, none⟩ (.int .i64 u.ap)).setCell ⟨b, 5, none⟩ (.int .u32 u.bits)).setCell ⟨b, 6, none⟩ (.bool u.ng)).setCell ⟨b, 7, none⟩ (.bool u.xn)).setCell ⟨d, 0, none⟩ (.int .i64 f.k)).setCell ⟨d, 1, none⟩ (.int .i64 f.l)).setCell ⟨d, 2, none⟩ (.int .i64 f.d))) b d u f :=
  ⟨Below.setCell (Below.setCell (Below.setCell (Below.setCell (Below.setCell (Below.setCell (Below.setCell (Below.setCell (Below.setCell (Below.setCell (Below.setCell h hb _) hb _) hb _) hb _) hb _) hb _) hb _) hb _) hd _) hd _) hd _, (hT.set8 _ _ _ _ _ _ _ _).keep3 hn _ _ _, (hF.keep8 (fun e => hn e.symm) _ _ _ _ _ _ _ _).set3 _ _ _, hb, hd⟩
end Go.Proofs.YtmodcbdgnmjkoaaDoor
namespace Go.Proofs.YtmodcbdgnmjkoaaDoor
open Go.RowKit
open Mm (Turn gr PM valV errV Byts)
set_option linter.unusedVariables false
set_option linter.unusedSimpArgs false
/-- What an access answers. -/
def goF (M : Mo) (c : Ctx) (va : Int) (priv : Bool) (k : Int) : Int × Fa :=
  if (wk M c va).2.k = 0 then (if (chF (wk M c va).1 c priv k).k = 0 then ((wk M c va).1.pa + (va - (wk M c va).1.va), fZ) else (0, chF (wk M c va).1 c priv k)) else (0, (wk M c va).2)
theorem below_at {w w1 w2 : World} {x : Nat} (hx : w.heap.size = x) (h : Below x w w1) (h2 : Below w1.heap.size w1 w2) : Below x w w2 := by
  subst hx
  exact Below.step h h2
theorem TC.tw {w : World} (h : TC w) : TW w := ⟨h.r.toTT⟩
set_option maxRecDepth 100000 in
set_option maxHeartbeats 4000000 in
theorem go_bad1 (c : Ctx) (va : Int) (priv : Bool) (k : Int) (w : World) (iv : Value) (U : Tra) (F : Fa) (hk : (F.k == 0) = false) (hv : 0 ≤ va ∧ va < 4294967296) (ht : TC w)
    (HC : Hid (Calls Tryd.prog 11 #[iv, .agg #[.bool c.on, .bool c.tre, .bool c.afe, .int .i64 c.n, .bool c.pd0, .bool c.pd1, .int .u64 c.b0, .int .u64 c.b1, .int .u32 c.dacr, .int .u32 c.prrr, .int .u32 c.nmrr, .int .i64 c.asid], .int .u32 va] ((w.alloc (.cells #[.bool c.on, .bool c.tre, .bool c.afe, .int .i64 c.n, .bool c.pd0, .bool c.pd1, .int .u64 c.b0, .int .u64 c.b1, .int .u32 c.dacr, .int .u32 c.prrr, .int .u32 c.nmrr, .int .i64 c.asid] 26)).alloc (.cells #[.int .i64 0, .int .i64 0, .int .i64 0] 37)) fun e w' => e = .returned (.tuple #[.agg #[.int .i64 U.size, .int .u32 U.va, .int .u64 U.pa, .int .i64 U.dom, .int .i64 U.ap, .int .u32 U.bits, .bool U.ng, .bool U.xn], .agg #[.int .i64 F.k, .int .i64 F.l, .int .i64 F.d]]) ∧ Below ((w.alloc (.cells #[.bool c.on, .bool c.tre, .bool c.afe, .int .i64 c.n, .bool c.pd0, .bool c.pd1, .int .u64 c.b0, .int .u64 c.b1, .int .u32 c.dacr, .int .u32 c.prrr, .int .u32 c.nmrr, .int .i64 c.asid] 26)).alloc (.cells #[.int .i64 0, .int .i64 0, .int .i64 0] 37)).heap.size ((w.alloc (.cells #[.bool c.on, .bool c.tre, .bool c.afe, .int .i64 c.n, .bool c.pd0, .bool c.pd1, .int .u64 c.b0, .int .u64 c.b1, .int .u32 c.dacr, .int .u32 c.prrr, .int .u32 c.nmrr, .int .i64 c.asid] 26)).alloc (.cells #[.int .i64 0, .int .i64 0, .int .i64 0] 37)) w')) :
    Calls Tryd.prog 21 #[iv, .agg #[.bool c.on, .bool c.tre, .bool c.afe, .int .i64 c.n, .bool c.pd0, .bool c.pd1, .int .u64 c.b0, .int .u64 c.b1, .int .u32 c.dacr, .int .u32 c.prrr, .int .u32 c.nmrr, .int .i64 c.asid], .int .u32 va, .bool priv, .int .i64 k] w fun e w' => e = .returned (.tuple #[.int .u64 0, .agg #[.int .i64 F.k, .int .i64 F.l, .int .i64 F.d]]) ∧ Below w.heap.size w w' := by
  have HB := hidW (Below.step (below_new w (.cells #[.bool c.on, .bool c.tre, .bool c.afe, .int .i64 c.n, .bool c.pd0, .bool c.pd1, .int .u64 c.b0, .int .u64 c.b1, .int .u32 c.dacr, .int .u32 c.prrr, .int .u32 c.nmrr, .int .i64 c.asid] 26)) (below_new _ (.cells #[.int .i64 0, .int .i64 0, .int .i64 0] 37)))
  have HT := hidW (ht.below HB.out)
  have HX : Hid (Bl ((w.alloc (.cells #[.bool c.on, .bool c.tre, .bool c.afe, .int .i64 c.n, .bool c.pd0, .bool c.pd1, .int .u64 c.b0, .int .u64 c.b1, .int .u32 c.dacr, .int .u32 c.prrr, .int .u32 c.nmrr, .int .i64 c.asid] 26)).alloc (.cells #[.int .i64 0, .int .i64 0, .int .i64 0] 37)) w.heap.size 26 [.bool c.on, .bool c.tre, .bool c.afe, .int .i64 c.n, .bool c.pd0, .bool c.pd1, .int .u64 c.b0, .int .u64 c.b1, .int .u32 c.dacr, .int .u32 c.prrr, .int .u32 c.nmrr, .int .i64 c.asid]) := (Bl.new _ _ _).below (below_new _ _)
  have HR : Hid (Bl ((w.alloc (.cells #[.bool c.on, .bool c.tre, .bool c.afe, .int .i64 c.n, .bool c.pd0, .bool c.pd1, .int .u64 c.b0, .int .u64 c.b1, .int .u32 c.dacr, .int .u32 c.prrr, .int .u32 c.nmrr, .int .i64 c.asid] 26)).alloc (.cells #[.int .i64 0, .int .i64 0, .int .i64 0] 37)) (w.heap.size + 1) 37 [.int .i64 0, .int .i64 0, .int .i64 0]) := Bl.new1 _ _ _ _
  have hsz : ((w.alloc (.cells #[.bool c.on, .bool c.tre, .bool c.afe, .int .i64 c.n, .bool c.pd0, .bool c.pd1, .int .u64 c.b0, .int .u64 c.b1, .int .u32 c.dacr, .int .u32 c.prrr, .int .u32 c.nmrr, .int .i64 c.asid] 26)).alloc (.cells #[.int .i64 0, .int .i64 0, .int .i64 0] 37)).heap.size = w.heap.size + 1 + 1 := by simp
  have c0 := HX.out.cell
  clear ht
  go_enter Tryd.func21, Tryd.ntmps21
  go_wp2_with fail
  generalize hw0 : ((w.alloc (.cells #[.bool c.on, .bool c.tre, .bool c.afe, .int .i64 c.n, .bool c.pd0, .bool c.pd1, .int .u64 c.b0, .int .u64 c.b1, .int .u32 c.dacr, .int .u32 c.prrr, .int .u32 c.nmrr, .int .i64 c.asid] 26)).alloc (.cells #[.int .i64 0, .int .i64 0, .int .i64 0] 37)) = w0 at *
  clear hw0
  go_at_call 11
  refine HC.out.mono ?_
  rintro e v1 ⟨rfl, hb⟩
  have hb' := Below.step hb (Below.step (below_new v1 (.cells #[.int .i64 U.size, .int .u32 U.va, .int .u64 U.pa, .int .i64 U.dom, .int .i64 U.ap, .int .u32 U.bits, .bool U.ng, .bool U.xn] 35)) (below_new _ (.cells #[.int .i64 F.k, .int .i64 F.l, .int .i64 F.d] 37)))
  have HT1 := hidW (HT.out.below hb')
  have HX1 := hidW (HX.out.below hb')
  have HR1 := hidW (HR.out.below hb')
  have HB1 := hidW (Below.step HB.out hb')
  have hz := hb.size
  have HU : Hid (Bl ((v1.alloc (.cells #[.int .i64 U.size, .int .u32 U.va, .int .u64 U.pa, .int .i64 U.dom, .int .i64 U.ap, .int .u32 U.bits, .bool U.ng, .bool U.xn] 35)).alloc (.cells #[.int .i64 F.k, .int .i64 F.l, .int .i64 F.d] 37)) v1.heap.size 35 [.int .i64 U.size, .int .u32 U.va, .int .u64 U.pa, .int .i64 U.dom, .int .i64 U.ap, .int .u32 U.bits, .bool U.ng, .bool U.xn]) := (Bl.new _ _ _).below (below_new _ _)
  have HV : Hid (Bl ((v1.alloc (.cells #[.int .i64 U.size, .int .u32 U.va, .int .u64 U.pa, .int .i64 U.dom, .int .i64 U.ap, .int .u32 U.bits, .bool U.ng, .bool U.xn] 35)).alloc (.cells #[.int .i64 F.k, .int .i64 F.l, .int .i64 F.d] 37)) (v1.heap.size + 1) 37 [.int .i64 F.k, .int .i64 F.l, .int .i64 F.d]) := Bl.new1 _ _ _ _
  clear hb hb' HT HX HR HB HC c0
  have cU := HU.out.cell
  have cV := HV.out.cell
  have cX := HX1.out.cell
  have fV := HV.out.frozen
  have lV := HV.out.lt
  go_wp2_with fail
  generalize hx : w.heap.size = x at *
  generalize hww : (v1.alloc (.cells #[.int .i64 U.size, .int .u32 U.va, .int .u64 U.pa, .int .i64 U.dom, .int .i64 U.ap, .int .u32 U.bits, .bool U.ng, .bool U.xn] 35)).alloc (.cells #[.int .i64 F.k, .int .i64 F.l, .int .i64 F.d] 37) = w2 at *
  clear hww
  generalize hr : x + 1 = r at *
  generalize hy : v1.heap.size = y at *
  generalize hq : y + 1 = q at *
  have h1 : ¬ y = r := by omega
  have h2 : ¬ q = r := by omega
  have h3 : ¬ y = q := by omega
  have h4 : x ≤ q := by omega
  have h5 : x ≤ r := by omega
  clear hz hsz
  have HP0 : Hid (w2.drew.cell? ⟨q, 0, none⟩ = some (.int .i64 F.k)) := HV.out.drew.cell 0
  have HS0 : Hid (∀ v0 v1 v2, (((w2.setCell ⟨r, 0, none⟩ v0).setCell ⟨r, 1, none⟩ v1).setCell ⟨r, 2, none⟩ v2).drew.cell? ⟨q, 0, none⟩ = some (.int .i64 F.k)) := fun v0 v1 v2 => (Bl.keep3 HV.out h2 v0 v1 v2).drew.cell 0
  have HP1 : Hid (w2.drew.cell? ⟨q, 1, none⟩ = some (.int .i64 F.l)) := HV.out.drew.cell 1
  have HS1 : Hid (∀ v0 v1 v2, (((w2.setCell ⟨r, 0, none⟩ v0).setCell ⟨r, 1, none⟩ v1).setCell ⟨r, 2, none⟩ v2).drew.cell? ⟨q, 1, none⟩ = some (.int .i64 F.l)) := fun v0 v1 v2 => (Bl.keep3 HV.out h2 v0 v1 v2).drew.cell 1
  have HP2 : Hid (w2.drew.cell? ⟨q, 2, none⟩ = some (.int .i64 F.d)) := HV.out.drew.cell 2
  have HS2 : Hid (∀ v0 v1 v2, (((w2.setCell ⟨r, 0, none⟩ v0).setCell ⟨r, 1, none⟩ v1).setCell ⟨r, 2, none⟩ v2).drew.cell? ⟨q, 2, none⟩ = some (.int .i64 F.d)) := fun v0 v1 v2 => (Bl.keep3 HV.out h2 v0 v1 v2).drew.cell 2
  have cR := HR1.out.cell
  have fR := HR1.out.frozen
  have lR := HR1.out.lt
  go_region_held3 (fun w' => w'.cell? ⟨q, 0, none⟩ = some (.int .i64 F.k) ∧ w'.cell? ⟨q, 1, none⟩ = some (.int .i64 F.l) ∧ w'.cell? ⟨q, 2, none⟩ = some (.int .i64 F.d)) (first | (with_reducible exact ⟨HP0.out, HP1.out, HP2.out⟩) | (with_reducible exact ⟨HS0.out _ _ _, HS1.out _ _ _, HS2.out _ _ _⟩)) (first | fail)
  go_wp2
  refine bodyPost_ret (v := .tuple #[.int .u64 0, .agg #[.int .i64 F.k, .int .i64 F.l, .int .i64 F.d]]) (by simp [results, Tryd.results21, go_sem, cR, fR, lR]) rfl ⟨rfl, ?_⟩
  rw [hx]
  exact below_drew (Below.setCell (Below.setCell (Below.setCell HB1.out h5 _) h5 _) h5 _)
set_option maxRecDepth 100000 in
set_option maxHeartbeats 4000000 in
theorem go_bad2 (c : Ctx) (va : Int) (priv : Bool) (k : Int) (w : World) (iv : Value) (U : Tra) (F G : Fa) (hk : (F.k == 0) = true) (hg : (G.k == 0) = false) (hv : 0 ≤ va ∧ va < 4294967296) (ht : TC w)
    (HC : Hid (Calls Tryd.prog 11 #[iv, .agg #[.bool c.on, .bool c.tre, .bool c.afe, .int .i64 c.n, .bool c.pd0, .bool c.pd1, .int .u64 c.b0, .int .u64 c.b1, .int .u32 c.dacr, .int .u32 c.prrr, .int .u32 c.nmrr, .int .i64 c.asid], .int .u32 va] ((w.alloc (.cells #[.bool c.on, .bool c.tre, .bool c.afe, .int .i64 c.n, .bool c.pd0, .bool c.pd1, .int .u64 c.b0, .int .u64 c.b1, .int .u32 c.dacr, .int .u32 c.prrr, .int .u32 c.nmrr, .int .i64 c.asid] 26)).alloc (.cells #[.int .i64 0, .int .i64 0, .int .i64 0] 37)) fun e w' => e = .returned (.tuple #[.agg #[.int .i64 U.size, .int .u32 U.va, .int .u64 U.pa, .int .i64 U.dom, .int .i64 U.ap, .int .u32 U.bits, .bool U.ng, .bool U.xn], .agg #[.int .i64 F.k, .int .i64 F.l, .int .i64 F.d]]) ∧ Below ((w.alloc (.cells #[.bool c.on, .bool c.tre, .bool c.afe, .int .i64 c.n, .bool c.pd0, .bool c.pd1, .int .u64 c.b0, .int .u64 c.b1, .int .u32 c.dacr, .int .u32 c.prrr, .int .u32 c.nmrr, .int .i64 c.asid] 26)).alloc (.cells #[.int .i64 0, .int .i64 0, .int .i64 0] 37)).heap.size ((w.alloc (.cells #[.bool c.on, .bool c.tre, .bool c.afe, .int .i64 c.n, .bool c.pd0, .bool c.pd1, .int .u64 c.b0, .int .u64 c.b1, .int .u32 c.dacr, .int .u32 c.prrr, .int .u32 c.nmrr, .int .i64 c.asid] 26)).alloc (.cells #[.int .i64 0, .int .i64 0, .int .i64 0] 37)) w'))
    (HK : Hid (∀ w, TC w → Calls Tryd.prog 40 #[.agg #[.int .i64 U.size, .int .u32 U.va, .int .u64 U.pa, .int .i64 U.dom, .int .i64 U.ap, .int .u32 U.bits, .bool U.ng, .bool U.xn], .agg #[.bool c.on, .bool c.tre, .bool c.afe, .int .i64 c.n, .bool c.pd0, .bool c.pd1, .int .u64 c.b0, .int .u64 c.b1, .int .u32 c.dacr, .int .u32 c.prrr, .int .u32 c.nmrr, .int .i64 c.asid], .bool priv, .int .i64 k] w fun e w' => e = .returned (.agg #[.int .i64 G.k, .int .i64 G.l, .int .i64 G.d]) ∧ Below w.heap.size w w')) :
    Calls Tryd.prog 21 #[iv, .agg #[.bool c.on, .bool c.tre, .bool c.afe, .int .i64 c.n, .bool c.pd0, .bool c.pd1, .int .u64 c.b0, .int .u64 c.b1, .int .u32 c.dacr, .int .u32 c.prrr, .int .u32 c.nmrr, .int .i64 c.asid], .int .u32 va, .bool priv, .int .i64 k] w fun e w' => e = .returned (.tuple #[.int .u64 0, .agg #[.int .i64 G.k, .int .i64 G.l, .int .i64 G.d]]) ∧ Below w.heap.size w w' := by
  have HB := hidW (Below.step (below_new w (.cells #[.bool c.on, .bool c.tre, .bool c.afe, .int .i64 c.n, .bool c.pd0, .bool c.pd1, .int .u64 c.b0, .int .u64 c.b1, .int .u32 c.dacr, .int .u32 c.prrr, .int .u32 c.nmrr, .int .i64 c.asid] 26)) (below_new _ (.cells #[.int .i64 0, .int .i64 0, .int .i64 0] 37)))
  have HT := hidW (ht.below HB.out)
  have HX : Hid (Bl ((w.alloc (.cells #[.bool c.on, .bool c.tre, .bool c.afe, .int .i64 c.n, .bool c.pd0, .bool c.pd1, .int .u64 c.b0, .int .u64 c.b1, .int .u32 c.dacr, .int .u32 c.prrr, .int .u32 c.nmrr, .int .i64 c.asid] 26)).alloc (.cells #[.int .i64 0, .int .i64 0, .int .i64 0] 37)) w.heap.size 26 [.bool c.on, .bool c.tre, .bool c.afe, .int .i64 c.n, .bool c.pd0, .bool c.pd1, .int .u64 c.b0, .int .u64 c.b1, .int .u32 c.dacr, .int .u32 c.prrr, .int .u32 c.nmrr, .int .i64 c.asid]) := (Bl.new _ _ _).below (below_new _ _)
  have HR : Hid (Bl ((w.alloc (.cells #[.bool c.on, .bool c.tre, .bool c.afe, .int .i64 c.n, .bool c.pd0, .bool c.pd1, .int .u64 c.b0, .int .u64 c.b1, .int .u32 c.dacr, .int .u32 c.prrr, .int .u32 c.nmrr, .int .i64 c.asid] 26)).alloc (.cells #[.int .i64 0, .int .i64 0, .int .i64 0] 37)) (w.heap.size + 1) 37 [.int .i64 0, .int .i64 0, .int .i64 0]) := Bl.new1 _ _ _ _
  have hsz : ((w.alloc (.cells #[.bool c.on, .bool c.tre, .bool c.afe, .int .i64 c.n, .bool c.pd0, .bool c.pd1, .int .u64 c.b0, .int .u64 c.b1, .int .u32 c.dacr, .int .u32 c.prrr, .int .u32 c.nmrr, .int .i64 c.asid] 26)).alloc (.cells #[.int .i64 0, .int .i64 0, .int .i64 0] 37)).heap.size = w.heap.size + 1 + 1 := by simp
  have c0 := HX.out.cell
  clear ht
  go_enter Tryd.func21, Tryd.ntmps21
  go_wp2_with fail
  generalize hw0 : ((w.alloc (.cells #[.bool c.on, .bool c.tre, .bool c.afe, .int .i64 c.n, .bool c.pd0, .bool c.pd1, .int .u64 c.b0, .int .u64 c.b1, .int .u32 c.dacr, .int .u32 c.prrr, .int .u32 c.nmrr, .int .i64 c.asid] 26)).alloc (.cells #[.int .i64 0, .int .i64 0, .int .i64 0] 37)) = w0 at *
  clear hw0
  go_at_call 11
  refine HC.out.mono ?_
  rintro e v1 ⟨rfl, hb⟩
  have hb' := Below.step hb (Below.step (below_new v1 (.cells #[.int .i64 U.size, .int .u32 U.va, .int .u64 U.pa, .int .i64 U.dom, .int .i64 U.ap, .int .u32 U.bits, .bool U.ng, .bool U.xn] 35)) (below_new _ (.cells #[.int .i64 F.k, .int .i64 F.l, .int .i64 F.d] 37)))
  have HT1 := hidW (HT.out.below hb')
  have HX1 := hidW (HX.out.below hb')
  have HR1 := hidW (HR.out.below hb')
  have HB1 := hidW (Below.step HB.out hb')
  have hz := hb.size
  have HU : Hid (Bl ((v1.alloc (.cells #[.int .i64 U.size, .int .u32 U.va, .int .u64 U.pa, .int .i64 U.dom, .int .i64 U.ap, .int .u32 U.bits, .bool U.ng, .bool U.xn] 35)).alloc (.cells #[.int .i64 F.k, .int .i64 F.l, .int .i64 F.d] 37)) v1.heap.size 35 [.int .i64 U.size, .int .u32 U.va, .int .u64 U.pa, .int .i64 U.dom, .int .i64 U.ap, .int .u32 U.bits, .bool U.ng, .bool U.xn]) := (Bl.new _ _ _).below (below_new _ _)
  have HV : Hid (Bl ((v1.alloc (.cells #[.int .i64 U.size, .int .u32 U.va, .int .u64 U.pa, .int .i64 U.dom, .int .i64 U.ap, .int .u32 U.bits, .bool U.ng, .bool U.xn] 35)).alloc (.cells #[.int .i64 F.k, .int .i64 F.l, .int .i64 F.d] 37)) (v1.heap.size + 1) 37 [.int .i64 F.k, .int .i64 F.l, .int .i64 F.d]) := Bl.new1 _ _ _ _
  clear hb hb' HT HX HR HB HC c0
  have cU := HU.out.cell
  have cV := HV.out.cell
  have cX := HX1.out.cell
  go_wp2_with fail
  generalize hx : w.heap.size = x at *
  generalize hww : (v1.alloc (.cells #[.int .i64 U.size, .int .u32 U.va, .int .u64 U.pa, .int .i64 U.dom, .int .i64 U.ap, .int .u32 U.bits, .bool U.ng, .bool U.xn] 35)).alloc (.cells #[.int .i64 F.k, .int .i64 F.l, .int .i64 F.d] 37) = w1 at *
  clear hww
  generalize hr : x + 1 = r at *
  generalize hy : v1.heap.size = y at *
  generalize hq : y + 1 = q at *
  have h1 : ¬ y = r := by omega
  have h2 : ¬ q = r := by omega
  have h3 : ¬ y = q := by omega
  have h4 : x ≤ q := by omega
  have h5 : x ≤ r := by omega
  clear hz hsz
  go_at_call 40
  refine (HK.out _ HT1.out).mono ?_
  rintro e w3 ⟨rfl, hb⟩
  have HT := hidW (HT1.out.below hb)
  have HR2 := hidW (HR1.out.below hb)
  have HB2 := hidW (below_at hx HB1.out hb)
  have HU2 := hidW (HU.out.below hb)
  have HV2 := hidW (HV.out.below hb)
  clear hb HT1 HX1 HR1 HB1 HU HV HK cU cV cX
  have cU := HU2.out.cell
  have cV := HV2.out.cell
  have fV := HV2.out.frozen
  have lV := HV2.out.lt
  have hqr := (fun e => h2 e.symm : ¬ r = q)
  have hqy := (fun e => h3 e.symm : ¬ q = y)
  go_wp2_with fail
  have HV := hidW (HV2.out.set3 (.int .i64 G.k) (.int .i64 G.l) (.int .i64 G.d))
  have HR1 := hidW (HR2.out.keep3 hqr (.int .i64 G.k) (.int .i64 G.l) (.int .i64 G.d))
  have HB1 : Hid (Below x w (((w3.setCell ⟨q, 0, none⟩ (.int .i64 G.k)).setCell ⟨q, 1, none⟩ (.int .i64 G.l)).setCell ⟨q, 2, none⟩ (.int .i64 G.d))) := Below.setCell (Below.setCell (Below.setCell HB2.out h4 _) h4 _) h4 _
  clear cU cV fV lV HU2 HV2 HR2 HB2
  generalize ((w3.setCell ⟨q, 0, none⟩ (.int .i64 G.k)).setCell ⟨q, 1, none⟩ (.int .i64 G.l)).setCell ⟨q, 2, none⟩ (.int .i64 G.d) = w2 at *
  have HP0 : Hid (w2.drew.cell? ⟨q, 0, none⟩ = some (.int .i64 G.k)) := HV.out.drew.cell 0
  have HS0 : Hid (∀ v0 v1 v2, (((w2.setCell ⟨r, 0, none⟩ v0).setCell ⟨r, 1, none⟩ v1).setCell ⟨r, 2, none⟩ v2).drew.cell? ⟨q, 0, none⟩ = some (.int .i64 G.k)) := fun v0 v1 v2 => (Bl.keep3 HV.out h2 v0 v1 v2).drew.cell 0
  have HP1 : Hid (w2.drew.cell? ⟨q, 1, none⟩ = some (.int .i64 G.l)) := HV.out.drew.cell 1
  have HS1 : Hid (∀ v0 v1 v2, (((w2.setCell ⟨r, 0, none⟩ v0).setCell ⟨r, 1, none⟩ v1).setCell ⟨r, 2, none⟩ v2).drew.cell? ⟨q, 1, none⟩ = some (.int .i64 G.l)) := fun v0 v1 v2 => (Bl.keep3 HV.out h2 v0 v1 v2).drew.cell 1
  have HP2 : Hid (w2.drew.cell? ⟨q, 2, none⟩ = some (.int .i64 G.d)) := HV.out.drew.cell 2
  have HS2 : Hid (∀ v0 v1 v2, (((w2.setCell ⟨r, 0, none⟩ v0).setCell ⟨r, 1, none⟩ v1).setCell ⟨r, 2, none⟩ v2).drew.cell? ⟨q, 2, none⟩ = some (.int .i64 G.d)) := fun v0 v1 v2 => (Bl.keep3 HV.out h2 v0 v1 v2).drew.cell 2
  have cR := HR1.out.cell
  have fR := HR1.out.frozen
  have lR := HR1.out.lt
  go_region_held3 (fun w' => w'.cell? ⟨q, 0, none⟩ = some (.int .i64 G.k) ∧ w'.cell? ⟨q, 1, none⟩ = some (.int .i64 G.l) ∧ w'.cell? ⟨q, 2, none⟩ = some (.int .i64 G.d)) (first | (with_reducible exact ⟨HP0.out, HP1.out, HP2.out⟩) | (with_reducible exact ⟨HS0.out _ _ _, HS1.out _ _ _, HS2.out _ _ _⟩)) (first | fail)
  go_wp2
  refine bodyPost_ret (v := .tuple #[.int .u64 0, .agg #[.int .i64 G.k, .int .i64 G.l, .int .i64 G.d]]) (by simp [results, Tryd.results21, go_sem, cR, fR, lR]) rfl ⟨rfl, ?_⟩
  rw [hx]
  exact below_drew (Below.setCell (Below.setCell (Below.setCell HB1.out h5 _) h5 _) h5 _)
set_option maxRecDepth 100000 in
set_option maxHeartbeats 4000000 in
theorem go_fine (c : Ctx) (va : Int) (priv : Bool) (k : Int) (w : World) (iv : Value) (U : Tra) (F G : Fa) (hk : (F.k == 0) = true) (hg : (G.k == 0) = true) (hm : IntKind.u32.wrap (va - U.va) = va - U.va) (hu : IntKind.u64.wrap (va - U.va) = va - U.va) (ha : IntKind.u64.wrap (U.pa + (va - U.va)) = U.pa + (va - U.va)) (hv : 0 ≤ va ∧ va < 4294967296) (ht : TC w)
    (HC : Hid (Calls Tryd.prog 11 #[iv, .agg #[.bool c.on, .bool c.tre, .bool c.afe, .int .i64 c.n, .bool c.pd0, .bool c.pd1, .int .u64 c.b0, .int .u64 c.b1, .int .u32 c.dacr, .int .u32 c.prrr, .int .u32 c.nmrr, .int .i64 c.asid], .int .u32 va] ((w.alloc (.cells #[.bool c.on, .bool c.tre, .bool c.afe, .int .i64 c.n, .bool c.pd0, .bool c.pd1, .int .u64 c.b0, .int .u64 c.b1, .int .u32 c.dacr, .int .u32 c.prrr, .int .u32 c.nmrr, .int .i64 c.asid] 26)).alloc (.cells #[.int .i64 0, .int .i64 0, .int .i64 0] 37)) fun e w' => e = .returned (.tuple #[.agg #[.int .i64 U.size, .int .u32 U.va, .int .u64 U.pa, .int .i64 U.dom, .int .i64 U.ap, .int .u32 U.bits, .bool U.ng, .bool U.xn], .agg #[.int .i64 F.k, .int .i64 F.l, .int .i64 F.d]]) ∧ Below ((w.alloc (.cells #[.bool c.on, .bool c.tre, .bool c.afe, .int .i64 c.n, .bool c.pd0, .bool c.pd1, .int .u64 c.b0, .int .u64 c.b1, .int .u32 c.dacr, .int .u32 c.prrr, .int .u32 c.nmrr, .int .i64 c.asid] 26)).alloc (.cells #[.int .i64 0, .int .i64 0, .int .i64 0] 37)).heap.size ((w.alloc (.cells #[.bool c.on, .bool c.tre, .bool c.afe, .int .i64 c.n, .bool c.pd0, .bool c.pd1, .int .u64 c.b0, .int .u64 c.b1, .int .u32 c.dacr, .int .u32 c.prrr, .int .u32 c.nmrr, .int .i64 c.asid] 26)).alloc (.cells #[.int .i64 0, .int .i64 0, .int .i64 0] 37)) w'))
    (HK : Hid (∀ w, TC w → Calls Tryd.prog 40 #[.agg #[.int .i64 U.size, .int .u32 U.va, .int .u64 U.pa, .int .i64 U.dom, .int .i64 U.ap, .int .u32 U.bits, .bool U.ng, .bool U.xn], .agg #[.bool c.on, .bool c.tre, .bool c.afe, .int .i64 c.n, .bool c.pd0, .bool c.pd1, .int .u64 c.b0, .int .u64 c.b1, .int .u32 c.dacr, .int .u32 c.prrr, .int .u32 c.nmrr, .int .i64 c.asid], .bool priv, .int .i64 k] w fun e w' => e = .returned (.agg #[.int .i64 G.k, .int .i64 G.l, .int .i64 G.d]) ∧ Below w.heap.size w w')) :
    Calls Tryd.prog 21 #[iv, .agg #[.bool c.on, .bool c.tre, .bool c.afe, .int .i64 c.n, .bool c.pd0, .bool c.pd1, .int .u64 c.b0, .int .u64 c.b1, .int .u32 c.dacr, .int .u32 c.prrr, .int .u32 c.nmrr, .int .i64 c.asid], .int .u32 va, .bool priv, .int .i64 k] w fun e w' => e = .returned (.tuple #[.int .u64 (U.pa + (va - U.va)), .agg #[.int .i64 fZ.k, .int .i64 fZ.l, .int .i64 fZ.d]]) ∧ Below w.heap.size w w' := by
  have HB := hidW (Below.step (below_new w (.cells #[.bool c.on, .bool c.tre, .bool c.afe, .int .i64 c.n, .bool c.pd0, .bool c.pd1, .int .u64 c.b0, .int .u64 c.b1, .int .u32 c.dacr, .int .u32 c.prrr, .int .u32 c.nmrr, .int .i64 c.asid] 26)) (below_new _ (.cells #[.int .i64 0, .int .i64 0, .int .i64 0] 37)))
  have HT := hidW (ht.below HB.out)
  have HX : Hid (Bl ((w.alloc (.cells #[.bool c.on, .bool c.tre, .bool c.afe, .int .i64 c.n, .bool c.pd0, .bool c.pd1, .int .u64 c.b0, .int .u64 c.b1, .int .u32 c.dacr, .int .u32 c.prrr, .int .u32 c.nmrr, .int .i64 c.asid] 26)).alloc (.cells #[.int .i64 0, .int .i64 0, .int .i64 0] 37)) w.heap.size 26 [.bool c.on, .bool c.tre, .bool c.afe, .int .i64 c.n, .bool c.pd0, .bool c.pd1, .int .u64 c.b0, .int .u64 c.b1, .int .u32 c.dacr, .int .u32 c.prrr, .int .u32 c.nmrr, .int .i64 c.asid]) := (Bl.new _ _ _).below (below_new _ _)
  have HR : Hid (Bl ((w.alloc (.cells #[.bool c.on, .bool c.tre, .bool c.afe, .int .i64 c.n, .bool c.pd0, .bool c.pd1, .int .u64 c.b0, .int .u64 c.b1, .int .u32 c.dacr, .int .u32 c.prrr, .int .u32 c.nmrr, .int .i64 c.asid] 26)).alloc (.cells #[.int .i64 0, .int .i64 0, .int .i64 0] 37)) (w.heap.size + 1) 37 [.int .i64 0, .int .i64 0, .int .i64 0]) := Bl.new1 _ _ _ _
  have hsz : ((w.alloc (.cells #[.bool c.on, .bool c.tre, .bool c.afe, .int .i64 c.n, .bool c.pd0, .bool c.pd1, .int .u64 c.b0, .int .u64 c.b1, .int .u32 c.dacr, .int .u32 c.prrr, .int .u32 c.nmrr, .int .i64 c.asid] 26)).alloc (.cells #[.int .i64 0, .int .i64 0, .int .i64 0] 37)).heap.size = w.heap.size + 1 + 1 := by simp
  have c0 := HX.out.cell
  clear ht
  go_enter Tryd.func21, Tryd.ntmps21
  go_wp2_with fail
  generalize hw0 : ((w.alloc (.cells #[.bool c.on, .bool c.tre, .bool c.afe, .int .i64 c.n, .bool c.pd0, .bool c.pd1, .int .u64 c.b0, .int .u64 c.b1, .int .u32 c.dacr, .int .u32 c.prrr, .int .u32 c.nmrr, .int .i64 c.asid] 26)).alloc (.cells #[.int .i64 0, .int .i64 0, .int .i64 0] 37)) = w0 at *
  clear hw0
  go_at_call 11
  refine HC.out.mono ?_
  rintro e v1 ⟨rfl, hb⟩
  have hb' := Below.step hb (Below.step (below_new v1 (.cells #[.int .i64 U.size, .int .u32 U.va, .int .u64 U.pa, .int .i64 U.dom, .int .i64 U.ap, .int .u32 U.bits, .bool U.ng, .bool U.xn] 35)) (below_new _ (.cells #[.int .i64 F.k, .int .i64 F.l, .int .i64 F.d] 37)))
  have HT1 := hidW (HT.out.below hb')
  have HX1 := hidW (HX.out.below hb')
  have HR1 := hidW (HR.out.below hb')
  have HB1 := hidW (Below.step HB.out hb')
  have hz := hb.size
  have HU : Hid (Bl ((v1.alloc (.cells #[.int .i64 U.size, .int .u32 U.va, .int .u64 U.pa, .int .i64 U.dom, .int .i64 U.ap, .int .u32 U.bits, .bool U.ng, .bool U.xn] 35)).alloc (.cells #[.int .i64 F.k, .int .i64 F.l, .int .i64 F.d] 37)) v1.heap.size 35 [.int .i64 U.size, .int .u32 U.va, .int .u64 U.pa, .int .i64 U.dom, .int .i64 U.ap, .int .u32 U.bits, .bool U.ng, .bool U.xn]) := (Bl.new _ _ _).below (below_new _ _)
  have HV : Hid (Bl ((v1.alloc (.cells #[.int .i64 U.size, .int .u32 U.va, .int .u64 U.pa, .int .i64 U.dom, .int .i64 U.ap, .int .u32 U.bits, .bool U.ng, .bool U.xn] 35)).alloc (.cells #[.int .i64 F.k, .int .i64 F.l, .int .i64 F.d] 37)) (v1.heap.size + 1) 37 [.int .i64 F.k, .int .i64 F.l, .int .i64 F.d]) := Bl.new1 _ _ _ _
  clear hb hb' HT HX HR HB HC c0
  have cU := HU.out.cell
  have cV := HV.out.cell
  have cX := HX1.out.cell
  go_wp2_with fail
  generalize hx : w.heap.size = x at *
  generalize hww : (v1.alloc (.cells #[.int .i64 U.size, .int .u32 U.va, .int .u64 U.pa, .int .i64 U.dom, .int .i64 U.ap, .int .u32 U.bits, .bool U.ng, .bool U.xn] 35)).alloc (.cells #[.int .i64 F.k, .int .i64 F.l, .int .i64 F.d] 37) = w1 at *
  clear hww
  generalize hr : x + 1 = r at *
  generalize hy : v1.heap.size = y at *
  generalize hq : y + 1 = q at *
  have h1 : ¬ y = r := by omega
  have h2 : ¬ q = r := by omega
  have h3 : ¬ y = q := by omega
  have h4 : x ≤ q := by omega
  have h5 : x ≤ r := by omega
  clear hz hsz
  go_at_call 40
  refine (HK.out _ HT1.out).mono ?_
  rintro e w3 ⟨rfl, hb⟩
  have HT := hidW (HT1.out.below hb)
  have HR2 := hidW (HR1.out.below hb)
  have HB2 := hidW (below_at hx HB1.out hb)
  have HU2 := hidW (HU.out.below hb)
  have HV2 := hidW (HV.out.below hb)
  clear hb HT1 HX1 HR1 HB1 HU HV HK cU cV cX
  have cU := HU2.out.cell
  have cV := HV2.out.cell
  have fV := HV2.out.frozen
  have lV := HV2.out.lt
  have hqr := (fun e => h2 e.symm : ¬ r = q)
  have hqy := (fun e => h3 e.symm : ¬ q = y)
  have HV := hidW (HV2.out.set3 (.int .i64 G.k) (.int .i64 G.l) (.int .i64 G.d))
  have HR1 := hidW (HR2.out.keep3 hqr (.int .i64 G.k) (.int .i64 G.l) (.int .i64 G.d))
  have cR := HR2.out.cell
  have fR := HR2.out.frozen
  have lR := HR2.out.lt
  have cR1 := HR1.out.cell
  have fR1 := HR1.out.frozen
  have lR1 := HR1.out.lt
  go_wp2
  refine bodyPost_ret (v := .tuple #[.int .u64 (U.pa + (va - U.va)), .agg #[.int .i64 fZ.k, .int .i64 fZ.l, .int .i64 fZ.d]]) (by simp [results, Tryd.results21, go_sem, fZ, cR, fR, lR, cR1, fR1, lR1]) rfl ⟨rfl, ?_⟩
  rw [hx]
  exact Below.setCell (Below.setCell (Below.setCell (Below.setCell (Below.setCell (Below.setCell HB2.out h4 _) h4 _) h4 _) h5 _) h5 _) h5 _
theorem go_any (c : Ctx) (va : Int) (priv : Bool) (k : Int) (w : World) {S : Nat → Prop} {iv : Value} {M : Mo} (h : MemP w S iv M) (ht : TC w) (hc : c.Ok) (hv : 0 ≤ va ∧ va < 4294967296) :
    Calls Tryd.prog 21 #[iv, .agg #[.bool c.on, .bool c.tre, .bool c.afe, .int .i64 c.n, .bool c.pd0, .bool c.pd1, .int .u64 c.b0, .int .u64 c.b1, .int .u32 c.dacr, .int .u32 c.prrr, .int .u32 c.nmrr, .int .i64 c.asid], .int .u32 va, .bool priv, .int .i64 k] w fun e w' => e = .returned (.tuple #[.int .u64 (goF M c va priv k).1, .agg #[.int .i64 ((goF M c va priv k).2).k, .int .i64 ((goF M c va priv k).2).l, .int .i64 ((goF M c va priv k).2).d]]) ∧ Below w.heap.size w w' := by
  have b0 : Below w.heap.size w ((w.alloc (.cells #[.bool c.on, .bool c.tre, .bool c.afe, .int .i64 c.n, .bool c.pd0, .bool c.pd1, .int .u64 c.b0, .int .u64 c.b1, .int .u32 c.dacr, .int .u32 c.prrr, .int .u32 c.nmrr, .int .i64 c.asid] 26)).alloc (.cells #[.int .i64 0, .int .i64 0, .int .i64 0] 37)) := Below.step (below_new _ _) (below_new _ _)
  have HC := hidW (walk_pure c va _ (h.below b0) (ht.tw.below b0) hc hv)
  have HF : (wk M c va).2.k = 0 → (wk M c va).2 = fZ ∧ Fnd (wk M c va).1 va := fun hk => by
    obtain ⟨h1, h2, _⟩ := found h.ok hc hv rfl hk
    exact ⟨h1, h2⟩
  unfold goF
  generalize wk M c va = R at *
  obtain ⟨U, F⟩ := R
  dsimp only at HF ⊢
  by_cases hk : F.k = 0
  · obtain ⟨hF, hf⟩ := HF hk
    have HK := hidW (fun w (hw : TC w) => check_any U c priv k w hw (hf.ft hv) hc.dacr)
    have hrg := hf.rng hv
    have hpa := hf.pa
    rw [if_pos hk]
    by_cases hg : (chF U c priv k).k = 0
    · rw [if_pos hg]
      exact go_fine c va priv k w iv U F (chF U c priv k) (by simp [hk]) (by simp [hg]) (by rw [IntKind.wrap_u32]; omega) (by rw [IntKind.wrap_u64]; omega) (by rw [IntKind.wrap_u64]; omega) hv ht HC HK
    · rw [if_neg hg]
      exact go_bad2 c va priv k w iv U F (chF U c priv k) (by simp [hk]) (by simpa using hg) hv ht HC HK
  · rw [if_neg hk]
    exact go_bad1 c va priv k w iv U F (by simpa using hk) hv ht HC
end Go.Proofs.YtmodcbdgnmjkoaaDoor
namespace Go.Proofs.YtmodcbdgnmjkoaaDoor
open Go.RowKit
set_option linter.unusedVariables false
set_option linter.unusedSimpArgs false
theorem nat_not12 (v : Nat) (hv : v < 4294967296) : v &&& (4294967295 - 4095) = v / 4096 * 4096 := by
  have h1 : (4294967295 - 4095 : Nat) = 1048575 * 2 ^ 12 := by decide
  apply Nat.eq_of_testBit_eq
  intro i
  rw [h1, Nat.testBit_and, Nat.testBit_mul_two_pow, show v / 4096 * 4096 = (v / 4096) * 2 ^ 12 by omega, Nat.testBit_mul_two_pow]
  by_cases hi : 12 ≤ i
  · simp only [hi, decide_true, Bool.true_and]
    rw [show v / 4096 = v / 2 ^ 12 by rfl, Nat.testBit_div_two_pow, show i - 12 + 12 = i by omega]
    by_cases h3 : i < 32
    · have : Nat.testBit 1048575 (i - 12) = true := by
        rw [show (1048575 : Nat) = 2 ^ 20 - 1 by decide, Nat.testBit_two_pow_sub_one]
        simp; omega
      rw [this, Bool.and_true]
    · have : v.testBit i = false := Nat.testBit_lt_two_pow (Nat.lt_of_lt_of_le (show v < 2 ^ 32 by omega) (Nat.pow_le_pow_right (by omega) (by omega)))
      rw [this]; simp
  · simp [hi]
theorem not12 (va : Int) (h : 0 ≤ va ∧ va < 4294967296) : bits .andNot .u32 va 4095 = va / 4096 * 4096 := by
  obtain ⟨v, rfl⟩ := Int.eq_ofNat_of_zero_le h.1
  rw [show (4095 : Int) = ((4095 : Nat) : Int) from rfl, u32_andNot_nat v 4095 (by omega) (by omega), nat_not12 v (by omega)]
  omega
theorem and12 (va : Int) (h : 0 ≤ va ∧ va < 4294967296) : bits .and .u32 va 4095 = va % 4096 := by
  obtain ⟨v, rfl⟩ := Int.eq_ofNat_of_zero_le h.1
  rw [show (4095 : Int) = ((4095 : Nat) : Int) from rfl, u32_and_nat v 4095 (by omega) (by omega), show (4095 : Nat) = 2 ^ 12 - 1 from rfl, Nat.and_two_pow_sub_one_eq_mod]
  omega
theorem and20 (va : Int) (h : 0 ≤ va ∧ va < 4294967296) : bits .and .u32 va 1048575 = va % 1048576 := by
  obtain ⟨v, rfl⟩ := Int.eq_ofNat_of_zero_le h.1
  rw [show (1048575 : Int) = ((1048575 : Nat) : Int) from rfl, u32_and_nat v 1048575 (by omega) (by omega), show (1048575 : Nat) = 2 ^ 20 - 1 from rfl, Nat.and_two_pow_sub_one_eq_mod]
  omega
theorem or12 (a b : Int) (ha : 0 ≤ a ∧ a < 4294967296) (hb : 0 ≤ b) : bits .or .u32 (a / 4096 * 4096) (b % 4096) = a / 4096 * 4096 + b % 4096 := by
  obtain ⟨v, rfl⟩ := Int.eq_ofNat_of_zero_le ha.1
  obtain ⟨u, rfl⟩ := Int.eq_ofNat_of_zero_le hb
  rw [show ((v : Int) / 4096 * 4096) = ((v / 4096 * 4096 : Nat) : Int) by omega, show ((u : Int) % 4096) = ((u % 4096 : Nat) : Int) by omega, u32_or_nat _ _ (by omega) (by omega)]
  have := Nat.two_pow_add_eq_or_of_lt (b := u % 4096) (i := 12) (by omega) (v / 4096)
  rw [show v / 4096 * 4096 = 2 ^ 12 * (v / 4096) by omega, ← this]
  omega
end Go.Proofs.YtmodcbdgnmjkoaaDoor
namespace Go.Proofs.YtmodcbdgnmjkoaaDoor
open Go.RowKit
open Mm (Turn gr PM RM valV errV Byts setV)
set_option linter.unusedVariables false
set_option linter.unusedSimpArgs false
/-- One memory of the program's. -/
structure One (W wr : World) (p N : Nat) (m : Nat → Int) : Prop where
  mem : ∃ S1, PM wr S1 p N m ∧ (∀ b, S1 b → W.heap.size ≤ b)
  bel : Below W.heap.size W wr
theorem One.below {W wr wn : World} {p N : Nat} {m : Nat → Int} (h : One W wr p N m) (hb : Below wr.heap.size wr wn) : One W wn p N m := by
  obtain ⟨⟨S1, h1, h4⟩, h6⟩ := h
  exact ⟨⟨S1, h1.keep (S' := fun _ => False) (Turn.below hb) (fun _ _ h => h), h4⟩, Below.step h6 hb⟩
theorem One.new {W w1 : World} {p N : Nat} (h1 : PM w1 (gr (fun _ => False) W w1) p N (fun _ => 0)) (T1 : Turn (fun _ => False) W w1) : One W w1 p N (fun _ => 0) := by
  refine ⟨⟨_, h1, ?_⟩, T1.to (fun _ h => h.elim) (Nat.le_refl _)⟩
  rintro b (h | ⟨h, _⟩)
  · exact h.elim
  · exact h
theorem One.put {W wr : World} {p N : Nat} {m : Nat → Int} (h : One W wr p N m) (pa : Nat) (v : Int) (hp : pa < 18446744073709551616) (hv0 : 0 ≤ v) (hv1 : v < 4294967296) :
    Calls Tryd.prog 13 #[.pointer (some ⟨p, 0, none⟩), .int .u64 pa, .int .u32 v] wr fun e w1 => e = .returned (.int .i64 (errV N pa 4)) ∧ One W w1 p N (setV N m pa 4 v) ∧ Turn (fun b => W.heap.size ≤ b ∧ b < wr.heap.size) wr w1 := by
  obtain ⟨⟨S1, h1, h4⟩, h6⟩ := h
  refine (Mm.setWord_any wr S1 p N m pa v h1 hp hv0 hv1).mono ?_
  rintro e w1 ⟨rfl, g1, T1⟩
  refine ⟨rfl, ⟨⟨_, g1, ?_⟩, h6.trans (T1.to h4 h6.size)⟩, T1.mono (fun x hx hS => ⟨h4 x hS, hx⟩)⟩
  rintro b (hb | ⟨hb, _⟩)
  · exact h4 b hb
  · have := h6.size; omega
set_option maxRecDepth 100000 in
theorem made_bad (W : World) (f : Int) (s : Value) (h : f < 1 ∨ 65536 < f) :
    Calls Tryd.prog 10 #[.int .i64 f, s] W fun e W' => e = .returned (.pointer none) ∧ W = W' := by
  have HP := hidW (Mm.pnew_bad W f h)
  clear h
  go_enter Tryd.func10, Tryd.ntmps10
  go_wp2_with (first
    | (go_at_call 29; refine HP.out.mono ?_; rintro e w1 ⟨rfl, rfl⟩))
  go_ret
  exact ⟨rfl, rfl⟩
set_option maxRecDepth 100000 in
set_option maxHeartbeats 8000000 in
theorem made_ok (W : World) (N : Nat) (h1 : 1 ≤ N) (h2 : N ≤ 65536) (a : Option Addr) (cap : Nat) (ps : List Pt) (hp : PutsAt W a ps) (hl : ps.length ≤ 9223372036854775807) :
    Calls Tryd.prog 10 #[.int .i64 N, .slice a ps.length cap] W fun e W' => ∃ p, e = .returned (.pointer (some ⟨p, 0, none⟩)) ∧ One W W' p N (pm N ps ps.length) := by
  have HS := hidW hp
  clear hp
  generalize hn : ps.length = n at *
  have HN := hidW hn
  clear hn
  go_enter Tryd.func10, Tryd.ntmps10
  go_wp2_with fail
  go_at_call 29
  refine (Mm.pnew_any W N h1 h2).mono ?_
  rintro e w1 ⟨rfl, g1, T1⟩
  have HT := hidW (One.new g1 T1)
  clear g1 T1
  generalize W.heap.size + 1 = p at *
  go_wp2
  go_loopw [7] (fun i wr => ∃ k : Nat, k ≤ n ∧ i = .int .i64 k ∧ Hid (One W wr p N (pm N ps k))) (fun i _ => n - (intOf i).toNat)
  case atStart => exact ⟨0, Nat.zero_le _, rfl, HT.out⟩
  case round =>
    obtain ⟨k, hk, rfl, HK⟩ := hrel
    clear HT
    by_cases hlt : k < n
    · obtain ⟨q, hq⟩ : ∃ q, ps[k]? = some q := ⟨_, List.getElem?_eq_getElem (by rw [HN.out]; omega)⟩
      obtain ⟨b, off, rfl, hb, e0, e1⟩ := HS.out.lies k q hq
      have hok := HS.out.oks q (List.mem_of_getElem? hq)
      have hstep := hidW (pm_step (N := N) hq)
      have hkz : (k : Int) < (n : Int) := by omega
      have hpa : ((q.pa.toNat : Nat) : Int) = q.pa := Int.toNat_of_nonneg hok.1.1
      have HD := hidW (HK.out.below (below_drew (Below.refl _ wr)))
      have HC := hidW (HD.out.put q.pa.toNat q.w (by omega) hok.2.1 hok.2.2)
      rw [hpa] at HC
      have HE := hidW (And.intro e0 e1)
      have HB1 := hidW HD.out.bel
      clear hq e0 e1 HK
      go_wp2
      go_region_held3 (fun w' => w'.cell? ⟨b, off + k * 2, none⟩ = some (.int .u64 q.pa) ∧ w'.cell? ⟨b, off + k * 2 + 1, none⟩ = some (.int .u32 q.w)) (exact ⟨(HB1.out.cell hb).trans HE.out.1, (HB1.out.cell hb).trans HE.out.2⟩) (first
        | (go_at_call 13; refine HC.out.mono ?_; rintro e wa ⟨rfl, ht2, _⟩; have HB1 := hidW ht2.bel; have HT2 := hidW ht2; clear ht2))
      have HT3 : Hid (One W wa p N (pm N ps (k + 1))) := by rw [hstep.out]; exact HT2.out
      clear HT2 HC HD hstep HB1
      go_wp2
      go_roundw
      case rel => exact ⟨k + 1, by omega, by go_num, HT3.out⟩
      case measure => simp [intOf]; omega
    · obtain rfl : k = n := by omega
      go_wp2
      go_ret
      exact ⟨p, rfl, HK.out⟩
end Go.Proofs.YtmodcbdgnmjkoaaDoor
namespace Go.Proofs.YtmodcbdgnmjkoaaDoor
open Go.RowKit
open Mm (Turn gr PM valV errV Byts RowAt)
set_option linter.unusedVariables false
set_option linter.unusedSimpArgs false
/-- A list of addresses that lies in new memory. -/
def Usl (lo : Nat) (w : World) (v : Value) (l : List Int) : Prop := ∃ a cap, v = .slice a l.length cap ∧ ∀ i x, l[i]? = some x → ∃ g o, a = some ⟨g, o, none⟩ ∧ lo ≤ g ∧ w.cell? ⟨g, o + i, none⟩ = some (.int .u64 x)
theorem Usl.below {lo : Nat} {w w' : World} {v : Value} {l : List Int} (h : Usl lo w v l) (hb : Below w.heap.size w w') : Usl lo w' v l := by
  obtain ⟨a, cap, rfl, h⟩ := h
  refine ⟨a, cap, rfl, fun i x hx => ?_⟩
  obtain ⟨g, o, rfl, hg, hc⟩ := h i x hx
  exact ⟨g, o, rfl, hg, (hb.cell (cell_lt hc)).trans hc⟩
theorem Usl.turn {lo : Nat} {w w' : World} {v : Value} {l : List Int} {S : Nat → Prop} (h : Usl lo w v l) (T : Turn S w w') (hS : ∀ b, S b → b < lo) : Usl lo w' v l := by
  obtain ⟨a, cap, rfl, h⟩ := h
  refine ⟨a, cap, rfl, fun i x hx => ?_⟩
  obtain ⟨g, o, rfl, hg, hc⟩ := h i x hx
  exact ⟨g, o, rfl, hg, (T.cell (cell_lt hc) (fun hs => by have := hS g hs; omega) _).trans hc⟩
theorem Usl.nil (lo : Nat) (w : World) : Usl lo w (.slice none 0 0) [] := ⟨none, 0, rfl, fun i x hx => by simp at hx⟩
theorem Usl.own {lo lo' : Nat} {w : World} {v : Value} {l : List Int} (h : w.ownsRow lo' 23 1 v l.length (encU l)) (hl : lo ≤ lo') : Usl lo w v l := by
  have ho := h
  rcases Mm.row_of_own h with ⟨rfl, h1, h2⟩ | ⟨g, cap, cur, rfl, a, b, c, d, e, f⟩
  · rw [List.eq_nil_of_length_eq_zero h1]
    exact Usl.nil lo w
  · refine ⟨_, _, rfl, fun i x hx => ⟨g, 0, rfl, by omega, ?_⟩⟩
    have hlt : i < l.length := (List.getElem?_eq_some_iff.1 hx).1
    rw [Nat.zero_add]
    have := World.ownsRow.cellAt ho i (by omega)
    rw [this, encU, List.getElem?_map, hx]
    rfl
set_option maxRecDepth 100000 in
set_option maxHeartbeats 2000000 in
theorem reads_own (c : Ctx) (va : Int) (w : World) {S : Nat → Prop} {iv : Value} {M : Mo} (hm : MemP w S iv M) (ht : TW w) (hc : c.Ok) (hv : 0 ≤ va ∧ va < 4294967296) :
    Calls Tryd.prog 12 #[iv, .agg #[.bool c.on, .bool c.tre, .bool c.afe, .int .i64 c.n, .bool c.pd0, .bool c.pd1, .int .u64 c.b0, .int .u64 c.b1, .int .u32 c.dacr, .int .u32 c.prrr, .int .u32 c.nmrr, .int .i64 c.asid], .int .u32 va] w fun e w' => ∃ v, e = .returned v ∧ Usl w.heap.size w' v (rdL M c va) ∧ Below w.heap.size w w' := by
  have b0 : Below w.heap.size w (w.alloc (.cells #[.bool c.on, .bool c.tre, .bool c.afe, .int .i64 c.n, .bool c.pd0, .bool c.pd1, .int .u64 c.b0, .int .u64 c.b1, .int .u32 c.dacr, .int .u32 c.prrr, .int .u32 c.nmrr, .int .i64 c.asid] 26)) := below_new w _
  have b1 : Below w.heap.size w ((w.alloc (.cells #[.bool c.on, .bool c.tre, .bool c.afe, .int .i64 c.n, .bool c.pd0, .bool c.pd1, .int .u64 c.b0, .int .u64 c.b1, .int .u32 c.dacr, .int .u32 c.prrr, .int .u32 c.nmrr, .int .i64 c.asid] 26)).alloc (.cells #[iv, .slice none 0 0] 85)) := Below.step b0 (below_new _ _)
  have hsz : (w.alloc (.cells #[.bool c.on, .bool c.tre, .bool c.afe, .int .i64 c.n, .bool c.pd0, .bool c.pd1, .int .u64 c.b0, .int .u64 c.b1, .int .u32 c.dacr, .int .u32 c.prrr, .int .u32 c.nmrr, .int .i64 c.asid] 26)).heap.size = w.heap.size + 1 := by simp
  have hN := Bl.new (w.alloc (.cells #[.bool c.on, .bool c.tre, .bool c.afe, .int .i64 c.n, .bool c.pd0, .bool c.pd1, .int .u64 c.b0, .int .u64 c.b1, .int .u32 c.dacr, .int .u32 c.prrr, .int .u32 c.nmrr, .int .i64 c.asid] 26)) 85 [iv, .slice none 0 0]
  rw [hsz] at hN
  have hsz2 : ((w.alloc (.cells #[.bool c.on, .bool c.tre, .bool c.afe, .int .i64 c.n, .bool c.pd0, .bool c.pd1, .int .u64 c.b0, .int .u64 c.b1, .int .u32 c.dacr, .int .u32 c.prrr, .int .u32 c.nmrr, .int .i64 c.asid] 26)).alloc (.cells #[iv, .slice none 0 0] 85)).heap.size = w.heap.size + 1 + 1 := by simp
  have hs : Tl S iv M w.heap.size (w.heap.size + 1) [] (fun b => b < w.heap.size ∨ b = w.heap.size + 1) ((w.alloc (.cells #[.bool c.on, .bool c.tre, .bool c.afe, .int .i64 c.n, .bool c.pd0, .bool c.pd1, .int .u64 c.b0, .int .u64 c.b1, .int .u32 c.dacr, .int .u32 c.prrr, .int .u32 c.nmrr, .int .i64 c.asid] 26)).alloc (.cells #[iv, .slice none 0 0] 85)) :=
    ⟨hm.below b1, fun b hb => ⟨.inl (hm.low b hb), hm.low b hb⟩, fun b hb => ⟨.inl (ht.low hb), ht.low hb⟩, fun b hb => by rw [hsz2]; omega, ht.below b1, by omega, .inr rfl, .slice none 0 0, hN, World.ownsRow_nil _ _ _ _, fun g hg => by cases hg⟩
  have HW := hidW (walk_any (asker_trail w.heap.size (w.heap.size + 1) hm.ok) c va [] _ _ hs (by simp) hc hv)
  have HB := hidW b1
  clear hs hN b0 b1
  have hiv : (∃ p : Nat, iv = .iface 30 (.pointer (some ⟨p, 0, none⟩))) ∨ iv = .nilIface := by
    rcases hm with ⟨p, _, _, h, _⟩ | h
    · exact .inl ⟨p, h⟩
    · exact .inr h.1
  clear hm
  rcases hiv with ⟨p, rfl⟩ | rfl
  all_goals
    go_enter Tryd.func12, Tryd.ntmps12
    go_wp2_with fail
    go_at_call 11
    refine HW.out.mono ?_
    rintro e wa ⟨rfl, hT, T⟩
    obtain ⟨v, h1, h2, h3⟩ := hT.row
    have HE := hidW (And.intro (Usl.own (lo := w.heap.size) h2 (by omega)) (HB.out.trans (T.to (B := w.heap.size) (fun x hx => hx.2) HB.out.size)))
    have c1 : wa.cell? ⟨w.heap.size + 1, 1, none⟩ = some v := h1.cell 1
    clear hT T h1 h2 h3 HW
    go_wp2
    go_ret
    exact ⟨_, rfl, by simpa using HE.out.1, HE.out.2⟩
end Go.Proofs.YtmodcbdgnmjkoaaDoor
namespace Go.Proofs.YtmodcbdgnmjkoaaDoor
open Go.RowKit
open Mm (Turn gr PM RM valV errV Byts setV)
set_option linter.unusedVariables false
set_option linter.unusedSimpArgs false
def alP : List Pt := [⟨16384, 20513⟩, ⟨16388, 1051662⟩, ⟨20484, 30782⟩]
def alC : Ctx := ⟨true, false, false, 2, false, false, 16384, 131072, 5, 0, 0, 0⟩
def alM : Mo := ramMo 16 (pm 16 alP 3)
theorem alC_ok : alC.Ok := ⟨by decide, by decide, by decide, by decide⟩
theorem al1 : (wk alM alC 4660).1.size = 1 ∧ (wk alM alC 4660).1.pa = 28672 ∧ (wk alM alC 4660).2.k = 0 := by decide +kernel
theorem al2 : (wk alM alC 1048576).1.size = 3 ∧ (wk alM alC 1048576).2.k = 0 := by decide +kernel
theorem al3 : (wk alM alC 8192).2.k = 5 ∧ (wk alM alC 8192).2.l = 0 ∧ (wk alM alC 8192).2.d = 1 := by decide +kernel
/-- The rows of the script in a block. -/
theorem alP_at (w : World) : PutsAt (w.alloc (.cells #[.int .u64 16384, .int .u32 20513, .int .u64 16388, .int .u32 1051662, .int .u64 20484, .int .u32 30782] 28)) (some ⟨w.heap.size, 0, none⟩) alP := by
  have h := Bl.new w 28 [.int .u64 16384, .int .u32 20513, .int .u64 16388, .int .u32 1051662, .int .u64 20484, .int .u32 30782]
  refine ⟨fun k p hp => ⟨w.heap.size, 0, rfl, h.lt, ?_, ?_⟩, fun p hp => ?_⟩
  · rw [Nat.zero_add]
    refine (h.cell (k * 2)).trans ?_
    match k, hp with
    | 0, hp => simp [alP] at hp; subst hp; rfl
    | 1, hp => simp [alP] at hp; subst hp; rfl
    | 2, hp => simp [alP] at hp; subst hp; rfl
  · rw [Nat.zero_add]
    refine (h.cell (k * 2 + 1)).trans ?_
    match k, hp with
    | 0, hp => simp [alP] at hp; subst hp; rfl
    | 1, hp => simp [alP] at hp; subst hp; rfl
    | 2, hp => simp [alP] at hp; subst hp; rfl
  · simp [alP] at hp
    rcases hp with rfl | rfl | rfl <;> decide
/-- A memory, a context's box, the tables. -/
structure AK (w wr : World) (c : Ctx) (x p N : Nat) (m : Nat → Int) : Prop where
  bel : Below w.heap.size w wr
  C : Bl wr x 26 [.bool c.on, .bool c.tre, .bool c.afe, .int .i64 c.n, .bool c.pd0, .bool c.pd1, .int .u64 c.b0, .int .u64 c.b1, .int .u32 c.dacr, .int .u32 c.prrr, .int .u32 c.nmrr, .int .i64 c.asid]
  mem : ∃ S1, PM wr S1 p N m
  tab : TW wr
theorem AK.below {w wr wn : World} {c : Ctx} {x p N : Nat} {m : Nat → Int} (h : AK w wr c x p N m) (hb : Below wr.heap.size wr wn) : AK w wn c x p N m := by
  obtain ⟨S1, h1⟩ := h.mem
  exact ⟨Below.step h.bel hb, h.C.below hb, ⟨S1, h1.keep (S' := fun _ => False) (Turn.below hb) (fun _ _ h => h)⟩, h.tab.below hb⟩
theorem AK.walk {w wr : World} {c : Ctx} {x p N : Nat} {m : Nat → Int} (h : AK w wr c x p N m) (hc : c.Ok) (va : Int) (hv : 0 ≤ va ∧ va < 4294967296) :
    Calls Tryd.prog 11 #[.iface 30 (.pointer (some ⟨p, 0, none⟩)), .agg #[.bool c.on, .bool c.tre, .bool c.afe, .int .i64 c.n, .bool c.pd0, .bool c.pd1, .int .u64 c.b0, .int .u64 c.b1, .int .u32 c.dacr, .int .u32 c.prrr, .int .u32 c.nmrr, .int .i64 c.asid], .int .u32 va] wr fun e w' => e = .returned (.tuple #[.agg #[.int .i64 ((wk (ramMo N m) c va).1).size, .int .u32 ((wk (ramMo N m) c va).1).va, .int .u64 ((wk (ramMo N m) c va).1).pa, .int .i64 ((wk (ramMo N m) c va).1).dom, .int .i64 ((wk (ramMo N m) c va).1).ap, .int .u32 ((wk (ramMo N m) c va).1).bits, .bool ((wk (ramMo N m) c va).1).ng, .bool ((wk (ramMo N m) c va).1).xn], .agg #[.int .i64 ((wk (ramMo N m) c va).2).k, .int .i64 ((wk (ramMo N m) c va).2).l, .int .i64 ((wk (ramMo N m) c va).2).d]]) ∧ Below wr.heap.size wr w' := by
  obtain ⟨S1, h1⟩ := h.mem
  exact walk_pure c va wr (.inl ⟨p, N, m, rfl, rfl, h1⟩) h.tab hc hv
set_option maxRecDepth 100000 in
set_option maxHeartbeats 8000000 in
theorem alive_any (w : World) (ht : TW w) : Calls Tryd.prog 9 #[] w fun e w' => e = .returned (.bool true) ∧ Below w.heap.size w w' := by
  have HT := hidW ht
  have HB0 := hidW (below_new w (.cells #[.int .u64 16384, .int .u32 20513, .int .u64 16388, .int .u32 1051662, .int .u64 20484, .int .u32 30782] 28))
  have HP := hidW (made_ok (w.alloc (.cells #[.int .u64 16384, .int .u32 20513, .int .u64 16388, .int .u32 1051662, .int .u64 20484, .int .u32 30782] 28)) 16 (by omega) (by omega) (some ⟨w.heap.size, 0, none⟩) 3 alP (alP_at w) (by decide))
  have k1 := hidW al1
  have k2 := hidW al2
  have k3 := hidW al3
  have HW1 := hidW (fun wr x p (h : AK w wr alC x p 16 (pm 16 alP 3)) => h.walk alC_ok 4660 (by decide))
  have HW2 := hidW (fun wr x p (h : AK w wr alC x p 16 (pm 16 alP 3)) => h.walk alC_ok 1048576 (by decide))
  have HW3 := hidW (fun wr x p (h : AK w wr alC x p 16 (pm 16 alP 3)) => h.walk alC_ok 8192 (by decide))
  unfold alM at k1 k2 k3
  generalize (wk (ramMo 16 (pm 16 alP 3)) alC 4660).1 = U1 at *
  generalize (wk (ramMo 16 (pm 16 alP 3)) alC 4660).2 = F1 at *
  generalize (wk (ramMo 16 (pm 16 alP 3)) alC 1048576).1 = U2 at *
  generalize (wk (ramMo 16 (pm 16 alP 3)) alC 1048576).2 = F2 at *
  generalize (wk (ramMo 16 (pm 16 alP 3)) alC 8192).1 = U3 at *
  generalize (wk (ramMo 16 (pm 16 alP 3)) alC 8192).2 = F3 at *
  clear ht
  go_enter Tryd.func9, Tryd.ntmps9
  go_wp2_with fail
  go_at_call 10
  refine HP.out.mono ?_
  rintro e wa ⟨p, rfl, hO⟩
  have HK : Hid (AK w (wa.alloc (.cells #[.bool true, .bool false, .bool false, .int .i64 2, .bool false, .bool false, .int .u64 16384, .int .u64 131072, .int .u32 5, .int .u32 0, .int .u32 0, .int .i64 0] 26)) alC wa.heap.size p 16 (pm 16 alP 3)) := by
    have b1 : Below w.heap.size w wa := Below.step HB0.out hO.bel
    obtain ⟨⟨S1, h1, _⟩, _⟩ := hO
    exact ⟨Below.step b1 (below_new _ _), Bl.new wa 26 [.bool true, .bool false, .bool false, .int .i64 2, .bool false, .bool false, .int .u64 16384, .int .u64 131072, .int .u32 5, .int .u32 0, .int .u32 0, .int .i64 0], ⟨S1, h1.keep (S' := fun _ => False) (Turn.below (below_new _ _)) (fun _ _ h => h)⟩, (HT.out.below b1).below (below_new _ _)⟩
  clear HP HB0 hO HT
  go_wp2_with fail
  generalize wa.alloc (.cells #[.bool true, .bool false, .bool false, .int .i64 2, .bool false, .bool false, .int .u64 16384, .int .u64 131072, .int .u32 5, .int .u32 0, .int .u32 0, .int .i64 0] 26) = wx at *
  generalize wa.heap.size = x at *
  go_at_call 11
  refine (HW1.out _ _ _ HK.out).mono ?_
  rintro e v1 ⟨rfl, hb⟩
  have HK1 := hidW ((HK.out.below hb).below (Below.step (below_new v1 (.cells #[.int .i64 U1.size, .int .u32 U1.va, .int .u64 U1.pa, .int .i64 U1.dom, .int .i64 U1.ap, .int .u32 U1.bits, .bool U1.ng, .bool U1.xn] 35)) (below_new _ (.cells #[.int .i64 F1.k, .int .i64 F1.l, .int .i64 F1.d] 37))))
  have HT1 := hidW ((Bl.new v1 35 [.int .i64 U1.size, .int .u32 U1.va, .int .u64 U1.pa, .int .i64 U1.dom, .int .i64 U1.ap, .int .u32 U1.bits, .bool U1.ng, .bool U1.xn]).below (below_new _ (.cells #[.int .i64 F1.k, .int .i64 F1.l, .int .i64 F1.d] 37)))
  have HF1 := hidW (Bl.new1 v1 (.cells #[.int .i64 U1.size, .int .u32 U1.va, .int .u64 U1.pa, .int .i64 U1.dom, .int .i64 U1.ap, .int .u32 U1.bits, .bool U1.ng, .bool U1.xn] 35) 37 [.int .i64 F1.k, .int .i64 F1.l, .int .i64 F1.d])
  clear hb HK HW1
  have cx := HK1.out.C.cell
  go_wp2_with fail
  generalize (v1.alloc (.cells #[.int .i64 U1.size, .int .u32 U1.va, .int .u64 U1.pa, .int .i64 U1.dom, .int .i64 U1.ap, .int .u32 U1.bits, .bool U1.ng, .bool U1.xn] 35)).alloc (.cells #[.int .i64 F1.k, .int .i64 F1.l, .int .i64 F1.d] 37) = y1 at *
  clear cx
  go_at_call 11
  refine (HW2.out _ _ _ HK1.out).mono ?_
  rintro e v2 ⟨rfl, hb⟩
  have HK2 := hidW ((HK1.out.below hb).below (Below.step (below_new v2 (.cells #[.int .i64 U2.size, .int .u32 U2.va, .int .u64 U2.pa, .int .i64 U2.dom, .int .i64 U2.ap, .int .u32 U2.bits, .bool U2.ng, .bool U2.xn] 35)) (below_new _ (.cells #[.int .i64 F2.k, .int .i64 F2.l, .int .i64 F2.d] 37))))
  have HT2 := hidW ((Bl.new v2 35 [.int .i64 U2.size, .int .u32 U2.va, .int .u64 U2.pa, .int .i64 U2.dom, .int .i64 U2.ap, .int .u32 U2.bits, .bool U2.ng, .bool U2.xn]).below (below_new _ (.cells #[.int .i64 F2.k, .int .i64 F2.l, .int .i64 F2.d] 37)))
  have HF2 := hidW (Bl.new1 v2 (.cells #[.int .i64 U2.size, .int .u32 U2.va, .int .u64 U2.pa, .int .i64 U2.dom, .int .i64 U2.ap, .int .u32 U2.bits, .bool U2.ng, .bool U2.xn] 35) 37 [.int .i64 F2.k, .int .i64 F2.l, .int .i64 F2.d])
  have HT1_2 := hidW ((HT1.out.below hb).below (Below.step (below_new v2 (.cells #[.int .i64 U2.size, .int .u32 U2.va, .int .u64 U2.pa, .int .i64 U2.dom, .int .i64 U2.ap, .int .u32 U2.bits, .bool U2.ng, .bool U2.xn] 35)) (below_new _ (.cells #[.int .i64 F2.k, .int .i64 F2.l, .int .i64 F2.d] 37))))
  have HF1_2 := hidW ((HF1.out.below hb).below (Below.step (below_new v2 (.cells #[.int .i64 U2.size, .int .u32 U2.va, .int .u64 U2.pa, .int .i64 U2.dom, .int .i64 U2.ap, .int .u32 U2.bits, .bool U2.ng, .bool U2.xn] 35)) (below_new _ (.cells #[.int .i64 F2.k, .int .i64 F2.l, .int .i64 F2.d] 37))))
  clear hb HK1 HW2 HT1 HF1
  have cx := HK2.out.C.cell
  go_wp2_with fail
  generalize (v2.alloc (.cells #[.int .i64 U2.size, .int .u32 U2.va, .int .u64 U2.pa, .int .i64 U2.dom, .int .i64 U2.ap, .int .u32 U2.bits, .bool U2.ng, .bool U2.xn] 35)).alloc (.cells #[.int .i64 F2.k, .int .i64 F2.l, .int .i64 F2.d] 37) = y2 at *
  clear cx
  go_at_call 11
  refine (HW3.out _ _ _ HK2.out).mono ?_
  rintro e v3 ⟨rfl, hb⟩
  have HK3 := hidW ((HK2.out.below hb).below (Below.step (below_new v3 (.cells #[.int .i64 U3.size, .int .u32 U3.va, .int .u64 U3.pa, .int .i64 U3.dom, .int .i64 U3.ap, .int .u32 U3.bits, .bool U3.ng, .bool U3.xn] 35)) (below_new _ (.cells #[.int .i64 F3.k, .int .i64 F3.l, .int .i64 F3.d] 37))))
  have HT3 := hidW ((Bl.new v3 35 [.int .i64 U3.size, .int .u32 U3.va, .int .u64 U3.pa, .int .i64 U3.dom, .int .i64 U3.ap, .int .u32 U3.bits, .bool U3.ng, .bool U3.xn]).below (below_new _ (.cells #[.int .i64 F3.k, .int .i64 F3.l, .int .i64 F3.d] 37)))
  have HF3 := hidW (Bl.new1 v3 (.cells #[.int .i64 U3.size, .int .u32 U3.va, .int .u64 U3.pa, .int .i64 U3.dom, .int .i64 U3.ap, .int .u32 U3.bits, .bool U3.ng, .bool U3.xn] 35) 37 [.int .i64 F3.k, .int .i64 F3.l, .int .i64 F3.d])
  have HT1_3 := hidW ((HT1_2.out.below hb).below (Below.step (below_new v3 (.cells #[.int .i64 U3.size, .int .u32 U3.va, .int .u64 U3.pa, .int .i64 U3.dom, .int .i64 U3.ap, .int .u32 U3.bits, .bool U3.ng, .bool U3.xn] 35)) (below_new _ (.cells #[.int .i64 F3.k, .int .i64 F3.l, .int .i64 F3.d] 37))))
  have HF1_3 := hidW ((HF1_2.out.below hb).below (Below.step (below_new v3 (.cells #[.int .i64 U3.size, .int .u32 U3.va, .int .u64 U3.pa, .int .i64 U3.dom, .int .i64 U3.ap, .int .u32 U3.bits, .bool U3.ng, .bool U3.xn] 35)) (below_new _ (.cells #[.int .i64 F3.k, .int .i64 F3.l, .int .i64 F3.d] 37))))
  have HT2_3 := hidW ((HT2.out.below hb).below (Below.step (below_new v3 (.cells #[.int .i64 U3.size, .int .u32 U3.va, .int .u64 U3.pa, .int .i64 U3.dom, .int .i64 U3.ap, .int .u32 U3.bits, .bool U3.ng, .bool U3.xn] 35)) (below_new _ (.cells #[.int .i64 F3.k, .int .i64 F3.l, .int .i64 F3.d] 37))))
  have HF2_3 := hidW ((HF2.out.below hb).below (Below.step (below_new v3 (.cells #[.int .i64 U3.size, .int .u32 U3.va, .int .u64 U3.pa, .int .i64 U3.dom, .int .i64 U3.ap, .int .u32 U3.bits, .bool U3.ng, .bool U3.xn] 35)) (below_new _ (.cells #[.int .i64 F3.k, .int .i64 F3.l, .int .i64 F3.d] 37))))
  clear hb HK2 HW3 HT1_2 HF1_2 HT2 HF2
  have c0 := HT1_3.out.cell
  have c1 := HF1_3.out.cell
  have c2 := HT2_3.out.cell
  have c3 := HF2_3.out.cell
  have c4 := HT3.out.cell
  have c5 := HF3.out.cell
  obtain ⟨k1a, k1b, k1c⟩ := k1.out
  obtain ⟨k2a, k2b⟩ := k2.out
  obtain ⟨k3a, k3b, k3c⟩ := k3.out
  have q1 : (U1.size == 1) = true := by rw [k1a]; rfl
  have q2 : (U1.pa == 28672) = true := by rw [k1b]; rfl
  have q3 : (F1.k == 0) = true := by rw [k1c]; rfl
  have q4 : (U2.size == 3) = true := by rw [k2a]; rfl
  have q5 : (F2.k == 0) = true := by rw [k2b]; rfl
  have q6 : ∀ w, (Op.equalIn 10000 37 (.agg #[.int .i64 F3.k, .int .i64 F3.l, .int .i64 F3.d]) (.agg #[.int .i64 5, .int .i64 0, .int .i64 1])).run Tryd.prog w = .ok true w := by
    intro w
    have h := eqF F3 ⟨5, 0, 1⟩ w
    rw [show F3.same ⟨5, 0, 1⟩ = true by unfold Fa.same; rw [k3a, k3b, k3c]; rfl] at h
    exact h
  clear k1a k1b k1c k2a k2b k3a k3b k3c k1 k2 k3
  have HE := hidW HK3.out.bel
  go_wp2
  go_ret
  exact ⟨rfl, HE.out⟩
end Go.Proofs.YtmodcbdgnmjkoaaDoor
namespace Go.Proofs.YtmodcbdgnmjkoaaDoor
open Go.RowKit
open Mm (Turn gr PM RM valV errV Byts setV)
set_option linter.unusedVariables false
set_option linter.unusedSimpArgs false
theorem PutsAt.below {W W' : World} {a : Option Addr} {ps : List Pt} (h : PutsAt W a ps) (hb : Below W.heap.size W W') : PutsAt W' a ps :=
  ⟨fun k q hq => by
    obtain ⟨b, off, e, hl, e0, e1⟩ := h.lies k q hq
    exact ⟨b, off, e, Nat.lt_of_lt_of_le hl hb.size, (hb.cell hl).trans e0, (hb.cell hl).trans e1⟩, h.oks⟩
theorem rdL_len2 (M : Mo) (c : Ctx) (va : Int) : (rdL M c va).length ≤ 2 := by
  have hr1 : (r1 c va).length ≤ 1 := by unfold r1; split <;> simp
  unfold rdL
  split
  · split
    · rw [List.length_append]; simp; omega
    · omega
  · simp
end Go.Proofs.YtmodcbdgnmjkoaaDoor
namespace Go.Proofs.YtmodcbdgnmjkoaaDoor
open Go.RowKit
open Mm (Turn gr PM RM valV errV Byts setV)
set_option linter.unusedVariables false
set_option linter.unusedSimpArgs false
/-- A memory that stays as it is, a context's box, the tables. -/
structure PK (W wr : World) (S : Nat → Prop) (c : Ctx) (x p N : Nat) (m : Nat → Int) : Prop where
  pm : PM wr S p N m
  bel : Below W.heap.size W wr
  C : Bl wr x 26 [.bool c.on, .bool c.tre, .bool c.afe, .int .i64 c.n, .bool c.pd0, .bool c.pd1, .int .u64 c.b0, .int .u64 c.b1, .int .u32 c.dacr, .int .u32 c.prrr, .int .u32 c.nmrr, .int .i64 c.asid]
  tab : TC wr
section
variable {W wr wn : World} {S : Nat → Prop} {c : Ctx} {x p N : Nat} {m : Nat → Int}
theorem PK.mem (h : PK W wr S c x p N m) : MemP wr S (.iface 30 (.pointer (some ⟨p, 0, none⟩))) (ramMo N m) := .inl ⟨p, N, m, rfl, rfl, h.pm⟩
theorem PK.below (h : PK W wr S c x p N m) (hb : Below wr.heap.size wr wn) : PK W wn S c x p N m :=
  ⟨h.pm.keep (S' := fun _ => False) (Turn.below hb) (fun _ _ h => h), Below.step h.bel hb, h.C.below hb, h.tab.below hb⟩
theorem PK.walk (h : PK W wr S c x p N m) (d : Ctx) (hc : d.Ok) (va : Int) (hv : 0 ≤ va ∧ va < 4294967296) :
    Calls Tryd.prog 11 #[.iface 30 (.pointer (some ⟨p, 0, none⟩)), .agg #[.bool d.on, .bool d.tre, .bool d.afe, .int .i64 d.n, .bool d.pd0, .bool d.pd1, .int .u64 d.b0, .int .u64 d.b1, .int .u32 d.dacr, .int .u32 d.prrr, .int .u32 d.nmrr, .int .i64 d.asid], .int .u32 va] wr fun e w' => e = .returned (.tuple #[.agg #[.int .i64 ((wk (ramMo N m) d va).1).size, .int .u32 ((wk (ramMo N m) d va).1).va, .int .u64 ((wk (ramMo N m) d va).1).pa, .int .i64 ((wk (ramMo N m) d va).1).dom, .int .i64 ((wk (ramMo N m) d va).1).ap, .int .u32 ((wk (ramMo N m) d va).1).bits, .bool ((wk (ramMo N m) d va).1).ng, .bool ((wk (ramMo N m) d va).1).xn], .agg #[.int .i64 ((wk (ramMo N m) d va).2).k, .int .i64 ((wk (ramMo N m) d va).2).l, .int .i64 ((wk (ramMo N m) d va).2).d]]) ∧ Below wr.heap.size wr w' :=
  walk_pure d va wr h.mem h.tab.tw hc hv
theorem PK.reads (h : PK W wr S c x p N m) (hc : c.Ok) (va : Int) (hv : 0 ≤ va ∧ va < 4294967296) :
    Calls Tryd.prog 12 #[.iface 30 (.pointer (some ⟨p, 0, none⟩)), .agg #[.bool c.on, .bool c.tre, .bool c.afe, .int .i64 c.n, .bool c.pd0, .bool c.pd1, .int .u64 c.b0, .int .u64 c.b1, .int .u32 c.dacr, .int .u32 c.prrr, .int .u32 c.nmrr, .int .i64 c.asid], .int .u32 va] wr fun e w' => ∃ v, e = .returned v ∧ Usl wr.heap.size w' v (rdL (ramMo N m) c va) ∧ Below wr.heap.size wr w' :=
  reads_own c va wr h.mem h.tab.tw hc hv
theorem PK.go (h : PK W wr S c x p N m) (d : Ctx) (hc : d.Ok) (va : Int) (hv : 0 ≤ va ∧ va < 4294967296) (priv : Bool) (k : Int) :
    Calls Tryd.prog 21 #[.iface 30 (.pointer (some ⟨p, 0, none⟩)), .agg #[.bool d.on, .bool d.tre, .bool d.afe, .int .i64 d.n, .bool d.pd0, .bool d.pd1, .int .u64 d.b0, .int .u64 d.b1, .int .u32 d.dacr, .int .u32 d.prrr, .int .u32 d.nmrr, .int .i64 d.asid], .int .u32 va, .bool priv, .int .i64 k] wr fun e w' => e = .returned (.tuple #[.int .u64 (goF (ramMo N m) d va priv k).1, .agg #[.int .i64 ((goF (ramMo N m) d va priv k).2).k, .int .i64 ((goF (ramMo N m) d va priv k).2).l, .int .i64 ((goF (ramMo N m) d va priv k).2).d]]) ∧ Below wr.heap.size wr w' :=
  go_any d va priv k wr h.mem h.tab hc hv
end
theorem PK.new {W w1 w2 : World} {c : Ctx} {p N : Nat} {m : Nat → Int} (hT : TC W) (hb : Below (W.alloc (.cells #[.bool c.on, .bool c.tre, .bool c.afe, .int .i64 c.n, .bool c.pd0, .bool c.pd1, .int .u64 c.b0, .int .u64 c.b1, .int .u32 c.dacr, .int .u32 c.prrr, .int .u32 c.nmrr, .int .i64 c.asid] 26)).heap.size (W.alloc (.cells #[.bool c.on, .bool c.tre, .bool c.afe, .int .i64 c.n, .bool c.pd0, .bool c.pd1, .int .u64 c.b0, .int .u64 c.b1, .int .u32 c.dacr, .int .u32 c.prrr, .int .u32 c.nmrr, .int .i64 c.asid] 26)) w1) (h : One w1 w2 p N m) :
    ∃ S, PK W w2 S c W.heap.size p N m := by
  obtain ⟨⟨S1, h1, h4⟩, h6⟩ := h
  have b1 : Below W.heap.size W w1 := Below.step (below_new _ _) hb
  exact ⟨S1, h1, Below.step b1 h6, ((Bl.new W 26 [.bool c.on, .bool c.tre, .bool c.afe, .int .i64 c.n, .bool c.pd0, .bool c.pd1, .int .u64 c.b0, .int .u64 c.b1, .int .u32 c.dacr, .int .u32 c.prrr, .int .u32 c.nmrr, .int .i64 c.asid]).below hb).below h6, (hT.below b1).below h6⟩
set_option maxRecDepth 100000 in
theorem law_pages_bad (W : World) (ht : TC W) (f : Int) (hf : f < 1 ∨ 65536 < f) (s : Value) (c : Ctx) (va vb : Int) :
    Calls Tryd.prog 4 #[.int .i64 f, s, .agg #[.bool c.on, .bool c.tre, .bool c.afe, .int .i64 c.n, .bool c.pd0, .bool c.pd1, .int .u64 c.b0, .int .u64 c.b1, .int .u32 c.dacr, .int .u32 c.prrr, .int .u32 c.nmrr, .int .i64 c.asid], .int .u32 va, .int .u32 vb] W fun e W' => e = .returned (.bool true) ∧ Below W.heap.size W W' := by
  have HB0 := hidW (below_new W (.cells #[.bool c.on, .bool c.tre, .bool c.afe, .int .i64 c.n, .bool c.pd0, .bool c.pd1, .int .u64 c.b0, .int .u64 c.b1, .int .u32 c.dacr, .int .u32 c.prrr, .int .u32 c.nmrr, .int .i64 c.asid] 26))
  have HA := hidW (alive_any _ (ht.tw.below HB0.out))
  have HM := hidW (fun ww => made_bad ww f s hf)
  have hq : ((decide (f < 1)) || (decide (65536 < f))) = true := by rcases hf with h | h <;> simp [h]
  have hd : decide (f < 1) = true ∨ (decide (f < 1) = false ∧ decide (65536 < f) = true) := by
    by_cases h : f < 1
    · exact .inl (by simp [h])
    · exact .inr ⟨by simp [h], by simp; omega⟩
  clear hf ht hq
  rcases hd with h1 | ⟨h1, h2⟩
  all_goals
    go_enter Tryd.func4, Tryd.ntmps4
    go_wp2_with fail
    go_at_call 9
    refine HA.out.mono ?_
    rintro e w1 ⟨rfl, hb⟩
    have HE := hidW (Below.step HB0.out hb)
    clear hb HA HB0
    go_wp2_with fail
    go_at_call 10
    refine (HM.out _).mono ?_
    rintro e w2 ⟨rfl, rfl⟩
    clear HM
    go_wp2
    go_ret
    exact ⟨rfl, HE.out⟩
end Go.Proofs.YtmodcbdgnmjkoaaDoor
