import Derived.Test.YtmodcbdgnmjkoaaDoorLc
import Derived.Test.YtmodcbdgnmjkoaaDoorWi
import Derived.Test.YtmodcbdgnmjkoaaDoorEb
import Derived.Laws.BitsAllLaws
namespace Go.Proofs.YtmodcbdgnmjkoaaDoor
open Go.RowKit
open Mm (Turn gr PM RM valV errV Byts setV)
set_option linter.unusedVariables false
set_option linter.unusedSimpArgs false
/-- One memory of the program's. -/
structure One (W wr : World) (p N : Nat) (m : Nat → Int) : Prop where
  mem : ∃ S1, PM wr S1 p N m ∧ (∀ b, S1 b → W.heap.size ≤ b)
  bel : Below W.heap.size W wr
theorem One.below {W wr wn : World} {p N : Nat} {m : Nat → Int} (h : One W wr p N m) (hb : Below wr.heap.size wr wn) : One W wn p N m := by
  obtain ⟨⟨S1, h1, h4⟩, h6⟩ := h
  exact ⟨⟨S1, h1.keep (S' := fun _ => False) (Turn.below hb) (fun _ _ h => h), h4⟩, Below.step h6 hb⟩
theorem One.new {W w1 : World} {p N : Nat} (h1 : PM w1 (gr (fun _ => False) W w1) p N (fun _ => 0)) (T1 : Turn (fun _ => False) W w1) : One W w1 p N (fun _ => 0) := by
  refine ⟨⟨_, h1, ?_⟩, T1.to (fun _ h => h.elim) (Nat.le_refl _)⟩
  rintro b (h | ⟨h, _⟩)
  · exact h.elim
  · exact h
theorem One.put {W wr : World} {p N : Nat} {m : Nat → Int} (h : One W wr p N m) (pa : Nat) (v : Int) (hp : pa < 18446744073709551616) (hv0 : 0 ≤ v) (hv1 : v < 4294967296) :
    Calls Tryd.prog 13 #[.pointer (some ⟨p, 0, none⟩), .int .u64 pa, .int .u32 v] wr fun e w1 => e = .returned (.int .i64 (errV N pa 4)) ∧ One W w1 p N (setV N m pa 4 v) ∧ Turn (fun b => W.heap.size ≤ b ∧ b < wr.heap.size) wr w1 := by
  obtain ⟨⟨S1, h1, h4⟩, h6⟩ := h
  refine (Mm.setWord_any wr S1 p N m pa v h1 hp hv0 hv1).mono ?_
  rintro e w1 ⟨rfl, g1, T1⟩
  refine ⟨rfl, ⟨⟨_, g1, ?_⟩, h6.trans (T1.to h4 h6.size)⟩, T1.mono (fun x hx hS => ⟨h4 x hS, hx⟩)⟩
  rintro b (hb | ⟨hb, _⟩)
  · exact h4 b hb
  · have := h6.size; omega
set_option maxRecDepth 100000 in
theorem made_bad (W : World) (f : Int) (s : Value) (h : f < 1 ∨ 65536 < f) :
    Calls Tryd.prog 10 #[.int .i64 f, s] W fun e W' => e = .returned (.pointer none) ∧ W = W' := by
  have HP := hidW (Mm.pnew_bad W f h)
  clear h
  go_enter Tryd.func10, Tryd.ntmps10
  go_wp2_with (first
    | (go_at_call 29; refine HP.out.mono ?_; rintro e w1 ⟨rfl, rfl⟩))
  go_ret
  exact ⟨rfl, rfl⟩
set_option maxRecDepth 100000 in
set_option maxHeartbeats 8000000 in
theorem made_ok (W : World) (N : Nat) (h1 : 1 ≤ N) (h2 : N ≤ 65536) (a : Option Addr) (cap : Nat) (ps : List Pt) (hp : PutsAt W a ps) (hl : ps.length ≤ 9223372036854775807) :
    Calls Tryd.prog 10 #[.int .i64 N, .slice a ps.length cap] W fun e W' => ∃ p, e = .returned (.pointer (some ⟨p, 0, none⟩)) ∧ One W W' p N (pm N ps ps.length) := by
  have HS := hidW hp
  clear hp
  generalize hn : ps.length = n at *
  have HN := hidW hn
  clear hn
  go_enter Tryd.func10, Tryd.ntmps10
  go_wp2_with fail
  go_at_call 29
  refine (Mm.pnew_any W N h1 h2).mono ?_
  rintro e w1 ⟨rfl, g1, T1⟩
  have HT := hidW (One.new g1 T1)
  clear g1 T1
  generalize W.heap.size + 1 = p at *
  go_wp2
  go_loopw [7] (fun i wr => ∃ k : Nat, k ≤ n ∧ i = .int .i64 k ∧ Hid (One W wr p N (pm N ps k))) (fun i _ => n - (intOf i).toNat)
  case atStart => exact ⟨0, Nat.zero_le _, rfl, HT.out⟩
  case round =>
    obtain ⟨k, hk, rfl, HK⟩ := hrel
    clear HT
    by_cases hlt : k < n
    · obtain ⟨q, hq⟩ : ∃ q, ps[k]? = some q := ⟨_, List.getElem?_eq_getElem (by rw [HN.out]; omega)⟩
      obtain ⟨b, off, rfl, hb, e0, e1⟩ := HS.out.lies k q hq
      have hok := HS.out.oks q (List.mem_of_getElem? hq)
      have hstep := hidW (pm_step (N := N) hq)
      have hkz : (k : Int) < (n : Int) := by omega
      have hpa : ((q.pa.toNat : Nat) : Int) = q.pa := Int.toNat_of_nonneg hok.1.1
      have HD := hidW (HK.out.below (below_drew (Below.refl _ wr)))
      have HC := hidW (HD.out.put q.pa.toNat q.w (by omega) hok.2.1 hok.2.2)
      rw [hpa] at HC
      have HE := hidW (And.intro e0 e1)
      have HB1 := hidW HD.out.bel
      clear hq e0 e1 HK
      go_wp2
      go_region_held3 (fun w' => w'.cell? ⟨b, off + k * 2, none⟩ = some (.int .u64 q.pa) ∧ w'.cell? ⟨b, off + k * 2 + 1, none⟩ = some (.int .u32 q.w)) (exact ⟨(HB1.out.cell hb).trans HE.out.1, (HB1.out.cell hb).trans HE.out.2⟩) (first
        | (go_at_call 13; refine HC.out.mono ?_; rintro e wa ⟨rfl, ht2, _⟩; have HB1 := hidW ht2.bel; have HT2 := hidW ht2; clear ht2))
      have HT3 : Hid (One W wa p N (pm N ps (k + 1))) := by rw [hstep.out]; exact HT2.out
      clear HT2 HC HD hstep HB1
      go_wp2
      go_roundw
      case rel => exact ⟨k + 1, by omega, by go_num, HT3.out⟩
      case measure => simp [intOf]; omega
    · obtain rfl : k = n := by omega
      go_wp2
      go_ret
      exact ⟨p, rfl, HK.out⟩
end Go.Proofs.YtmodcbdgnmjkoaaDoor
namespace Go.Proofs.YtmodcbdgnmjkoaaDoor
open Go.RowKit
open Mm (Turn gr PM valV errV Byts RowAt)
set_option linter.unusedVariables false
set_option linter.unusedSimpArgs false
/-- A list of addresses that lies in new memory. -/
def Usl (lo : Nat) (w : World) (v : Value) (l : List Int) : Prop := ∃ a cap, v = .slice a l.length cap ∧ ∀ i x, l[i]? = some x → ∃ g o, a = some ⟨g, o, none⟩ ∧ lo ≤ g ∧ w.cell? ⟨g, o + i, none⟩ = some (.int .u64 x)
theorem Usl.below {lo : Nat} {w w' : World} {v : Value} {l : List Int} (h : Usl lo w v l) (hb : Below w.heap.size w w') : Usl lo w' v l := by
  obtain ⟨a, cap, rfl, h⟩ := h
  refine ⟨a, cap, rfl, fun i x hx => ?_⟩
  obtain ⟨g, o, rfl, hg, hc⟩ := h i x hx
  exact ⟨g, o, rfl, hg, (hb.cell (cell_lt hc)).trans hc⟩
theorem Usl.turn {lo : Nat} {w w' : World} {v : Value} {l : List Int} {S : Nat → Prop} (h : Usl lo w v l) (T : Turn S w w') (hS : ∀ b, S b → b < lo) : Usl lo w' v l := by
  obtain ⟨a, cap, rfl, h⟩ := h
  refine ⟨a, cap, rfl, fun i x hx => ?_⟩
  obtain ⟨g, o, rfl, hg, hc⟩ := h i x hx
  exact ⟨g, o, rfl, hg, (T.cell (cell_lt hc) (fun hs => by have := hS g hs; omega) _).trans hc⟩
theorem Usl.nil (lo : Nat) (w : World) : Usl lo w (.slice none 0 0) [] := ⟨none, 0, rfl, fun i x hx => by simp at hx⟩
theorem Usl.own {lo lo' : Nat} {w : World} {v : Value} {l : List Int} (h : w.ownsRow lo' 23 1 v l.length (encU l)) (hl : lo ≤ lo') : Usl lo w v l := by
  have ho := h
  rcases Mm.row_of_own h with ⟨rfl, h1, h2⟩ | ⟨g, cap, cur, rfl, a, b, c, d, e, f⟩
  · rw [List.eq_nil_of_length_eq_zero h1]
    exact Usl.nil lo w
  · refine ⟨_, _, rfl, fun i x hx => ⟨g, 0, rfl, by omega, ?_⟩⟩
    have hlt : i < l.length := (List.getElem?_eq_some_iff.1 hx).1
    rw [Nat.zero_add]
    have := World.ownsRow.cellAt ho i (by omega)
    rw [this, encU, List.getElem?_map, hx]
    rfl
set_option maxRecDepth 100000 in
set_option maxHeartbeats 2000000 in
theorem reads_own (c : Ctx) (va : Int) (w : World) {S : Nat → Prop} {iv : Value} {M : Mo} (hm : MemP w S iv M) (ht : TW w) (hc : c.Ok) (hv : 0 ≤ va ∧ va < 4294967296) :
    Calls Tryd.prog 12 #[iv, .agg #[.bool c.on, .bool c.tre, .bool c.afe, .int .i64 c.n, .bool c.pd0, .bool c.pd1, .int .u64 c.b0, .int .u64 c.b1, .int .u32 c.dacr, .int .u32 c.prrr, .int .u32 c.nmrr, .int .i64 c.asid], .int .u32 va] w fun e w' => ∃ v, e = .returned v ∧ Usl w.heap.size w' v (rdL M c va) ∧ Below w.heap.size w w' := by
  have b0 : Below w.heap.size w (w.alloc (.cells #[.bool c.on, .bool c.tre, .bool c.afe, .int .i64 c.n, .bool c.pd0, .bool c.pd1, .int .u64 c.b0, .int .u64 c.b1, .int .u32 c.dacr, .int .u32 c.prrr, .int .u32 c.nmrr, .int .i64 c.asid] 26)) := below_new w _
  have b1 : Below w.heap.size w ((w.alloc (.cells #[.bool c.on, .bool c.tre, .bool c.afe, .int .i64 c.n, .bool c.pd0, .bool c.pd1, .int .u64 c.b0, .int .u64 c.b1, .int .u32 c.dacr, .int .u32 c.prrr, .int .u32 c.nmrr, .int .i64 c.asid] 26)).alloc (.cells #[iv, .slice none 0 0] 85)) := Below.step b0 (below_new _ _)
  have hsz : (w.alloc (.cells #[.bool c.on, .bool c.tre, .bool c.afe, .int .i64 c.n, .bool c.pd0, .bool c.pd1, .int .u64 c.b0, .int .u64 c.b1, .int .u32 c.dacr, .int .u32 c.prrr, .int .u32 c.nmrr, .int .i64 c.asid] 26)).heap.size = w.heap.size + 1 := by simp
  have hN := Bl.new (w.alloc (.cells #[.bool c.on, .bool c.tre, .bool c.afe, .int .i64 c.n, .bool c.pd0, .bool c.pd1, .int .u64 c.b0, .int .u64 c.b1, .int .u32 c.dacr, .int .u32 c.prrr, .int .u32 c.nmrr, .int .i64 c.asid] 26)) 85 [iv, .slice none 0 0]
  rw [hsz] at hN
  have hsz2 : ((w.alloc (.cells #[.bool c.on, .bool c.tre, .bool c.afe, .int .i64 c.n, .bool c.pd0, .bool c.pd1, .int .u64 c.b0, .int .u64 c.b1, .int .u32 c.dacr, .int .u32 c.prrr, .int .u32 c.nmrr, .int .i64 c.asid] 26)).alloc (.cells #[iv, .slice none 0 0] 85)).heap.size = w.heap.size + 1 + 1 := by simp
  have hs : Tl S iv M w.heap.size (w.heap.size + 1) [] (fun b => b < w.heap.size ∨ b = w.heap.size + 1) ((w.alloc (.cells #[.bool c.on, .bool c.tre, .bool c.afe, .int .i64 c.n, .bool c.pd0, .bool c.pd1, .int .u64 c.b0, .int .u64 c.b1, .int .u32 c.dacr, .int .u32 c.prrr, .int .u32 c.nmrr, .int .i64 c.asid] 26)).alloc (.cells #[iv, .slice none 0 0] 85)) :=
    ⟨hm.below b1, fun b hb => ⟨.inl (hm.low b hb), hm.low b hb⟩, fun b hb => ⟨.inl (ht.low hb), ht.low hb⟩, fun b hb => by rw [hsz2]; omega, ht.below b1, by omega, .inr rfl, .slice none 0 0, hN, World.ownsRow_nil _ _ _ _, fun g hg => by cases hg⟩
  have HW := hidW (walk_any (asker_trail w.heap.size (w.heap.size + 1) hm.ok) c va [] _ _ hs (by simp) hc hv)
  have HB := hidW b1
  clear hs hN b0 b1
  have hiv : (∃ p : Nat, iv = .iface 30 (.pointer (some ⟨p, 0, none⟩))) ∨ iv = .nilIface := by
    rcases hm with ⟨p, _, _, h, _⟩ | h
    · exact .inl ⟨p, h⟩
    · exact .inr h.1
  clear hm
  rcases hiv with ⟨p, rfl⟩ | rfl
  all_goals
    go_enter Tryd.func12, Tryd.ntmps12
    go_wp2_with fail
    go_at_call 11
    refine HW.out.mono ?_
    rintro e wa ⟨rfl, hT, T⟩
    obtain ⟨v, h1, h2, h3⟩ := hT.row
    have HE := hidW (And.intro (Usl.own (lo := w.heap.size) h2 (by omega)) (HB.out.trans (T.to (B := w.heap.size) (fun x hx => hx.2) HB.out.size)))
    have c1 : wa.cell? ⟨w.heap.size + 1, 1, none⟩ = some v := h1.cell 1
    clear hT T h1 h2 h3 HW
    go_wp2
    go_ret
    exact ⟨_, rfl, by simpa using HE.out.1, HE.out.2⟩
end Go.Proofs.YtmodcbdgnmjkoaaDoor
namespace Go.Proofs.YtmodcbdgnmjkoaaDoor
open Go.RowKit
open Mm (Turn gr PM RM valV errV Byts setV)
set_option linter.unusedVariables false
set_option linter.unusedSimpArgs false
def alP : List Pt := [⟨16384, 20513⟩, ⟨16388, 1051662⟩, ⟨20484, 30782⟩]
def alC : Ctx := ⟨true, false, false, 2, false, false, 16384, 131072, 5, 0, 0, 0⟩
def alM : Mo := ramMo 16 (pm 16 alP 3)
theorem alC_ok : alC.Ok := ⟨by decide, by decide, by decide, by decide⟩
theorem al1 : (wk alM alC 4660).1.size = 1 ∧ (wk alM alC 4660).1.pa = 28672 ∧ (wk alM alC 4660).2.k = 0 := by decide +kernel
theorem al2 : (wk alM alC 1048576).1.size = 3 ∧ (wk alM alC 1048576).2.k = 0 := by decide +kernel
theorem al3 : (wk alM alC 8192).2.k = 5 ∧ (wk alM alC 8192).2.l = 0 ∧ (wk alM alC 8192).2.d = 1 := by decide +kernel
/-- The rows of the script in a block. -/
theorem alP_at (w : World) : PutsAt (w.alloc (.cells #[.int .u64 16384, .int .u32 20513, .int .u64 16388, .int .u32 1051662, .int .u64 20484, .int .u32 30782] 28)) (some ⟨w.heap.size, 0, none⟩) alP := by
  have h := Bl.new w 28 [.int .u64 16384, .int .u32 20513, .int .u64 16388, .int .u32 1051662, .int .u64 20484, .int .u32 30782]
  refine ⟨fun k p hp => ⟨w.heap.size, 0, rfl, h.lt, ?_, ?_⟩, fun p hp => ?_⟩
  · rw [Nat.zero_add]
    refine (h.cell (k * 2)).trans ?_
    match k, hp with
    | 0, hp => simp [alP] at hp; subst hp; rfl
    | 1, hp => simp [alP] at hp; subst hp; rfl
    | 2, hp => simp [alP] at hp; subst hp; rfl
  · rw [Nat.zero_add]
    refine (h.cell (k * 2 + 1)).trans ?_
    match k, hp with
    | 0, hp => simp [alP] at hp; subst hp; rfl
    | 1, hp => simp [alP] at hp; subst hp; rfl
    | 2, hp => simp [alP] at hp; subst hp; rfl
  · simp [alP] at hp
    rcases hp with rfl | rfl | rfl <;> decide
/-- A memory, a context's box, the tables. -/
structure AK (w wr : World) (c : Ctx) (x p N : Nat) (m : Nat → Int) : Prop where
  bel : Below w.heap.size w wr
  C : Bl wr x 26 [.bool c.on, .bool c.tre, .bool c.afe, .int .i64 c.n, .bool c.pd0, .bool c.pd1, .int .u64 c.b0, .int .u64 c.b1, .int .u32 c.dacr, .int .u32 c.prrr, .int .u32 c.nmrr, .int .i64 c.asid]
  mem : ∃ S1, PM wr S1 p N m
  tab : TW wr
theorem AK.below {w wr wn : World} {c : Ctx} {x p N : Nat} {m : Nat → Int} (h : AK w wr c x p N m) (hb : Below wr.heap.size wr wn) : AK w wn c x p N m := by
  obtain ⟨S1, h1⟩ := h.mem
  exact ⟨Below.step h.bel hb, h.C.below hb, ⟨S1, h1.keep (S' := fun _ => False) (Turn.below hb) (fun _ _ h => h)⟩, h.tab.below hb⟩
theorem AK.walk {w wr : World} {c : Ctx} {x p N : Nat} {m : Nat → Int} (h : AK w wr c x p N m) (hc : c.Ok) (va : Int) (hv : 0 ≤ va ∧ va < 4294967296) :
    Calls Tryd.prog 11 #[.iface 30 (.pointer (some ⟨p, 0, none⟩)), .agg #[.bool c.on, .bool c.tre, .bool c.afe, .int .i64 c.n, .bool c.pd0, .bool c.pd1, .int .u64 c.b0, .int .u64 c.b1, .int .u32 c.dacr, .int .u32 c.prrr, .int .u32 c.nmrr, .int .i64 c.asid], .int .u32 va] wr fun e w' => e = .returned (.tuple #[.agg #[.int .i64 ((wk (ramMo N m) c va).1).size, .int .u32 ((wk (ramMo N m) c va).1).va, .int .u64 ((wk (ramMo N m) c va).1).pa, .int .i64 ((wk (ramMo N m) c va).1).dom, .int .i64 ((wk (ramMo N m) c va).1).ap, .int .u32 ((wk (ramMo N m) c va).1).bits, .bool ((wk (ramMo N m) c va).1).ng, .bool ((wk (ramMo N m) c va).1).xn], .agg #[.int .i64 ((wk (ramMo N m) c va).2).k, .int .i64 ((wk (ramMo N m) c va).2).l, .int .i64 ((wk (ramMo N m) c va).2).d]]) ∧ Below wr.heap.size wr w' := by
  obtain ⟨S1, h1⟩ := h.mem
  exact walk_pure c va wr (.inl ⟨p, N, m, rfl, rfl, h1⟩) h.tab hc hv
set_option maxRecDepth 100000 in
set_option maxHeartbeats 8000000 in
theorem alive_any (w : World) (ht : TW w) : Calls Tryd.prog 9 #[] w fun e w' => e = .returned (.bool true) ∧ Below w.heap.size w w' := by
  have HT := hidW ht
  have HB0 := hidW (below_new w (.cells #[.int .u64 16384, .int .u32 20513, .int .u64 16388, .int .u32 1051662, .int .u64 20484, .int .u32 30782] 28))
  have HP := hidW (made_ok (w.alloc (.cells #[.int .u64 16384, .int .u32 20513, .int .u64 16388, .int .u32 1051662, .int .u64 20484, .int .u32 30782] 28)) 16 (by omega) (by omega) (some ⟨w.heap.size, 0, none⟩) 3 alP (alP_at w) (by decide))
  have k1 := hidW al1
  have k2 := hidW al2
  have k3 := hidW al3
  have HW1 := hidW (fun wr x p (h : AK w wr alC x p 16 (pm 16 alP 3)) => h.walk alC_ok 4660 (by decide))
  have HW2 := hidW (fun wr x p (h : AK w wr alC x p 16 (pm 16 alP 3)) => h.walk alC_ok 1048576 (by decide))
  have HW3 := hidW (fun wr x p (h : AK w wr alC x p 16 (pm 16 alP 3)) => h.walk alC_ok 8192 (by decide))
  unfold alM at k1 k2 k3
  generalize (wk (ramMo 16 (pm 16 alP 3)) alC 4660).1 = U1 at *
  generalize (wk (ramMo 16 (pm 16 alP 3)) alC 4660).2 = F1 at *
  generalize (wk (ramMo 16 (pm 16 alP 3)) alC 1048576).1 = U2 at *
  generalize (wk (ramMo 16 (pm 16 alP 3)) alC 1048576).2 = F2 at *
  generalize (wk (ramMo 16 (pm 16 alP 3)) alC 8192).1 = U3 at *
  generalize (wk (ramMo 16 (pm 16 alP 3)) alC 8192).2 = F3 at *
  clear ht
  go_enter Tryd.func9, Tryd.ntmps9
  go_wp2_with fail
  go_at_call 10
  refine HP.out.mono ?_
  rintro e wa ⟨p, rfl, hO⟩
  have HK : Hid (AK w (wa.alloc (.cells #[.bool true, .bool false, .bool false, .int .i64 2, .bool false, .bool false, .int .u64 16384, .int .u64 131072, .int .u32 5, .int .u32 0, .int .u32 0, .int .i64 0] 26)) alC wa.heap.size p 16 (pm 16 alP 3)) := by
    have b1 : Below w.heap.size w wa := Below.step HB0.out hO.bel
    obtain ⟨⟨S1, h1, _⟩, _⟩ := hO
    exact ⟨Below.step b1 (below_new _ _), Bl.new wa 26 [.bool true, .bool false, .bool false, .int .i64 2, .bool false, .bool false, .int .u64 16384, .int .u64 131072, .int .u32 5, .int .u32 0, .int .u32 0, .int .i64 0], ⟨S1, h1.keep (S' := fun _ => False) (Turn.below (below_new _ _)) (fun _ _ h => h)⟩, (HT.out.below b1).below (below_new _ _)⟩
  clear HP HB0 hO HT
  go_wp2_with fail
  generalize wa.alloc (.cells #[.bool true, .bool false, .bool false, .int .i64 2, .bool false, .bool false, .int .u64 16384, .int .u64 131072, .int .u32 5, .int .u32 0, .int .u32 0, .int .i64 0] 26) = wx at *
  generalize wa.heap.size = x at *
  go_at_call 11
  refine (HW1.out _ _ _ HK.out).mono ?_
  rintro e v1 ⟨rfl, hb⟩
  have HK1 := hidW ((HK.out.below hb).below (Below.step (below_new v1 (.cells #[.int .i64 U1.size, .int .u32 U1.va, .int .u64 U1.pa, .int .i64 U1.dom, .int .i64 U1.ap, .int .u32 U1.bits, .bool U1.ng, .bool U1.xn] 35)) (below_new _ (.cells #[.int .i64 F1.k, .int .i64 F1.l, .int .i64 F1.d] 37))))
  have HT1 := hidW ((Bl.new v1 35 [.int .i64 U1.size, .int .u32 U1.va, .int .u64 U1.pa, .int .i64 U1.dom, .int .i64 U1.ap, .int .u32 U1.bits, .bool U1.ng, .bool U1.xn]).below (below_new _ (.cells #[.int .i64 F1.k, .int .i64 F1.l, .int .i64 F1.d] 37)))
  have HF1 := hidW (Bl.new1 v1 (.cells #[.int .i64 U1.size, .int .u32 U1.va, .int .u64 U1.pa, .int .i64 U1.dom, .int .i64 U1.ap, .int .u32 U1.bits, .bool U1.ng, .bool U1.xn] 35) 37 [.int .i64 F1.k, .int .i64 F1.l, .int .i64 F1.d])
  clear hb HK HW1
  have cx := HK1.out.C.cell
  go_wp2_with fail
  generalize (v1.alloc (.cells #[.int .i64 U1.size, .int .u32 U1.va, .int .u64 U1.pa, .int .i64 U1.dom, .int .i64 U1.ap, .int .u32 U1.bits, .bool U1.ng, .bool U1.xn] 35)).alloc (.cells #[.int .i64 F1.k, .int .i64 F1.l, .int .i64 F1.d] 37) = y1 at *
  clear cx
  go_at_call 11
  refine (HW2.out _ _ _ HK1.out).mono ?_
  rintro e v2 ⟨rfl, hb⟩
  have HK2 := hidW ((HK1.out.below hb).below (Below.step (below_new v2 (.cells #[.int .i64 U2.size, .int .u32 U2.va, .int .u64 U2.pa, .int .i64 U2.dom, .int .i64 U2.ap, .int .u32 U2.bits, .bool U2.ng, .bool U2.xn] 35)) (below_new _ (.cells #[.int .i64 F2.k, .int .i64 F2.l, .int .i64 F2.d] 37))))
  have HT2 := hidW ((Bl.new v2 35 [.int .i64 U2.size, .int .u32 U2.va, .int .u64 U2.pa, .int .i64 U2.dom, .int .i64 U2.ap, .int .u32 U2.bits, .bool U2.ng, .bool U2.xn]).below (below_new _ (.cells #[.int .i64 F2.k, .int .i64 F2.l, .int .i64 F2.d] 37)))
  have HF2 := hidW (Bl.new1 v2 (.cells #[.int .i64 U2.size, .int .u32 U2.va, .int .u64 U2.pa, .int .i64 U2.dom, .int .i64 U2.ap, .int .u32 U2.bits, .bool U2.ng, .bool U2.xn] 35) 37 [.int .i64 F2.k, .int .i64 F2.l, .int .i64 F2.d])
  have HT1_2 := hidW ((HT1.out.below hb).below (Below.step (below_new v2 (.cells #[.int .i64 U2.size, .int .u32 U2.va, .int .u64 U2.pa, .int .i64 U2.dom, .int .i64 U2.ap, .int .u32 U2.bits, .bool U2.ng, .bool U2.xn] 35)) (below_new _ (.cells #[.int .i64 F2.k, .int .i64 F2.l, .int .i64 F2.d] 37))))
  have HF1_2 := hidW ((HF1.out.below hb).below (Below.step (below_new v2 (.cells #[.int .i64 U2.size, .int .u32 U2.va, .int .u64 U2.pa, .int .i64 U2.dom, .int .i64 U2.ap, .int .u32 U2.bits, .bool U2.ng, .bool U2.xn] 35)) (below_new _ (.cells #[.int .i64 F2.k, .int .i64 F2.l, .int .i64 F2.d] 37))))
  clear hb HK1 HW2 HT1 HF1
  have cx := HK2.out.C.cell
  go_wp2_with fail
  generalize (v2.alloc (.cells #[.int .i64 U2.size, .int .u32 U2.va, .int .u64 U2.pa, .int .i64 U2.dom, .int .i64 U2.ap, .int .u32 U2.bits, .bool U2.ng, .bool U2.xn] 35)).alloc (.cells #[.int .i64 F2.k, .int .i64 F2.l, .int .i64 F2.d] 37) = y2 at *
  clear cx
  go_at_call 11
  refine (HW3.out _ _ _ HK2.out).mono ?_
  rintro e v3 ⟨rfl, hb⟩
  have HK3 := hidW ((HK2.out.below hb).below (Below.step (below_new v3 (.cells #[.int .i64 U3.size, .int .u32 U3.va, .int .u64 U3.pa, .int .i64 U3.dom, .int .i64 U3.ap, .int .u32 U3.bits, .bool U3.ng, .bool U3.xn] 35)) (below_new _ (.cells #[.int .i64 F3.k, .int .i64 F3.l, .int .i64 F3.d] 37))))
  have HT3 := hidW ((Bl.new v3 35 [.int .i64 U3.size, .int .u32 U3.va, .int .u64 U3.pa, .int .i64 U3.dom, .int .i64 U3.ap, .int .u32 U3.bits, .bool U3.ng, .bool U3.xn]).below (below_new _ (.cells #[.int .i64 F3.k, .int .i64 F3.l, .int .i64 F3.d] 37)))
  have HF3 := hidW (Bl.new1 v3 (.cells #[.int .i64 U3.size, .int .u32 U3.va, .int .u64 U3.pa, .int .i64 U3.dom, .int .i64 U3.ap, .int .u32 U3.bits, .bool U3.ng, .bool U3.xn] 35) 37 [.int .i64 F3.k, .int .i64 F3.l, .int .i64 F3.d])
  have HT1_3 := hidW ((HT1_2.out.below hb).below (Below.step (below_new v3 (.cells #[.int .i64 U3.size, .int .u32 U3.va, .int .u64 U3.pa, .int .i64 U3.dom, .int .i64 U3.ap, .int .u32 U3.bits, .bool U3.ng, .bool U3.xn] 35)) (below_new _ (.cells #[.int .i64 F3.k, .int .i64 F3.l, .int .i64 F3.d] 37))))
  have HF1_3 := hidW ((HF1_2.out.below hb).below (Below.step (below_new v3 (.cells #[.int .i64 U3.size, .int .u32 U3.va, .int .u64 U3.pa, .int .i64 U3.dom, .int .i64 U3.ap, .int .u32 U3.bits, .bool U3.ng, .bool U3.xn] 35)) (below_new _ (.cells #[.int .i64 F3.k, .int .i64 F3.l, .int .i64 F3.d] 37))))
  have HT2_3 := hidW ((HT2.out.below hb).below (Below.step (below_new v3 (.cells #[.int .i64 U3.size, .int .u32 U3.va, .int .u64 U3.pa, .int .i64 U3.dom, .int .i64 U3.ap, .int .u32 U3.bits, .bool U3.ng, .bool U3.xn] 35)) (below_new _ (.cells #[.int .i64 F3.k, .int .i64 F3.l, .int .i64 F3.d] 37))))
  have HF2_3 := hidW ((HF2.out.below hb).below (Below.step (below_new v3 (.cells #[.int .i64 U3.size, .int .u32 U3.va, .int .u64 U3.pa, .int .i64 U3.dom, .int .i64 U3.ap, .int .u32 U3.bits, .bool U3.ng, .bool U3.xn] 35)) (below_new _ (.cells #[.int .i64 F3.k, .int .i64 F3.l, .int .i64 F3.d] 37))))
  clear hb HK2 HW3 HT1_2 HF1_2 HT2 HF2
  have c0 := HT1_3.out.cell
  have c1 := HF1_3.out.cell
  have c2 := HT2_3.out.cell
  have c3 := HF2_3.out.cell
  have c4 := HT3.out.cell
  have c5 := HF3.out.cell
  obtain ⟨k1a, k1b, k1c⟩ := k1.out
  obtain ⟨k2a, k2b⟩ := k2.out
  obtain ⟨k3a, k3b, k3c⟩ := k3.out
  have q1 : (U1.size == 1) = true := by rw [k1a]; rfl
  have q2 : (U1.pa == 28672) = true := by rw [k1b]; rfl
  have q3 : (F1.k == 0) = true := by rw [k1c]; rfl
  have q4 : (U2.size == 3) = true := by rw [k2a]; rfl
  have q5 : (F2.k == 0) = true := by rw [k2b]; rfl
  have q6 : ∀ w, (Op.equalIn 10000 37 (.agg #[.int .i64 F3.k, .int .i64 F3.l, .int .i64 F3.d]) (.agg #[.int .i64 5, .int .i64 0, .int .i64 1])).run Tryd.prog w = .ok true w := by
    intro w
    have h := eqF F3 ⟨5, 0, 1⟩ w
    rw [show F3.same ⟨5, 0, 1⟩ = true by unfold Fa.same; rw [k3a, k3b, k3c]; rfl] at h
    exact h
  clear k1a k1b k1c k2a k2b k3a k3b k3c k1 k2 k3
  have HE := hidW HK3.out.bel
  go_wp2
  go_ret
  exact ⟨rfl, HE.out⟩
end Go.Proofs.YtmodcbdgnmjkoaaDoor
namespace Go.Proofs.YtmodcbdgnmjkoaaDoor
open Go.RowKit
open Mm (Turn gr PM RM valV errV Byts setV)
set_option linter.unusedVariables false
set_option linter.unusedSimpArgs false
theorem not20 (va : Int) (h : 0 ≤ va ∧ va < 4294967296) : bits .andNot .u32 va 1048575 = va / 1048576 * 1048576 := by
  obtain ⟨v, rfl⟩ := Int.eq_ofNat_of_zero_le h.1
  rw [show (1048575 : Int) = ((1048575 : Nat) : Int) from rfl, u32_andNot_nat v 1048575 (by omega) (by omega)]
  have e : v &&& (4294967295 - 1048575) = v / 1048576 * 1048576 := by
    have h1 : (4294967295 - 1048575 : Nat) = 4095 * 2 ^ 20 := by decide
    have h2 : v = v / 1048576 * 2 ^ 20 + v % 1048576 := by omega
    apply Nat.eq_of_testBit_eq
    intro i
    rw [h1, Nat.testBit_and, Nat.testBit_mul_two_pow, show v / 1048576 * 1048576 = (v / 1048576) * 2 ^ 20 by omega, Nat.testBit_mul_two_pow]
    by_cases hi : 20 ≤ i
    · simp only [hi, decide_true, Bool.true_and]
      rw [show v / 1048576 = v / 2 ^ 20 by rfl, Nat.testBit_div_two_pow, show i - 20 + 20 = i by omega]
      by_cases h3 : i < 32
      · have : Nat.testBit 4095 (i - 20) = true := by
          rw [show (4095 : Nat) = 2 ^ 12 - 1 by decide, Nat.testBit_two_pow_sub_one]
          simp; omega
        rw [this, Bool.and_true]
      · have : v.testBit i = false := Nat.testBit_lt_two_pow (Nat.lt_of_lt_of_le (show v < 2 ^ 32 by omega) (Nat.pow_le_pow_right (by omega) (by omega)))
        rw [this]; simp
    · simp [hi]
  rw [e]
  omega
/-- A memory that is edited; boxes that are no part of it. -/
structure EK (W wr : World) (S : Nat → Prop) (c : Ctx) (q : Pt) (x y p N : Nat) (m : Nat → Int) : Prop where
  pm : PM wr S p N m
  lo : ∀ b, S b → W.heap.size ≤ b
  tl : ∀ b, tbl b → b < W.heap.size
  bel : Below W.heap.size W wr
  C : Bx wr S x 26 [.bool c.on, .bool c.tre, .bool c.afe, .int .i64 c.n, .bool c.pd0, .bool c.pd1, .int .u64 c.b0, .int .u64 c.b1, .int .u32 c.dacr, .int .u32 c.prrr, .int .u32 c.nmrr, .int .i64 c.asid]
  Q : Bx wr S y 28 [.int .u64 q.pa, .int .u32 q.w]
  tab : TW wr
section
variable {W wr wn : World} {S : Nat → Prop} {c : Ctx} {q : Pt} {x y p N : Nat} {m : Nat → Int}
theorem EK.below (h : EK W wr S c q x y p N m) (hb : Below wr.heap.size wr wn) : EK W wn S c q x y p N m :=
  ⟨h.pm.keep (S' := fun _ => False) (Turn.below hb) (fun _ _ h => h), h.lo, h.tl, Below.step h.bel hb, h.C.below hb, h.Q.below hb, h.tab.below hb⟩
theorem Bx.turn {b : Nat} {t : TypeId} {l : List Value} (h : Bx wr S b t l) (T : Turn S wr wn) : Bx wn (gr S wr wn) b t l :=
  Bx.call (H := 0) h (T.mono (fun x _ hx => ⟨hx, Nat.zero_le _⟩))
theorem EK.put (h : EK W wr S c q x y p N m) (a v : Int) (ha : 0 ≤ a ∧ a < 18446744073709551616) (hv : 0 ≤ v ∧ v < 4294967296) :
    Calls Tryd.prog 13 #[.pointer (some ⟨p, 0, none⟩), .int .u64 a, .int .u32 v] wr fun e w1 => e = .returned (.int .i64 (errV N a 4)) ∧ EK W w1 (gr S wr w1) c q x y p N (putM N m a v) ∧ Turn S wr w1 := by
  have hc := Mm.setWord_any wr S p N m a.toNat v h.pm (by omega) hv.1 hv.2
  rw [Int.toNat_of_nonneg ha.1] at hc
  refine hc.mono ?_
  rintro e w1 ⟨rfl, g1, T1⟩
  have b1 : Below W.heap.size W w1 := h.bel.trans (T1.to h.lo h.bel.size)
  refine ⟨rfl, ⟨g1, ?_, h.tl, b1, h.C.turn T1, h.Q.turn T1, h.tab.turn T1 (fun b hb hs => by have := h.tl b hb; have := h.lo b hs; omega)⟩, T1⟩
  rintro b (hb | ⟨hb, _⟩)
  · exact h.lo b hb
  · have := h.bel.size; omega
theorem EK.walk (h : EK W wr S c q x y p N m) (hc : c.Ok) (va : Int) (hv : 0 ≤ va ∧ va < 4294967296) :
    Calls Tryd.prog 11 #[.iface 30 (.pointer (some ⟨p, 0, none⟩)), .agg #[.bool c.on, .bool c.tre, .bool c.afe, .int .i64 c.n, .bool c.pd0, .bool c.pd1, .int .u64 c.b0, .int .u64 c.b1, .int .u32 c.dacr, .int .u32 c.prrr, .int .u32 c.nmrr, .int .i64 c.asid], .int .u32 va] wr fun e w' => e = .returned (.tuple #[.agg #[.int .i64 ((wk (ramMo N m) c va).1).size, .int .u32 ((wk (ramMo N m) c va).1).va, .int .u64 ((wk (ramMo N m) c va).1).pa, .int .i64 ((wk (ramMo N m) c va).1).dom, .int .i64 ((wk (ramMo N m) c va).1).ap, .int .u32 ((wk (ramMo N m) c va).1).bits, .bool ((wk (ramMo N m) c va).1).ng, .bool ((wk (ramMo N m) c va).1).xn], .agg #[.int .i64 ((wk (ramMo N m) c va).2).k, .int .i64 ((wk (ramMo N m) c va).2).l, .int .i64 ((wk (ramMo N m) c va).2).d]]) ∧ Below wr.heap.size wr w' :=
  walk_pure c va wr (.inl ⟨p, N, m, rfl, rfl, h.pm⟩) h.tab hc hv
theorem EK.reads (h : EK W wr S c q x y p N m) (hc : c.Ok) (va : Int) (hv : 0 ≤ va ∧ va < 4294967296) :
    Calls Tryd.prog 12 #[.iface 30 (.pointer (some ⟨p, 0, none⟩)), .agg #[.bool c.on, .bool c.tre, .bool c.afe, .int .i64 c.n, .bool c.pd0, .bool c.pd1, .int .u64 c.b0, .int .u64 c.b1, .int .u32 c.dacr, .int .u32 c.prrr, .int .u32 c.nmrr, .int .i64 c.asid], .int .u32 va] wr fun e w' => ∃ v, e = .returned v ∧ Usl wr.heap.size w' v (rdL (ramMo N m) c va) ∧ Below wr.heap.size wr w' :=
  reads_own c va wr (.inl ⟨p, N, m, rfl, rfl, h.pm⟩) h.tab hc hv
end
set_option maxRecDepth 100000 in
set_option maxHeartbeats 4000000 in
theorem section_any {W wr : World} {S : Nat → Prop} {c : Ctx} {q : Pt} {x y p N : Nat} {m : Nat → Int} (h : EK W wr S c q x y p N m) (hc : c.Ok) (va : Int) (hv : 0 ≤ va ∧ va < 4294967296) (hw : wk (ramMo N m) c va = (⟨3, va / 1048576 * 1048576, 0, 0, 3, 0, false, false⟩, fZ)) :
    Calls Tryd.prog 14 #[.pointer (some ⟨p, 0, none⟩), .agg #[.bool c.on, .bool c.tre, .bool c.afe, .int .i64 c.n, .bool c.pd0, .bool c.pd1, .int .u64 c.b0, .int .u64 c.b1, .int .u32 c.dacr, .int .u32 c.prrr, .int .u32 c.nmrr, .int .i64 c.asid], .int .u32 va] wr fun e w' => e = .returned (.bool true) ∧ Below wr.heap.size wr w' := by
  have HB := hidW (below_new wr (.cells #[.bool c.on, .bool c.tre, .bool c.afe, .int .i64 c.n, .bool c.pd0, .bool c.pd1, .int .u64 c.b0, .int .u64 c.b1, .int .u32 c.dacr, .int .u32 c.prrr, .int .u32 c.nmrr, .int .i64 c.asid] 26))
  have HC := hidW ((h.below (below_new wr (.cells #[.bool c.on, .bool c.tre, .bool c.afe, .int .i64 c.n, .bool c.pd0, .bool c.pd1, .int .u64 c.b0, .int .u64 c.b1, .int .u32 c.dacr, .int .u32 c.prrr, .int .u32 c.nmrr, .int .i64 c.asid] 26))).walk hc va hv)
  rw [hw] at HC
  have hn := not20 va hv
  have eq : ∀ w, (Op.equalIn 10000 35 (.agg #[.int .i64 3, .int .u32 (va / 1048576 * 1048576), .int .u64 0, .int .i64 0, .int .i64 3, .int .u32 0, .bool false, .bool false]) (.agg #[.int .i64 3, .int .u32 (va / 1048576 * 1048576), .int .u64 0, .int .i64 0, .int .i64 3, .int .u32 0, .bool false, .bool false])).run Tryd.prog w = .ok true w := by
    intro w
    have h := eqT ⟨3, va / 1048576 * 1048576, 0, 0, 3, 0, false, false⟩ ⟨3, va / 1048576 * 1048576, 0, 0, 3, 0, false, false⟩ w
    rw [Tra.same_self] at h
    exact h
  clear h hw
  go_enter Tryd.func14, Tryd.ntmps14
  go_wp2_with fail
  go_at_call 11
  refine HC.out.mono ?_
  rintro e w1 ⟨rfl, hb⟩
  have HE := hidW (Below.step (Below.step HB.out hb) (Below.step (below_new w1 (.cells #[.int .i64 3, .int .u32 (va / 1048576 * 1048576), .int .u64 0, .int .i64 0, .int .i64 3, .int .u32 0, .bool false, .bool false] 35)) (below_new _ (.cells #[.int .i64 0, .int .i64 0, .int .i64 0] 37))))
  clear hb HB HC
  simp only [fZ]
  go_wp2
  go_ret
  exact ⟨rfl, HE.out⟩
end Go.Proofs.YtmodcbdgnmjkoaaDoor
namespace Go.Proofs.YtmodcbdgnmjkoaaDoor
open Go.RowKit
open Mm (Turn gr PM RM valV errV Byts setV)
set_option linter.unusedVariables false
set_option linter.unusedSimpArgs false
theorem PutsAt.below {W W' : World} {a : Option Addr} {ps : List Pt} (h : PutsAt W a ps) (hb : Below W.heap.size W W') : PutsAt W' a ps :=
  ⟨fun k q hq => by
    obtain ⟨b, off, e, hl, e0, e1⟩ := h.lies k q hq
    exact ⟨b, off, e, Nat.lt_of_lt_of_le hl hb.size, (hb.cell hl).trans e0, (hb.cell hl).trans e1⟩, h.oks⟩
theorem rdL_len2 (M : Mo) (c : Ctx) (va : Int) : (rdL M c va).length ≤ 2 := by
  have hr1 : (r1 c va).length ≤ 1 := by unfold r1; split <;> simp
  unfold rdL
  split
  · split
    · rw [List.length_append]; simp; omega
    · omega
  · simp
theorem EK.new {W w1 w2 : World} {c : Ctx} {q : Pt} {p N : Nat} {m : Nat → Int} (hT : TW W) (hb : Below ((W.alloc (.cells #[.bool c.on, .bool c.tre, .bool c.afe, .int .i64 c.n, .bool c.pd0, .bool c.pd1, .int .u64 c.b0, .int .u64 c.b1, .int .u32 c.dacr, .int .u32 c.prrr, .int .u32 c.nmrr, .int .i64 c.asid] 26)).alloc (.cells #[.int .u64 q.pa, .int .u32 q.w] 28)).heap.size ((W.alloc (.cells #[.bool c.on, .bool c.tre, .bool c.afe, .int .i64 c.n, .bool c.pd0, .bool c.pd1, .int .u64 c.b0, .int .u64 c.b1, .int .u32 c.dacr, .int .u32 c.prrr, .int .u32 c.nmrr, .int .i64 c.asid] 26)).alloc (.cells #[.int .u64 q.pa, .int .u32 q.w] 28)) w1) (h : One w1 w2 p N m) :
    ∃ S, EK W w2 S c q W.heap.size (W.heap.size + 1) p N m := by
  obtain ⟨⟨S1, h1, h4⟩, h6⟩ := h
  have b0 : Below W.heap.size W ((W.alloc (.cells #[.bool c.on, .bool c.tre, .bool c.afe, .int .i64 c.n, .bool c.pd0, .bool c.pd1, .int .u64 c.b0, .int .u64 c.b1, .int .u32 c.dacr, .int .u32 c.prrr, .int .u32 c.nmrr, .int .i64 c.asid] 26)).alloc (.cells #[.int .u64 q.pa, .int .u32 q.w] 28)) := Below.step (below_new _ _) (below_new _ _)
  have b1 : Below W.heap.size W w1 := Below.step b0 hb
  have hs : ((W.alloc (.cells #[.bool c.on, .bool c.tre, .bool c.afe, .int .i64 c.n, .bool c.pd0, .bool c.pd1, .int .u64 c.b0, .int .u64 c.b1, .int .u32 c.dacr, .int .u32 c.prrr, .int .u32 c.nmrr, .int .i64 c.asid] 26)).alloc (.cells #[.int .u64 q.pa, .int .u32 q.w] 28)).heap.size = W.heap.size + 1 + 1 := by simp
  have hz := hb.size
  rw [hs] at hz
  refine ⟨S1, ⟨h1, fun b hb' => ?_, fun b hb' => hT.low hb', Below.step b1 h6, ⟨?_, ?_⟩, ⟨?_, ?_⟩, (hT.below b1).below h6⟩⟩
  · have := h4 b hb'; omega
  · exact (((Bl.new W 26 [.bool c.on, .bool c.tre, .bool c.afe, .int .i64 c.n, .bool c.pd0, .bool c.pd1, .int .u64 c.b0, .int .u64 c.b1, .int .u32 c.dacr, .int .u32 c.prrr, .int .u32 c.nmrr, .int .i64 c.asid]).below (below_new _ _)).below hb).below h6
  · intro hx; have := h4 _ hx; omega
  · exact ((Bl.new1 W _ 28 [.int .u64 q.pa, .int .u32 q.w]).below hb).below h6
  · intro hx; have := h4 _ hx; omega
theorem edit_tail {N : Nat} {m : Nat → Int} {c : Ctx} {va : Int} (hB : Byts m) (hc : c.Ok) (hv : 0 ≤ va ∧ va < 4294967296) (hon : c.on = true) (hO : fO c va = true) :
    (rdL (ramMo N m) c va = [fA c va] ∧ (errV N (fA c va) 4 = 0 → wk (ramMo N (putM N m (fA c va) 0)) c va = (tZ, ⟨3, 0, 0⟩) ∧ wk (ramMo N (putM N (putM N m (fA c va) 0) (fA c va) 3074)) c va = (⟨3, va / 1048576 * 1048576, 0, 0, 3, 0, false, false⟩, fZ))) ∨
    ∃ s, rdL (ramMo N m) c va = [fA c va, s] ∧ (0 ≤ s ∧ s < 18446744073709551616) ∧ errV N (fA c va) 4 = 0 ∧ (errV N s 4 = 0 → wk (ramMo N (putM N (putM N m s 0) (fA c va) 3074)) c va = (⟨3, va / 1048576 * 1048576, 0, 0, 3, 0, false, false⟩, fZ) ∧
      ((fA c va = s ∧ wk (ramMo N (putM N m s 0)) c va = (tZ, ⟨3, 0, 0⟩)) ∨ (fA c va ≠ s ∧ ∃ d, wk (ramMo N (putM N m s 0)) c va = (tZ, ⟨5, 0, d⟩)))) := by
  have hf := (fA_rng c va hc hv).1
  have hr1 : r1 c va = [fA c va] := by simp [r1, hO]
  by_cases hk : (w1 (ramMo N m) c va).2.k = 0 ∧ (w1 (ramMo N m) c va).1.kind = 1
  · right
    obtain ⟨ho, hef, hw, hz⟩ := w1_kind hk.1
    have hk1 : (D1 ((ramMo N m).wd (fA c va))).kind = 1 := by have := hk.2; rw [hw] at this; exact this
    have hs := sA_rng (ramMo_ok (N := N) hB (fA c va)) hk1 hv.1
    have hsa : sA (w1 (ramMo N m) c va).1 va = sA (D1 ((ramMo N m).wd (fA c va))) va := by rw [hw]
    rw [← hsa] at hs
    refine ⟨sA (w1 (ramMo N m) c va).1 va, ?_, ⟨hs.1, by omega⟩, hef, fun he => ⟨edit_sec hon hO hf hef, ?_⟩⟩
    · unfold rdL
      rw [if_pos hon, if_pos hk, hr1]
      rfl
    · by_cases hfs : fA c va = sA (w1 (ramMo N m) c va).1 va
      · refine .inl ⟨hfs, ?_⟩
        rw [← hfs]
        exact edit_zero1 hon hO hf hef
      · exact .inr ⟨hfs, edit_zero2 hB hc hv hon hk.1 hk.2 hfs he⟩
  · left
    refine ⟨?_, fun he => ⟨edit_zero1 hon hO hf he, edit_sec hon hO hf he⟩⟩
    unfold rdL
    rw [if_pos hon, if_neg hk, hr1]
set_option maxRecDepth 100000 in
theorem law_edit_bad (W : World) (ht : TW W) (f : Int) (hf : f < 1 ∨ 65536 < f) (s : Value) (c : Ctx) (va : Int) (q : Pt) :
    Calls Tryd.prog 3 #[.int .i64 f, s, .agg #[.bool c.on, .bool c.tre, .bool c.afe, .int .i64 c.n, .bool c.pd0, .bool c.pd1, .int .u64 c.b0, .int .u64 c.b1, .int .u32 c.dacr, .int .u32 c.prrr, .int .u32 c.nmrr, .int .i64 c.asid], .int .u32 va, .agg #[.int .u64 q.pa, .int .u32 q.w]] W fun e W' => e = .returned (.bool true) ∧ Below W.heap.size W W' := by
  have HB0 := hidW (Below.step (below_new W (.cells #[.bool c.on, .bool c.tre, .bool c.afe, .int .i64 c.n, .bool c.pd0, .bool c.pd1, .int .u64 c.b0, .int .u64 c.b1, .int .u32 c.dacr, .int .u32 c.prrr, .int .u32 c.nmrr, .int .i64 c.asid] 26)) (below_new _ (.cells #[.int .u64 q.pa, .int .u32 q.w] 28)))
  have HA := hidW (alive_any _ (ht.below HB0.out))
  have HM := hidW (fun ww => made_bad ww f s hf)
  have hq : ((decide (f < 1)) || (decide (65536 < f))) = true := by rcases hf with h | h <;> simp [h]
  have hd : decide (f < 1) = true ∨ (decide (f < 1) = false ∧ decide (65536 < f) = true) := by
    by_cases h : f < 1
    · exact .inl (by simp [h])
    · exact .inr ⟨by simp [h], by simp; omega⟩
  clear hf ht hq
  rcases hd with h1 | ⟨h1, h2⟩
  all_goals
    go_enter Tryd.func3, Tryd.ntmps3
    go_wp2_with fail
    go_at_call 9
    refine HA.out.mono ?_
    rintro e w1 ⟨rfl, hb⟩
    have HE := hidW (Below.step HB0.out hb)
    clear hb HA HB0
    go_wp2_with fail
    go_at_call 10
    refine (HM.out _).mono ?_
    rintro e w2 ⟨rfl, rfl⟩
    clear HM
    go_wp2
    go_ret
    exact ⟨rfl, HE.out⟩
set_option maxRecDepth 100000 in
set_option maxHeartbeats 8000000 in
theorem law_edit_core (W : World) (N : Nat) (h1 : 1 ≤ N) (h2 : N ≤ 65536) (a : Option Addr) (cap : Nat) (ps : List Pt) (hp : PutsAt W a ps) (hl : ps.length ≤ 9223372036854775807) (c : Ctx) (hc : c.Ok) (va : Int) (hv : 0 ≤ va ∧ va < 4294967296) (q : Pt) (hq : (0 ≤ q.pa ∧ q.pa < 18446744073709551616) ∧ 0 ≤ q.w ∧ q.w < 4294967296) (ht : TW W) :
    Calls Tryd.prog 3 #[.int .i64 N, .slice a ps.length cap, .agg #[.bool c.on, .bool c.tre, .bool c.afe, .int .i64 c.n, .bool c.pd0, .bool c.pd1, .int .u64 c.b0, .int .u64 c.b1, .int .u32 c.dacr, .int .u32 c.prrr, .int .u32 c.nmrr, .int .i64 c.asid], .int .u32 va, .agg #[.int .u64 q.pa, .int .u32 q.w]] W fun e W' => e = .returned (.bool true) ∧ Below W.heap.size W W' := by
  have HB0 := hidW (Below.step (below_new W (.cells #[.bool c.on, .bool c.tre, .bool c.afe, .int .i64 c.n, .bool c.pd0, .bool c.pd1, .int .u64 c.b0, .int .u64 c.b1, .int .u32 c.dacr, .int .u32 c.prrr, .int .u32 c.nmrr, .int .i64 c.asid] 26)) (below_new _ (.cells #[.int .u64 q.pa, .int .u32 q.w] 28)))
  have HA := hidW (alive_any _ (ht.below HB0.out))
  have HS := hidW hp
  have HT := hidW ht
  clear hp ht
  go_enter Tryd.func3, Tryd.ntmps3
  go_wp2_with fail
  go_at_call 9
  refine HA.out.mono ?_
  rintro e wa ⟨rfl, hb⟩
  have HM := hidW (made_ok wa N h1 h2 a cap ps (HS.out.below (Below.step HB0.out hb)) hl)
  have HN := hidW (fun w2 p (h : One wa w2 p N (pm N ps ps.length)) => EK.new (W := W) (c := c) (q := q) HT.out hb h)
  clear hb HA HB0 HS HT
  go_wp2_with fail
  go_at_call 10
  refine HM.out.mono ?_
  rintro e wb ⟨p, rfl, hO⟩
  obtain ⟨S, hK⟩ := HN.out wb p hO
  have HK := hidW hK
  clear HM HN hO hK
  generalize pm N ps ps.length = m at *
  generalize hx : W.heap.size = x at *
  generalize hy : x + 1 = y at *
  have hB : Byts m := HK.out.pm.byts
  have c0 := HK.out.C.bl.cell
  have HC := hidW (HK.out.walk hc va hv)
  have hlow : ∀ b, S b → b < wb.heap.size := HK.out.pm.low
  have HL := hidW hlow
  clear hlow
  generalize hwk : wk (ramMo N m) c va = R at *
  obtain ⟨U, F⟩ := R
  have HWK := hidW hwk
  clear hwk
  go_wp2_with fail
  go_at_call 11
  refine HC.out.mono ?_
  rintro e v1 ⟨rfl, hb⟩
  have hb' := Below.step hb (Below.step (below_new v1 (.cells #[.int .i64 U.size, .int .u32 U.va, .int .u64 U.pa, .int .i64 U.dom, .int .i64 U.ap, .int .u32 U.bits, .bool U.ng, .bool U.xn] 35)) (below_new _ (.cells #[.int .i64 F.k, .int .i64 F.l, .int .i64 F.d] 37)))
  have HK1 := hidW (HK.out.below hb')
  have HBT : Hid (Bx ((v1.alloc (.cells #[.int .i64 U.size, .int .u32 U.va, .int .u64 U.pa, .int .i64 U.dom, .int .i64 U.ap, .int .u32 U.bits, .bool U.ng, .bool U.xn] 35)).alloc (.cells #[.int .i64 F.k, .int .i64 F.l, .int .i64 F.d] 37)) S v1.heap.size 35 [.int .i64 U.size, .int .u32 U.va, .int .u64 U.pa, .int .i64 U.dom, .int .i64 U.ap, .int .u32 U.bits, .bool U.ng, .bool U.xn]) := ⟨(Bl.new v1 35 [.int .i64 U.size, .int .u32 U.va, .int .u64 U.pa, .int .i64 U.dom, .int .i64 U.ap, .int .u32 U.bits, .bool U.ng, .bool U.xn]).below (below_new _ _), fun hs => by have := HL.out _ hs; have := hb.size; omega⟩
  have HBF : Hid (Bx ((v1.alloc (.cells #[.int .i64 U.size, .int .u32 U.va, .int .u64 U.pa, .int .i64 U.dom, .int .i64 U.ap, .int .u32 U.bits, .bool U.ng, .bool U.xn] 35)).alloc (.cells #[.int .i64 F.k, .int .i64 F.l, .int .i64 F.d] 37)) S (v1.heap.size + 1) 37 [.int .i64 F.k, .int .i64 F.l, .int .i64 F.d]) := ⟨Bl.new1 v1 _ 37 [.int .i64 F.k, .int .i64 F.l, .int .i64 F.d], fun hs => by have := HL.out _ hs; have := hb.size; omega⟩
  clear hb hb' HK HC c0 HL
  have c0 := HK1.out.C.bl.cell
  go_wp2_with fail
  generalize (v1.alloc (.cells #[.int .i64 U.size, .int .u32 U.va, .int .u64 U.pa, .int .i64 U.dom, .int .i64 U.ap, .int .u32 U.bits, .bool U.ng, .bool U.xn] 35)).alloc (.cells #[.int .i64 F.k, .int .i64 F.l, .int .i64 F.d] 37) = w2 at *
  generalize v1.heap.size + 1 = b2 at *
  generalize v1.heap.size = b1 at *
  have HL := hidW (HK1.out.pm.low)
  go_at_call 12
  refine (HK1.out.reads hc va hv).mono ?_
  rintro e w3 ⟨lv, rfl, hu, hb⟩
  have HU := hidW hu
  have HK2 := hidW (HK1.out.below hb)
  have HBT2 := hidW (HBT.out.below hb)
  have HBF2 := hidW (HBF.out.below hb)
  clear hb hu HK1 HBT HBF c0
  have HM2 := hidW (rdL_nn (ramMo_ok (N := N) hB) hc hv)
  have HKE := hidW (fun hn => edit_keep (N := N) (m := m) (a := q.pa) (v := q.w) hB hq.1.1 hc hv hn)
  have hlen := rdL_len2 (ramMo N m) c va
  have HOFF := hidW (fun h => rdL_off (M := ramMo N m) (c := c) (va := va) h)
  have HNON := hidW (fun h => rdL_none (M := ramMo N m) (c := c) (va := va) h)
  generalize rdL (ramMo N m) c va = l at *
  generalize w2.heap.size = lo at *
  have c0 := HK2.out.Q.bl.cell
  have HC := hidW (HK2.out.put q.pa q.w hq.1 hq.2)
  obtain ⟨la, lcap, rfl, hla⟩ := HU.out
  clear hla
  go_wp2_with fail
  go_at_call 13
  refine HC.out.mono ?_
  rintro e w4 ⟨rfl, hk3, T⟩
  have HK3 := hidW hk3
  have HU3 := hidW (HU.out.turn T HL.out)
  have HBT3 := hidW (HBT2.out.turn T)
  have HBF3 := hidW (HBF2.out.turn T)
  clear hk3 T HK2 HBT2 HBF2 HU HC c0 HL
  generalize gr S w3 w4 = S2 at *
  have hB2 : Byts (putM N m q.pa q.w) := HK3.out.pm.byts
  generalize putM N m q.pa q.w = m2 at *
  have c0 := HK3.out.C.bl.cell
  have HC := hidW (HK3.out.walk hc va hv)
  have HL := hidW (HK3.out.pm.low)
  generalize hwk2 : wk (ramMo N m2) c va = R2 at *
  obtain ⟨U2, F2⟩ := R2
  have HWK2 := hidW hwk2
  clear hwk2
  go_wp2_with fail
  go_at_call 11
  refine HC.out.mono ?_
  rintro e v5 ⟨rfl, hb⟩
  have hb' := Below.step hb (Below.step (below_new v5 (.cells #[.int .i64 U2.size, .int .u32 U2.va, .int .u64 U2.pa, .int .i64 U2.dom, .int .i64 U2.ap, .int .u32 U2.bits, .bool U2.ng, .bool U2.xn] 35)) (below_new _ (.cells #[.int .i64 F2.k, .int .i64 F2.l, .int .i64 F2.d] 37)))
  have HK4 := hidW (HK3.out.below hb')
  have HU4 := hidW (HU3.out.below hb')
  have HBT4 := hidW (HBT3.out.below hb')
  have HBF4 := hidW (HBF3.out.below hb')
  have HCT : Hid (Bx ((v5.alloc (.cells #[.int .i64 U2.size, .int .u32 U2.va, .int .u64 U2.pa, .int .i64 U2.dom, .int .i64 U2.ap, .int .u32 U2.bits, .bool U2.ng, .bool U2.xn] 35)).alloc (.cells #[.int .i64 F2.k, .int .i64 F2.l, .int .i64 F2.d] 37)) S2 v5.heap.size 35 [.int .i64 U2.size, .int .u32 U2.va, .int .u64 U2.pa, .int .i64 U2.dom, .int .i64 U2.ap, .int .u32 U2.bits, .bool U2.ng, .bool U2.xn]) := ⟨(Bl.new v5 35 [.int .i64 U2.size, .int .u32 U2.va, .int .u64 U2.pa, .int .i64 U2.dom, .int .i64 U2.ap, .int .u32 U2.bits, .bool U2.ng, .bool U2.xn]).below (below_new _ _), fun hs => by have := HL.out _ hs; have := hb.size; omega⟩
  have HCF : Hid (Bx ((v5.alloc (.cells #[.int .i64 U2.size, .int .u32 U2.va, .int .u64 U2.pa, .int .i64 U2.dom, .int .i64 U2.ap, .int .u32 U2.bits, .bool U2.ng, .bool U2.xn] 35)).alloc (.cells #[.int .i64 F2.k, .int .i64 F2.l, .int .i64 F2.d] 37)) S2 (v5.heap.size + 1) 37 [.int .i64 F2.k, .int .i64 F2.l, .int .i64 F2.d]) := ⟨Bl.new1 v5 _ 37 [.int .i64 F2.k, .int .i64 F2.l, .int .i64 F2.d], fun hs => by have := HL.out _ hs; have := hb.size; omega⟩
  clear hb hb' HK3 HC c0 HL HU3 HBT3 HBF3
  generalize hnn : l.length = n at *
  have HNN := hidW hnn
  clear hnn
  go_wp2
  generalize (v5.alloc (.cells #[.int .i64 U2.size, .int .u32 U2.va, .int .u64 U2.pa, .int .i64 U2.dom, .int .i64 U2.ap, .int .u32 U2.bits, .bool U2.ng, .bool U2.xn] 35)).alloc (.cells #[.int .i64 F2.k, .int .i64 F2.l, .int .i64 F2.d] 37) = w6 at *
  generalize v5.heap.size + 1 = b4 at *
  generalize v5.heap.size = b3 at *
  have HQ : w6.cell? ⟨y, 0, none⟩ = some (.int .u64 q.pa) := HK4.out.Q.bl.cell 0
  obtain ⟨la', lcap', hle, hla⟩ := HU4.out
  have HLA := hidW hla
  clear hla
  have hle' : la = la' := by rw [HNN.out] at hle; injection hle
  subst hle'
  clear hle
  have hn9 : n ≤ 9223372036854775807 := by omega
  go_loopw [17, 18] (fun r i wr => ∃ k : Nat, k ≤ n ∧ i = .int .i64 k ∧ r = .bool ((l.take k).any (· == q.pa)) ∧ ∃ d, wr = w6.drewN d) (fun _ i _ => n - (intOf i).toNat)
  case atStart => exact ⟨0, Nat.zero_le _, rfl, by simp, 0, rfl⟩
  case round =>
    obtain ⟨k, hk, rfl, rfl, d, rfl⟩ := hrel
    by_cases hlt : k < n
    · obtain ⟨e, he⟩ : ∃ e, l[k]? = some e := ⟨_, List.getElem?_eq_getElem (by rw [HNN.out]; omega)⟩
      obtain ⟨g, o, hga, _, hce⟩ := HLA.out k e he
      subst hga
      have hkz : (k : Int) < (n : Int) := by omega
      have hst : (l.take (k + 1)).any (· == q.pa) = ((l.take k).any (· == q.pa) || (e == q.pa)) := by
        rw [List.take_add_one, he, Option.toList_some, List.any_append]
        simp
      have HST := hidW hst
      clear hst he
      generalize (l.take k).any (· == q.pa) = r at *
      generalize hs : (e == q.pa) = s at *
      cases r
      · go_wp2
        go_quiet (fail)
        go_wp2
        go_roundw
        case rel => exact ⟨k + 1, by omega, by go_num, by rw [HST.out]; simp [hs], _, rfl⟩
        case measure => simp [intOf]; omega
      · go_wp2
        go_quiet (fail)
        go_wp2
        go_roundw
        case rel => exact ⟨k + 1, by omega, by go_num, by rw [HST.out]; simp, _, rfl⟩
        case measure => simp [intOf]; omega
    · obtain rfl : k = n := by omega
      have hd := below_drewN (Below.refl w6.heap.size w6) d
      have HK5 := hidW (HK4.out.below hd)
      have HBT5 := hidW (HBT4.out.below hd)
      have HBF5 := hidW (HBF4.out.below hd)
      have HCT5 := hidW (HCT.out.below hd)
      have HCF5 := hidW (HCF.out.below hd)
      clear hd HK4 HBT4 HBF4 HCT HCF HU4 HQ HLA
      generalize w6.drewN d = w7 at *
      have hnn := HNN.out
      rw [← hnn, List.take_length, hnn]
      clear hlt hk hnn
      by_cases hn0 : k = 0
      · have hl0 : l = [] := List.eq_nil_of_length_eq_zero (HNN.out.trans hn0)
        have hUF := HKE.out (by rw [hl0]; simp)
        rw [HWK.out] at hUF
        obtain ⟨rfl, rfl⟩ := Prod.mk.inj hUF
        have hr : l.any (· == q.pa) = false := by rw [hl0]; rfl
        rw [hr]
        subst hn0
        have eT : ∀ w, (Op.equalIn 10000 35 (.agg #[.int .i64 U2.size, .int .u32 U2.va, .int .u64 U2.pa, .int .i64 U2.dom, .int .i64 U2.ap, .int .u32 U2.bits, .bool U2.ng, .bool U2.xn]) (.agg #[.int .i64 U2.size, .int .u32 U2.va, .int .u64 U2.pa, .int .i64 U2.dom, .int .i64 U2.ap, .int .u32 U2.bits, .bool U2.ng, .bool U2.xn])).run Tryd.prog w = .ok true w := fun w => by rw [eqT, Tra.same_self]
        have eF : ∀ w, (Op.equalIn 10000 37 (.agg #[.int .i64 F2.k, .int .i64 F2.l, .int .i64 F2.d]) (.agg #[.int .i64 F2.k, .int .i64 F2.l, .int .i64 F2.d])).run Tryd.prog w = .ok true w := fun w => by rw [eqF, Fa.same_self]
        have c1 := HBT5.out.bl.cell
        have c2 := HBF5.out.bl.cell
        have c3 := HCT5.out.bl.cell
        have c4 := HCF5.out.bl.cell
        have HE := hidW HK5.out.bel
        clear HNN HKE HM2 HOFF HNON
        go_wp2
        go_ret
        exact ⟨rfl, by first | exact HE.out | (rw [← hx]; exact HE.out)⟩
      · have hoo : c.on = true ∧ fO c va = true := by
          cases h1 : c.on
          · exact absurd (HOFF.out (.inl h1)) (fun e => hn0 (by rw [← HNN.out, e]; rfl))
          · cases h2 : fO c va
            · exact absurd (HOFF.out (.inr h2)) (fun e => hn0 (by rw [← HNN.out, e]; rfl))
            · exact ⟨rfl, rfl⟩
        have HOO := hidW hoo
        clear hoo
        have hkb : ((k : Int) == 0) = false := by simp; omega
        have hUF : l.any (· == q.pa) = false → (U2, F2) = (U, F) := fun h => by
          rw [← HWK.out]
          refine HKE.out (fun hm => ?_)
          have ht : l.any (· == q.pa) = true := List.any_eq_true.2 ⟨q.pa, hm, by simp⟩
          rw [ht] at h
          cases h
        have c0 := HK5.out.C.bl.cell
        have HC := hidW (HK5.out.reads hc va hv)
        have HL := hidW HK5.out.pm.low
        generalize l.any (· == q.pa) = r at *
        clear HNN HKE HM2 HOFF HNON HWK HWK2
        have c1 := HBT5.out.bl.cell
        have c2 := HBF5.out.bl.cell
        have c3 := HCT5.out.bl.cell
        have c4 := HCF5.out.bl.cell
        have HTL := hidW (edit_tail (N := N) hB2 hc hv HOO.out.1 HOO.out.2)
        have HFR := hidW (fA_rng c va hc hv)
        clear HOO
        cases r
        case' false =>
          obtain ⟨rfl, rfl⟩ := Prod.mk.inj (hUF rfl)
          have eT : ∀ w, (Op.equalIn 10000 35 (.agg #[.int .i64 U2.size, .int .u32 U2.va, .int .u64 U2.pa, .int .i64 U2.dom, .int .i64 U2.ap, .int .u32 U2.bits, .bool U2.ng, .bool U2.xn]) (.agg #[.int .i64 U2.size, .int .u32 U2.va, .int .u64 U2.pa, .int .i64 U2.dom, .int .i64 U2.ap, .int .u32 U2.bits, .bool U2.ng, .bool U2.xn])).run Tryd.prog w = .ok true w := fun w => by rw [eqT, Tra.same_self]
          have eF : ∀ w, (Op.equalIn 10000 37 (.agg #[.int .i64 F2.k, .int .i64 F2.l, .int .i64 F2.d]) (.agg #[.int .i64 F2.k, .int .i64 F2.l, .int .i64 F2.d])).run Tryd.prog w = .ok true w := fun w => by rw [eqF, Fa.same_self]
          go_wp2_with fail
          clear eT eF
        case' true =>
          go_wp2_with fail
        all_goals
          clear c1 c2 c3 c4 HBT5 HBF5 HCT5 HCF5 hUF
          go_at_call 12
          refine HC.out.mono ?_
          rintro e w8 ⟨lv2, rfl, hu, hb⟩
          have HK6 := hidW (HK5.out.below hb)
          have HU := hidW hu
          clear hb hu HK5 HC c0
          generalize hfa : fA c va = fa at *
          clear hfa
          rcases HTL.out with ⟨hl2, hz⟩ | ⟨s, hl2, hs, hef, hz⟩
          · rw [hl2] at HU
            obtain ⟨ga, gcap, rfl, hg⟩ := HU.out
            obtain ⟨g, o, rfl, hgl, hgc0⟩ := hg 0 fa rfl
            have hgc : w8.cell? ⟨g, o, none⟩ = some (.int .u64 fa) := hgc0
            have HC := hidW (HK6.out.put fa 0 HFR.out ⟨by omega, by omega⟩)
            have HZ := hidW hz
            clear hg hl2 HTL hz hgc0
            simp only [List.length_cons, List.length_nil, Nat.zero_add] at *
            go_wp2_with fail
            go_at_call 13
            refine HC.out.mono ?_
            rintro e w9 ⟨rfl, hk, T⟩
            have HK7 := hidW hk
            have HU7 := hidW (HU.out.turn T HL.out)
            clear hk T HK6 HU HC hgc
            generalize gr S2 w8 w9 = S3 at *
            rcases Classical.em (¬ errV N fa 4 = 0) with he | he
            · have hne : (errV N fa 4 == 0) = false := by simpa using he
              have HE := hidW HK7.out.bel
              generalize errV N fa 4 = er at *
              go_wp2
              go_ret
              exact ⟨rfl, by first | exact HE.out | (rw [← hx]; exact HE.out)⟩
            · have he := Classical.not_not.1 he
              have HW := hidW (HZ.out he)
              rw [he]
              have c0 := HK7.out.C.bl.cell
              have HC := hidW (HK7.out.walk hc va hv)
              rw [HW.out.1] at HC
              have HL7 := hidW HK7.out.pm.low
              go_wp2_with fail
              go_at_call 11
              refine HC.out.mono ?_
              rintro e v9 ⟨rfl, hb⟩
              have hb' := Below.step hb (Below.step (below_new v9 (.cells #[.int .i64 0, .int .u32 0, .int .u64 0, .int .i64 0, .int .i64 0, .int .u32 0, .bool false, .bool false] 35)) (below_new _ (.cells #[.int .i64 3, .int .i64 0, .int .i64 0] 37)))
              have HK8 := hidW (HK7.out.below hb')
              have HU8 := hidW (HU7.out.below hb')
              clear hb hb' HK7 HU7 HC c0 HL7
              have eT : ∀ w, (Op.equalIn 10000 35 (.agg #[.int .i64 0, .int .u32 0, .int .u64 0, .int .i64 0, .int .i64 0, .int .u32 0, .bool false, .bool false]) (.agg #[.int .i64 0, .int .u32 0, .int .u64 0, .int .i64 0, .int .i64 0, .int .u32 0, .bool false, .bool false])).run Tryd.prog w = .ok true w := fun w => by have h := eqT tZ tZ w; rw [Tra.same_self] at h; exact h
              have c8 := HK8.out.C.bl.cell
              obtain ⟨ga', gcap', hge, hg⟩ := HU8.out
              obtain ⟨rfl, rfl⟩ : ga' = some ⟨g, o, none⟩ ∧ gcap' = gcap := by injection hge with e1 e2 e3; exact ⟨e1.symm, e3.symm⟩
              obtain ⟨g', o', h1, _, hgc⟩ := hg 0 fa rfl; injection h1 with h1; injection h1 with e1 e2; subst e1; subst e2; rw [Nat.add_zero] at hgc
              clear hg hge
              have HC := hidW (fun nq => (HK8.out.below (below_drewN (Below.refl _ _) nq)).put fa 3074 HFR.out ⟨by omega, by omega⟩)
              simp only [tZ]
              go_wp2_with fail
              go_quiet (fail)
              go_wp2_with fail
              go_at_call 13
              refine (HC.out _).mono ?_
              rintro e w10 ⟨rfl, hk9, T⟩
              have c9 := hk9.C.bl.cell
              have HC2 := hidW (section_any hk9 hc va hv HW.out.2)
              have HE := hidW hk9.bel
              rw [he]
              clear hk9 T HK8 HU8 HC c8
              go_wp2_with fail
              go_at_call 14
              refine HC2.out.mono ?_
              rintro e w11 ⟨rfl, hb⟩
              have HE2 := hidW (Below.step HE.out hb)
              clear hb HE HC2 c9
              go_wp2
              go_ret
              exact ⟨rfl, by first | exact HE2.out | (rw [← hx]; exact HE2.out)⟩
          · rw [hl2] at HU
            obtain ⟨ga, gcap, rfl, hg⟩ := HU.out
            obtain ⟨g, o, rfl, hgl, hgc0⟩ := hg 0 fa rfl
            have hgc : w8.cell? ⟨g, o, none⟩ = some (.int .u64 fa) := hgc0
            have hgd : w8.cell? ⟨g, o + 1, none⟩ = some (.int .u64 s) := by obtain ⟨g', o', h1, _, h2⟩ := hg 1 s rfl; injection h1 with h1; injection h1 with e1 e2; subst e1; subst e2; exact h2
            have HC := hidW (HK6.out.put s 0 hs ⟨by omega, by omega⟩)
            have HZ := hidW hz
            clear hg hl2 HTL hz hgc0
            simp only [List.length_cons, List.length_nil, Nat.zero_add] at *
            go_wp2_with fail
            go_at_call 13
            refine HC.out.mono ?_
            rintro e w9 ⟨rfl, hk, T⟩
            have HK7 := hidW hk
            have HU7 := hidW (HU.out.turn T HL.out)
            clear hk T HK6 HU HC hgc hgd
            generalize gr S2 w8 w9 = S3 at *
            rcases Classical.em (¬ errV N s 4 = 0) with he | he
            · have hne : (errV N s 4 == 0) = false := by simpa using he
              have HE := hidW HK7.out.bel
              generalize errV N s 4 = er at *
              go_wp2
              go_ret
              exact ⟨rfl, by first | exact HE.out | (rw [← hx]; exact HE.out)⟩
            · have he := Classical.not_not.1 he
              have HW := hidW (HZ.out he)
              rcases HW.out.2 with ⟨hfs, hw⟩ | ⟨hfs, d2, hw⟩
              · subst hfs
                rw [he]
                have c0 := HK7.out.C.bl.cell
                have HC := hidW (HK7.out.walk hc va hv)
                rw [hw] at HC
                have HL7 := hidW HK7.out.pm.low
                go_wp2_with fail
                go_at_call 11
                refine HC.out.mono ?_
                rintro e v9 ⟨rfl, hb⟩
                have hb' := Below.step hb (Below.step (below_new v9 (.cells #[.int .i64 0, .int .u32 0, .int .u64 0, .int .i64 0, .int .i64 0, .int .u32 0, .bool false, .bool false] 35)) (below_new _ (.cells #[.int .i64 3, .int .i64 0, .int .i64 0] 37)))
                have HK8 := hidW (HK7.out.below hb')
                have HU8 := hidW (HU7.out.below hb')
                clear hb hb' HK7 HU7 HC c0 HL7
                have eT : ∀ w, (Op.equalIn 10000 35 (.agg #[.int .i64 0, .int .u32 0, .int .u64 0, .int .i64 0, .int .i64 0, .int .u32 0, .bool false, .bool false]) (.agg #[.int .i64 0, .int .u32 0, .int .u64 0, .int .i64 0, .int .i64 0, .int .u32 0, .bool false, .bool false])).run Tryd.prog w = .ok true w := fun w => by have h := eqT tZ tZ w; rw [Tra.same_self] at h; exact h
                have c8 := HK8.out.C.bl.cell
                obtain ⟨ga', gcap', hge, hg⟩ := HU8.out
                obtain ⟨rfl, rfl⟩ : ga' = some ⟨g, o, none⟩ ∧ gcap' = gcap := by injection hge with e1 e2 e3; exact ⟨e1.symm, e3.symm⟩
                obtain ⟨g', o', h1, _, hgc⟩ := hg 0 fa rfl; injection h1 with h1; injection h1 with e1 e2; subst e1; subst e2; rw [Nat.add_zero] at hgc
                obtain ⟨g', o', h1, _, hgd⟩ := hg 1 fa rfl; injection h1 with h1; injection h1 with e1 e2; subst e1; subst e2
                clear hg hge
                have HC := hidW (fun nq => (HK8.out.below (below_drewN (Below.refl _ _) nq)).put fa 3074 HFR.out ⟨by omega, by omega⟩)
                simp only [tZ]
                go_wp2_with fail
                go_quiet (fail)
                go_wp2_with fail
                go_at_call 13
                refine (HC.out _).mono ?_
                rintro e w10 ⟨rfl, hk9, T⟩
                have c9 := hk9.C.bl.cell
                have HC2 := hidW (section_any hk9 hc va hv HW.out.1)
                have HE := hidW hk9.bel
                rw [hef]
                clear hk9 T HK8 HU8 HC c8
                go_wp2_with fail
                go_at_call 14
                refine HC2.out.mono ?_
                rintro e w11 ⟨rfl, hb⟩
                have HE2 := hidW (Below.step HE.out hb)
                clear hb HE HC2 c9
                go_wp2
                go_ret
                exact ⟨rfl, by first | exact HE2.out | (rw [← hx]; exact HE2.out)⟩
              · have hfb : (fa == s) = false := by simpa using hfs
                rw [he]
                have c0 := HK7.out.C.bl.cell
                have HC := hidW (HK7.out.walk hc va hv)
                rw [hw] at HC
                have HL7 := hidW HK7.out.pm.low
                go_wp2_with fail
                go_at_call 11
                refine HC.out.mono ?_
                rintro e v9 ⟨rfl, hb⟩
                have hb' := Below.step hb (Below.step (below_new v9 (.cells #[.int .i64 0, .int .u32 0, .int .u64 0, .int .i64 0, .int .i64 0, .int .u32 0, .bool false, .bool false] 35)) (below_new _ (.cells #[.int .i64 5, .int .i64 0, .int .i64 d2] 37)))
                have HK8 := hidW (HK7.out.below hb')
                have HU8 := hidW (HU7.out.below hb')
                clear hb hb' HK7 HU7 HC c0 HL7
                have eT : ∀ w, (Op.equalIn 10000 35 (.agg #[.int .i64 0, .int .u32 0, .int .u64 0, .int .i64 0, .int .i64 0, .int .u32 0, .bool false, .bool false]) (.agg #[.int .i64 0, .int .u32 0, .int .u64 0, .int .i64 0, .int .i64 0, .int .u32 0, .bool false, .bool false])).run Tryd.prog w = .ok true w := fun w => by have h := eqT tZ tZ w; rw [Tra.same_self] at h; exact h
                have c8 := HK8.out.C.bl.cell
                obtain ⟨ga', gcap', hge, hg⟩ := HU8.out
                obtain ⟨rfl, rfl⟩ : ga' = some ⟨g, o, none⟩ ∧ gcap' = gcap := by injection hge with e1 e2 e3; exact ⟨e1.symm, e3.symm⟩
                obtain ⟨g', o', h1, _, hgc⟩ := hg 0 fa rfl; injection h1 with h1; injection h1 with e1 e2; subst e1; subst e2; rw [Nat.add_zero] at hgc
                obtain ⟨g', o', h1, _, hgd⟩ := hg 1 s rfl; injection h1 with h1; injection h1 with e1 e2; subst e1; subst e2
                clear hg hge
                have HC := hidW (fun nq => (HK8.out.below (below_drewN (Below.refl _ _) nq)).put fa 3074 HFR.out ⟨by omega, by omega⟩)
                simp only [tZ]
                go_wp2_with fail
                go_quiet (fail)
                go_wp2_with fail
                go_at_call 13
                refine (HC.out _).mono ?_
                rintro e w10 ⟨rfl, hk9, T⟩
                have c9 := hk9.C.bl.cell
                have HC2 := hidW (section_any hk9 hc va hv HW.out.1)
                have HE := hidW hk9.bel
                rw [hef]
                clear hk9 T HK8 HU8 HC c8
                go_wp2_with fail
                go_at_call 14
                refine HC2.out.mono ?_
                rintro e w11 ⟨rfl, hb⟩
                have HE2 := hidW (Below.step HE.out hb)
                clear hb HE HC2 c9
                go_wp2
                go_ret
                exact ⟨rfl, by first | exact HE2.out | (rw [← hx]; exact HE2.out)⟩
theorem law_edit (W : World) (f : Int) (a : Option Addr) (cap : Nat) (ps : List Pt) (hp : PutsAt W a ps) (hl : ps.length ≤ 9223372036854775807) (c : Ctx) (hc : c.Ok) (va : Int) (hv : 0 ≤ va ∧ va < 4294967296) (q : Pt) (hq : (0 ≤ q.pa ∧ q.pa < 18446744073709551616) ∧ 0 ≤ q.w ∧ q.w < 4294967296) (ht : TW W) :
    Calls Tryd.prog 3 #[.int .i64 f, .slice a ps.length cap, .agg #[.bool c.on, .bool c.tre, .bool c.afe, .int .i64 c.n, .bool c.pd0, .bool c.pd1, .int .u64 c.b0, .int .u64 c.b1, .int .u32 c.dacr, .int .u32 c.prrr, .int .u32 c.nmrr, .int .i64 c.asid], .int .u32 va, .agg #[.int .u64 q.pa, .int .u32 q.w]] W fun e W' => e = .returned (.bool true) ∧ Below W.heap.size W W' := by
  by_cases hf : f < 1 ∨ 65536 < f
  · exact law_edit_bad W ht f hf _ c va q
  · obtain ⟨N, rfl⟩ : ∃ N : Nat, f = N := ⟨f.toNat, by omega⟩
    exact law_edit_core W N (by omega) (by omega) a cap ps hp hl c hc va hv q hq ht
end Go.Proofs.YtmodcbdgnmjkoaaDoor
