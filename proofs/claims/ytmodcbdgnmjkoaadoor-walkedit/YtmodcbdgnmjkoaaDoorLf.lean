import Derived.Test.YtmodcbdgnmjkoaaDoorLc
namespace Go.Proofs.YtmodcbdgnmjkoaaDoor
open Go.RowKit
open Mm (Turn gr PM RM valV errV Byts setV)
set_option linter.unusedVariables false
set_option linter.unusedSimpArgs false
/-- One memory of the program's. -/
structure One (W wr : World) (p N : Nat) (m : Nat → Int) : Prop where
  mem : ∃ S1, PM wr S1 p N m ∧ (∀ b, S1 b → W.heap.size ≤ b)
  bel : Below W.heap.size W wr
theorem One.below {W wr wn : World} {p N : Nat} {m : Nat → Int} (h : One W wr p N m) (hb : Below wr.heap.size wr wn) : One W wn p N m := by
  obtain ⟨⟨S1, h1, h4⟩, h6⟩ := h
  exact ⟨⟨S1, h1.keep (S' := fun _ => False) (Turn.below hb) (fun _ _ h => h), h4⟩, Below.step h6 hb⟩
theorem One.new {W w1 : World} {p N : Nat} (h1 : PM w1 (gr (fun _ => False) W w1) p N (fun _ => 0)) (T1 : Turn (fun _ => False) W w1) : One W w1 p N (fun _ => 0) := by
  refine ⟨⟨_, h1, ?_⟩, T1.to (fun _ h => h.elim) (Nat.le_refl _)⟩
  rintro b (h | ⟨h, _⟩)
  · exact h.elim
  · exact h
theorem One.put {W wr : World} {p N : Nat} {m : Nat → Int} (h : One W wr p N m) (pa : Nat) (v : Int) (hp : pa < 18446744073709551616) (hv0 : 0 ≤ v) (hv1 : v < 4294967296) :
    Calls Tryd.prog 13 #[.pointer (some ⟨p, 0, none⟩), .int .u64 pa, .int .u32 v] wr fun e w1 => e = .returned (.int .i64 (errV N pa 4)) ∧ One W w1 p N (setV N m pa 4 v) ∧ Turn (fun b => W.heap.size ≤ b ∧ b < wr.heap.size) wr w1 := by
  obtain ⟨⟨S1, h1, h4⟩, h6⟩ := h
  refine (Mm.setWord_any wr S1 p N m pa v h1 hp hv0 hv1).mono ?_
  rintro e w1 ⟨rfl, g1, T1⟩
  refine ⟨rfl, ⟨⟨_, g1, ?_⟩, h6.trans (T1.to h4 h6.size)⟩, T1.mono (fun x hx hS => ⟨h4 x hS, hx⟩)⟩
  rintro b (hb | ⟨hb, _⟩)
  · exact h4 b hb
  · have := h6.size; omega
set_option maxRecDepth 100000 in
theorem made_bad (W : World) (f : Int) (s : Value) (h : f < 1 ∨ 65536 < f) :
    Calls Tryd.prog 10 #[.int .i64 f, s] W fun e W' => e = .returned (.pointer none) ∧ W = W' := by
  have HP := hidW (Mm.pnew_bad W f h)
  clear h
  go_enter Tryd.func10, Tryd.ntmps10
  go_wp2_with (first
    | (go_at_call 29; refine HP.out.mono ?_; rintro e w1 ⟨rfl, rfl⟩))
  go_ret
  exact ⟨rfl, rfl⟩
set_option maxRecDepth 100000 in
set_option maxHeartbeats 8000000 in
theorem made_ok (W : World) (N : Nat) (h1 : 1 ≤ N) (h2 : N ≤ 65536) (a : Option Addr) (cap : Nat) (ps : List Pt) (hp : PutsAt W a ps) (hl : ps.length ≤ 9223372036854775807) :
    Calls Tryd.prog 10 #[.int .i64 N, .slice a ps.length cap] W fun e W' => ∃ p, e = .returned (.pointer (some ⟨p, 0, none⟩)) ∧ One W W' p N (pm N ps ps.length) := by
  have HS := hidW hp
  clear hp
  generalize hn : ps.length = n at *
  have HN := hidW hn
  clear hn
  go_enter Tryd.func10, Tryd.ntmps10
  go_wp2_with fail
  go_at_call 29
  refine (Mm.pnew_any W N h1 h2).mono ?_
  rintro e w1 ⟨rfl, g1, T1⟩
  have HT := hidW (One.new g1 T1)
  clear g1 T1
  generalize W.heap.size + 1 = p at *
  go_wp2
  go_loopw [7] (fun i wr => ∃ k : Nat, k ≤ n ∧ i = .int .i64 k ∧ Hid (One W wr p N (pm N ps k))) (fun i _ => n - (intOf i).toNat)
  case atStart => exact ⟨0, Nat.zero_le _, rfl, HT.out⟩
  case round =>
    obtain ⟨k, hk, rfl, HK⟩ := hrel
    clear HT
    by_cases hlt : k < n
    · obtain ⟨q, hq⟩ : ∃ q, ps[k]? = some q := ⟨_, List.getElem?_eq_getElem (by rw [HN.out]; omega)⟩
      obtain ⟨b, off, rfl, hb, e0, e1⟩ := HS.out.lies k q hq
      have hok := HS.out.oks q (List.mem_of_getElem? hq)
      have hstep := hidW (pm_step (N := N) hq)
      have hkz : (k : Int) < (n : Int) := by omega
      have hpa : ((q.pa.toNat : Nat) : Int) = q.pa := Int.toNat_of_nonneg hok.1.1
      have HD := hidW (HK.out.below (below_drew (Below.refl _ wr)))
      have HC := hidW (HD.out.put q.pa.toNat q.w (by omega) hok.2.1 hok.2.2)
      rw [hpa] at HC
      have HE := hidW (And.intro e0 e1)
      have HB1 := hidW HD.out.bel
      clear hq e0 e1 HK
      go_wp2
      go_region_held3 (fun w' => w'.cell? ⟨b, off + k * 2, none⟩ = some (.int .u64 q.pa) ∧ w'.cell? ⟨b, off + k * 2 + 1, none⟩ = some (.int .u32 q.w)) (exact ⟨(HB1.out.cell hb).trans HE.out.1, (HB1.out.cell hb).trans HE.out.2⟩) (first
        | (go_at_call 13; refine HC.out.mono ?_; rintro e wa ⟨rfl, ht2, _⟩; have HB1 := hidW ht2.bel; have HT2 := hidW ht2; clear ht2))
      have HT3 : Hid (One W wa p N (pm N ps (k + 1))) := by rw [hstep.out]; exact HT2.out
      clear HT2 HC HD hstep HB1
      go_wp2
      go_roundw
      case rel => exact ⟨k + 1, by omega, by go_num, HT3.out⟩
      case measure => simp [intOf]; omega
    · obtain rfl : k = n := by omega
      go_wp2
      go_ret
      exact ⟨p, rfl, HK.out⟩
end Go.Proofs.YtmodcbdgnmjkoaaDoor
