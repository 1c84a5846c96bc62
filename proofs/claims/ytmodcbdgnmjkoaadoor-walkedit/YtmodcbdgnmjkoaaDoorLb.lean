import Derived.Test.YtmodcbdgnmjkoaaDoorLa
namespace Go.Proofs.YtmodcbdgnmjkoaaDoor
open Go.RowKit
open Mm (Turn gr PM RM valV errV Byts setV)
set_option linter.unusedVariables false
set_option linter.unusedSimpArgs false
set_option maxRecDepth 100000 in
theorem begin_bad (W : World) (f : Int) (s : Value) (h : f < 1 ∨ 65536 < f) :
    Calls Tryd.prog 22 #[.int .i64 f, s] W fun e W' => e = .returned (.tuple #[.pointer none, .bool true]) ∧ W = W' := by
  have HP := hidW (Mm.pnew_bad W f h)
  have HR := hidW (Mm.rnew_bad W f h)
  clear h
  go_enter Tryd.func22, Tryd.ntmps22
  go_wp2_with (first
    | (go_at_call 29; refine HP.out.mono ?_; rintro e w1 ⟨rfl, rfl⟩)
    | (go_at_call 41; refine HR.out.mono ?_; rintro e w1 ⟨rfl, rfl⟩))
  go_ret2
  exact ⟨rfl, rfl⟩
set_option maxRecDepth 100000 in
set_option maxHeartbeats 8000000 in
theorem begin_ok (W : World) (N : Nat) (h1 : 1 ≤ N) (h2 : N ≤ 65536) (a : Option Addr) (cap : Nat) (ps : List Pt) (hp : PutsAt W a ps) (hl : ps.length ≤ 9223372036854775807) :
    Calls Tryd.prog 22 #[.int .i64 N, .slice a ps.length cap] W fun e W' => ∃ B p r, e = .returned (.tuple #[.pointer (some ⟨B, 0, none⟩), .bool true]) ∧ Bl W' B 63 [.pointer (some ⟨p, 0, none⟩), .pointer (some ⟨r, 0, none⟩)] ∧ W.heap.size ≤ B ∧ Two W W' p r N (pm N ps ps.length) := by
  have HS := hidW hp
  clear hp
  generalize hn : ps.length = n at *
  have HN := hidW hn
  clear hn
  go_enter Tryd.func22, Tryd.ntmps22
  go_wp2_with fail
  go_at_call 29
  refine (Mm.pnew_any W N h1 h2).mono ?_
  rintro e w1 ⟨rfl, g1, T1⟩
  go_wp2_with fail
  go_at_call 41
  refine (Mm.rnew_any w1 N h1 h2).mono ?_
  rintro e w2 ⟨rfl, g2, T2⟩
  have HT := hidW (Two.new g1 T1 g2 T2)
  clear g1 T1 g2 T2
  generalize W.heap.size + 1 = p at *
  generalize w1.heap.size = r at *
  go_wp2
  go_loopw [10] (fun i wr => ∃ k : Nat, k ≤ n ∧ i = .int .i64 k ∧ Hid (Two W wr p r N (pm N ps k))) (fun i _ => n - (intOf i).toNat)
  case atStart => exact ⟨0, Nat.zero_le _, rfl, HT.out⟩
  case round =>
    obtain ⟨k, hk, rfl, HK⟩ := hrel
    clear HT
    by_cases hlt : k < n
    · obtain ⟨q, hq⟩ : ∃ q, ps[k]? = some q := ⟨_, List.getElem?_eq_getElem (by rw [HN.out]; omega)⟩
      obtain ⟨b, off, rfl, hb, e0, e1⟩ := HS.out.lies k q hq
      have hok := HS.out.oks q (List.mem_of_getElem? hq)
      have hstep := hidW (pm_step (N := N) hq)
      have hkz : (k : Int) < (n : Int) := by omega
      have hpa : ((q.pa.toNat : Nat) : Int) = q.pa := Int.toNat_of_nonneg hok.1.1
      have HD := hidW (HK.out.below (below_drew (Below.refl _ wr)))
      have HC := hidW (HD.out.put q.pa.toNat q.w (by omega) hok.2.1 hok.2.2)
      rw [hpa] at HC
      have d0 : wr.cell? ⟨b, off + k * 2, none⟩ = some (.int .u64 q.pa) := (HK.out.bel.cell hb).trans e0
      have d1 : wr.cell? ⟨b, off + k * 2 + 1, none⟩ = some (.int .u32 q.w) := (HK.out.bel.cell hb).trans e1
      have HE := hidW (And.intro e0 e1)
      have HB1 := hidW HD.out.bel
      clear hq e0 e1 HK
      go_wp2
      go_region_held3 (fun w' => w'.cell? ⟨b, off + k * 2, none⟩ = some (.int .u64 q.pa) ∧ w'.cell? ⟨b, off + k * 2 + 1, none⟩ = some (.int .u32 q.w)) (exact ⟨(HB1.out.cell hb).trans HE.out.1, (HB1.out.cell hb).trans HE.out.2⟩) (first
        | (go_at_call 13; refine HC.out.mono ?_; rintro e wa ⟨rfl, hb1, hc1⟩; have HB1 := hidW hb1; have HC1 := hidW hc1; clear hb1 hc1)
        | (go_at_call 42; refine HC1.out.mono ?_; rintro e wb ⟨rfl, ht2⟩; have HB1 := hidW ht2.bel; have HT2 := hidW ht2; clear ht2))
      have HT3 : Hid (Two W wb p r N (pm N ps (k + 1))) := by rw [hstep.out]; exact HT2.out
      clear HT2 HC1 HC HD hstep
      go_wp2
      go_roundw
      case rel => exact ⟨k + 1, by omega, by go_num, HT3.out⟩
      case measure => simp [intOf]; omega
    · obtain rfl : k = n := by omega
      have HE := hidW (And.intro (Bl.new wr 63 [.pointer (some ⟨p, 0, none⟩), .pointer (some ⟨r, 0, none⟩)]) (And.intro HK.out.bel.size (HK.out.below (below_new wr (.cells #[.pointer (some ⟨p, 0, none⟩), .pointer (some ⟨r, 0, none⟩)] 63)))))
      clear HK
      go_wp2
      go_ret2
      exact ⟨_, p, r, rfl, HE.out.1, HE.out.2.1, HE.out.2.2⟩
end Go.Proofs.YtmodcbdgnmjkoaaDoor
