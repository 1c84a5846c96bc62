import Derived.Test.YtplobjdghaokoaaSa
import Derived.Shelf.Abstract
namespace Go.Proofs.Ytplobjdghaokoaa
open Go.RowKit
set_option linter.unusedVariables false

def Srt (cs : List Cut) : Prop := cs.Pairwise (fun a b => a.f < b.f)
theorem srt_at {cs : List Cut} (h : Srt cs) {i j : Nat} {a b : Cut} (hi : cs[i]? = some a) (hj : cs[j]? = some b) (hij : i < j) : a.f < b.f := by
  obtain ⟨hi1, rfl⟩ := List.getElem?_eq_some_iff.1 hi
  obtain ⟨hj1, rfl⟩ := List.getElem?_eq_some_iff.1 hj
  exact List.pairwise_iff_getElem.1 h i j hi1 hj1 hij
/-- The place of a frame. -/
def PosOf (cs : List Cut) (f k : Nat) : Prop := k ≤ cs.length ∧ (∀ (t : Nat) (c : Cut), t < k → cs[t]? = some c → c.f < f) ∧ (∀ (t : Nat) (c : Cut), k ≤ t → cs[t]? = some c → f ≤ c.f)
theorem enter55 : ∀ args w, (callFunc 55 args).run Try.prog w = .ok (.enter 55 args) w := by
  intro args w
  rfl

def CutsAt (W : World) (a : Option Addr) (cs : List Cut) : Prop := ∀ (i : Nat) (c : Cut), cs[i]? = some c → ∃ g, a = some ⟨g, 0, none⟩ ∧ g < W.heap.size ∧ CutAt W g (i * 5) c
theorem CutsAt.turn {W W' : World} {a : Option Addr} {cs : List Cut} {S : Nat → Prop} (h : CutsAt W a cs) (T : Turn S W W') (hS : ∀ g, a = some ⟨g, 0, none⟩ → ¬ S g) : CutsAt W' a cs := by
  intro i c hi
  obtain ⟨g, rfl, hg, hc⟩ := h i c hi
  exact ⟨g, rfl, Nat.lt_of_lt_of_le hg T.size, fun j hj => by rw [T.cell hg (hS g rfl)]; exact hc j hj⟩
theorem cut_cells {W : World} {g o : Nat} {c : Cut} (h : CutAt W g o c) : W.cell? ⟨g, o, none⟩ = some (.int .i64 c.f) ∧ W.cell? ⟨g, o + 1, none⟩ = some (.bool (c.b 0)) ∧ W.cell? ⟨g, o + 2, none⟩ = some (.bool (c.b 1)) ∧ W.cell? ⟨g, o + 3, none⟩ = some (.bool (c.b 2)) ∧ W.cell? ⟨g, o + 4, none⟩ = some (.bool (c.b 3)) :=
  ⟨h 0 (by omega), h 1 (by omega), h 2 (by omega), h 3 (by omega), h 4 (by omega)⟩

set_option maxHeartbeats 8000000 in
set_option maxRecDepth 100000 in
theorem bin_any (W : World) (a : Option Addr) (cap : Nat) (cs : List Cut) (f : Nat) (hv : CutsAt W a cs) (hs : Srt cs) (hl : cs.length ≤ 268435456) :
    Calls Try.prog 54 #[.slice a cs.length cap, .int .i64 f, .func (.func 55) #[] #[]] W fun e W' => ∃ (k : Nat) (b : Bool), e = .returned (.tuple #[.int .i64 k, .bool b]) ∧ PosOf cs f k ∧ (b = true ↔ ∃ c, cs[k]? = some c ∧ c.f = f) ∧ Turn (fun _ => False) W W' := by
  have HV : Hid (CutsAt W a cs) := hv
  have HS : Hid (Srt cs) := hs
  clear hv hs
  generalize hn : cs.length = n at *
  have HN : Hid (cs.length = n) := hn
  clear hn
  have eg := enter55
  go_enter Try.func54, Try.ntmps54
  go_wp2
  go_loopw [9, 10] (fun s9 s10 wr => ∃ (lo hi : Nat), s9 = .int .i64 lo ∧ s10 = .int .i64 hi ∧ lo ≤ hi ∧ hi ≤ n ∧ Hid (Turn (fun _ => False) W wr) ∧ Hid ((∀ (t : Nat) (c : Cut), t < lo → cs[t]? = some c → c.f < f) ∧ (∀ (t : Nat) (c : Cut), hi ≤ t → cs[t]? = some c → f ≤ c.f))) (fun s9 s10 _ => (intOf s10 - intOf s9).toNat)
  case atStart => exact ⟨0, n, rfl, rfl, Nat.zero_le _, Nat.le_refl _, Turn.refl _ _, (⟨fun t c ht => absurd ht (Nat.not_lt_zero _), fun t c h1 h2 => by have := (List.getElem?_eq_some_iff.1 h2).1; rw [HN.out] at this; omega⟩ : _ ∧ _)⟩
  case round =>
    obtain ⟨lo, hi, rfl, rfl, hlh, hin, HT, I⟩ := hrel
    by_cases hlt : lo < hi
    · obtain ⟨c, hc⟩ : ∃ c, cs[(lo + hi) / 2]? = some c := ⟨_, List.getElem?_eq_getElem (by rw [HN.out]; omega)⟩
      obtain ⟨g, rfl, hg, hcc⟩ := (HV.out.turn HT.out (fun _ _ h => h)) _ c hc
      have HC : Hid (cs[(lo + hi) / 2]? = some c) := hc
      have hmid : ((lo : Int) + (hi : Int)) / 2 = (((lo + hi) / 2 : Nat) : Int) := by omega
      have hmb : (lo + hi) / 2 < n := by omega
      have hmb1 : lo ≤ (lo + hi) / 2 ∧ (lo + hi) / 2 < hi := by omega
      obtain ⟨hmb2, hmb3⟩ := hmb1
      clear hc
      generalize (lo + hi) / 2 = mid at *
      obtain ⟨k0, k1, k2, k3, k4⟩ := cut_cells hcc
      have hf := find1_any wr c f _ rfl
      clear hcc
      go_wp2_with (go_at_fn 55; refine hf.mono ?_; rintro e w' ⟨rfl, ht⟩; have HT2 : Hid (Turn (fun _ => False) W w') := HT.out.trans ht (fun _ h => .inl h); clear ht)
      · go_roundw
        case measure => simp [intOf]; omega
        case rel =>
          refine ⟨mid + 1, hi, by go_num, rfl, by omega, hin, HT2, (⟨fun t d ht hd => ?_, I.out.2⟩ : _ ∧ _)⟩
          have hcf : c.f < f := by
            rename_i hcm
            unfold cmpV at hcm
            split at hcm
            · omega
            · split at hcm <;> omega
          by_cases e : t = mid
          · subst e
            have := HC.out
            rw [this] at hd
            cases hd
            exact hcf
          · have := srt_at HS.out hd HC.out (by omega)
            omega
      · go_roundw
        case measure => simp [intOf]; omega
        case rel =>
          refine ⟨lo, mid, rfl, rfl, by omega, by omega, HT2, (⟨I.out.1, fun t d ht hd => ?_⟩ : _ ∧ _)⟩
          have hcf : f ≤ c.f := by
            rename_i hcm
            unfold cmpV at hcm
            split at hcm
            · omega
            · split at hcm <;> omega
          by_cases e : t = mid
          · subst e
            have := HC.out
            rw [this] at hd
            cases hd
            exact hcf
          · have := srt_at HS.out HC.out hd (by omega)
            omega
    · obtain rfl : hi = lo := by omega
      have HPos : Hid (PosOf cs f hi) := ⟨by rw [HN.out]; exact hin, I.out.1, I.out.2⟩
      by_cases hn : hi < n
      · obtain ⟨c, hc⟩ : ∃ c, cs[hi]? = some c := ⟨_, List.getElem?_eq_getElem (by rw [HN.out]; omega)⟩
        obtain ⟨g, rfl, hg, hcc⟩ := (HV.out.turn HT.out (fun _ _ h => h)) _ c hc
        have HC : Hid (cs[hi]? = some c) := hc
        clear hc
        obtain ⟨k0, k1, k2, k3, k4⟩ := cut_cells hcc
        have hf := find1_any wr c f _ rfl
        clear hcc
        have hnz : decide ((hi : Int) < (n : Int)) = true := decide_eq_true (by omega)
        go_wp2_with (go_at_fn 55; refine hf.mono ?_; rintro e w' ⟨rfl, ht⟩; have HT2 : Hid (Turn (fun _ => False) W w') := HT.out.trans ht (fun _ h => .inl h); clear ht)
        go_ret2
        refine ⟨_, _, rfl, HPos.out, ?_, HT2.out⟩
        rw [beq_iff_eq, HC.out]
        constructor
        · intro h
          refine ⟨c, rfl, ?_⟩
          unfold cmpV at h
          split at h
          · omega
          · split at h <;> omega
        · rintro ⟨d, hd, he⟩
          cases hd
          unfold cmpV
          rw [if_neg (by omega), if_neg (by omega)]
      · have hnz : decide ((hi : Int) < (n : Int)) = false := decide_eq_false (by omega)
        go_wp2
        go_ret2
        refine ⟨_, _, rfl, HPos.out, ?_, HT.out⟩
        rw [List.getElem?_eq_none (by rw [HN.out]; omega)]
        simp
end Go.Proofs.Ytplobjdghaokoaa
