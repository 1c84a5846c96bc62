import Derived.Test.YtlfgnbjioofplaaBj
import Derived.BigQuiet
namespace Go.Proofs.Ytlfgnbjioofplaa
open Go.RowKit
set_option linter.unusedVariables false

/-- A memory of four frames and its book. -/
def PB (W : World) (S : Nat → Prop) (p bk : Nat) (m : Nat → Int) : Prop := PM W S p 4 m ∧ Bk W bk m ∧ ¬ S bk
theorem err0 (a w : Nat) (hw : w = 1 ∨ w = 2 ∨ w = 4) (ha : a < 16384) (hm : a % w = 0) : errV 4 a w = 0 := by
  unfold errV
  rcases hw with rfl | rfl | rfl
  · rw [if_neg (by omega), if_neg (by omega)]
  · rw [if_neg (by omega), if_neg (by omega)]
  · rw [if_neg (by omega), if_neg (by omega)]
theorem turn_or {S : Nat → Prop} {bk : Nat} {W w1 w2 : World} (t1 : Turn (fun b => b = bk) W w1) (t2 : Turn S w1 w2) : Turn (fun b => S b ∨ b = bk) W w2 :=
  (t1.mono (S' := fun b => S b ∨ b = bk) (fun x _ hx => .inr hx)).trans t2 (fun x hx => .inl (.inl hx))

theorem PB.done {W w1 W' : World} {S : Nat → Prop} {p bk : Nat} {m' : Nat → Int} (hS : ¬ S bk) (hbl : bk < W.heap.size) (hlow : ∀ b, S b → b < W.heap.size) (t1 : Turn (fun b => b = bk) W w1) (hB : Bk w1 bk m') (hP : PM W' (gr S w1 W') p 4 m') (t2 : Turn S w1 W') :
    PB W' (gr S W W') p bk m' ∧ Turn (fun b => S b ∨ b = bk) W W' := by
  refine ⟨⟨hP.mono (gr_mono t1.size) (gr_low hlow (Nat.le_trans t1.size t2.size)), hB.turn t2 hS, ?_⟩, turn_or t1 t2⟩
  rintro (h1 | ⟨h1, _⟩)
  · exact hS h1
  · omega

set_option maxHeartbeats 8000000 in
set_option maxRecDepth 100000 in
theorem puts_wipe (W : World) (S : Nat → Prop) (p bk : Nat) (m : Nat → Int) (cap : Nat) (A v wide : Int) (h : PB W S p bk m) :
    Calls Try.prog 16 #[.pointer (some ⟨p, 0, none⟩), .slice (some ⟨bk, 0, none⟩) 16384 cap, .agg #[.int .i64 A, .int .u8 v, .bool true, .int .i64 wide]] W fun e W' => e = .returned (.bool true) ∧ ∃ m', PB W' (gr S W W') p bk m' ∧ Turn (fun b => S b ∨ b = bk) W W' := by
  obtain ⟨hP, hB, hS⟩ := h
  have hb1 := and16383 A
  have hb2 : 0 ≤ A % 16384 ∧ A % 16384 < 16384 := by omega
  obtain ⟨a, ha⟩ := Int.eq_ofNat_of_zero_le hb2.1
  rw [ha] at hb1 hb2
  have hal : a < 16384 := by omega
  have hnm := not4095 a hal
  have hf : a - a % 4096 = a / 4096 * 4096 := by omega
  rw [hf] at hnm
  have hdv : (a : Int) / 4096 = ((a / 4096 : Nat) : Int) := by omega
  have hfl : a / 4096 < 4 := by omega
  generalize a / 4096 = f at *
  have HF : Hid (f * 4096 ≤ 12288) := by show _ ≤ _; omega
  have HW : Hid (∀ m, wz m (f * 4096) 4096 = wipe m f) := fun m => wz_all m f
  have hfl2 : f * 4096 ≤ 12288 := HF.out
  generalize f * 4096 = b0 at *
  have hfz : (f : Int) < 4 := by omega
  have hbl := hB.turn ((Turn.refl (fun _ => False) W).alloc (.cells #[.int .i64 A, .int .u8 v, .bool true, .int .i64 wide] 42)) (fun h => h)
  have HX : Hid (PM W S p 4 m ∧ ¬ S bk ∧ bk < W.heap.size) := ⟨hP, hS, RowAt.lt hB⟩
  have HB : Hid (Bk (W.alloc (.cells #[.int .i64 A, .int .u8 v, .bool true, .int .i64 wide] 42)) bk m) := hbl
  clear hP hB hS hbl hf HF hb2
  have hwp := fun (ww : World) (hp : PM ww S p 4 m) => pwipe_any ww S p 4 m f hp
  have he1 : errW 4 f = 0 := by unfold errW; rw [if_neg (by omega)]
  have he2 : wipV 4 m f = wipe m f := by unfold wipV; rw [if_neg (by omega)]; rfl
  rw [he1, he2] at hwp
  clear he1 he2
  have HWP : Hid (∀ (ww : World), PM ww S p 4 m → Calls Try.prog 29 #[.pointer (some ⟨p, 0, none⟩), .int .i64 f] ww fun e W' => e = .returned (.int .i64 0) ∧ PM W' (gr S ww W') p 4 (wipe m f) ∧ Turn S ww W') := hwp
  clear hwp
  go_enter Try.func16, Try.ntmps16
  go_wp2
  go_loopw [8] (fun i wr => ∃ k : Nat, k ≤ 4096 ∧ i = .int .i64 ((b0 + k : Nat) : Int) ∧ Hid (Bk wr bk (wz m b0 k) ∧ Turn (fun b => b = bk) W wr)) (fun i _ => b0 + 4096 - (intOf i).toNat)
  case atStart => exact ⟨0, Nat.zero_le _, rfl, by rw [wz_zero]; exact ⟨HB.out, (Turn.refl _ W).alloc _⟩⟩
  case round =>
    obtain ⟨k, hk, rfl, HR⟩ := hrel
    clear HB
    by_cases hlt : k < 4096
    · have hc := HR.out.1.cell (show b0 + k < 16384 by omega)
      have hz := RowAt.frozen HR.out.1 (b0 + k)
      have HN : Hid (Bk (wr.setCell ⟨bk, b0 + k, none⟩ (.int .u8 0)) bk (wz m b0 (k + 1)) ∧ Turn (fun b => b = bk) W (wr.setCell ⟨bk, b0 + k, none⟩ (.int .u8 0))) := by
        refine ⟨?_, HR.out.2.setCell (.inl rfl) _⟩
        rw [wz_next]
        exact HR.out.1.upd _ _
      have hjl : b0 + k < b0 + 4096 := by omega
      have hjm : b0 + k < 16384 := by omega
      have HJ : Hid (b0 + (k + 1) = b0 + k + 1) := rfl
      generalize hj : b0 + k = j at *
      have hjz : (j : Int) < (b0 : Int) + 4096 := by omega
      go_wp2
      go_roundw
      case rel => exact ⟨k + 1, by omega, by rw [HJ.out]; go_num, HN⟩
      case measure => simp [intOf]; omega
    · have hk4 : k = 4096 := by omega
      subst hk4
      have hR := HR.out
      rw [HW.out m] at hR
      have hP1 := HX.out.1.keep hR.2 (fun b hb e => HX.out.2.1 (e ▸ hb))
      have hw := HWP.out wr hP1
      have HR2 : Hid (Bk wr bk (wipe m f) ∧ Turn (fun b => b = bk) W wr) := hR
      clear hR HR hP1
      generalize hj : b0 + 4096 = j at *
      have hjz : ¬ (j : Int) < (b0 : Int) + 4096 := by omega
      clear hj
      go_wp2_with (first
        | (go_at_call 29; refine hw.mono ?_; rintro e w2 ⟨rfl, h1, h2⟩)
        | go_in)
      go_ret
      exact ⟨rfl, _, PB.done HX.out.2.1 HX.out.2.2 HX.out.1.low HR2.out.2 HR2.out.1 h1 h2⟩
end Go.Proofs.Ytlfgnbjioofplaa
