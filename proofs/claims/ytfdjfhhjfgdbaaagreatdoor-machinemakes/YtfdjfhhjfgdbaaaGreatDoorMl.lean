import Derived.Test.YtfdjfhhjfgdbaaaGreatDoorMk
namespace Go.Proofs.YtfdjfhhjfgdbaaaGreatDoor
open Go.RowKit
set_option linter.unusedVariables false
set_option linter.unusedSimpArgs false
/-- The cells of the document's tracker that knows nothing. -/
def zJc : List Value := [.bool false, .bool false, .bool false, .bool false, .int .i64 0, .bool false, .bool false, .int .u64 0, .int .u64 0, .int .u32 0, .int .u32 0, .int .u32 0, .int .i64 0]
def zT : List Value := .slice none 0 0 :: (List.replicate 256 zJc).flatten
set_option maxRecDepth 1000000 in
theorem zT_build (w : World) : (Instr.build 83 #[]).run Tryz.prog w = .ok (.agg zT.toArray) w := by kernel_rfl
theorem flat_at {α : Type} {l : List α} {n : Nat} (hl : l.length = n) : ∀ (m k j : Nat), k < m → j < n → (List.replicate m l).flatten[k * n + j]? = l[j]?
  | 0, k, j, h, _ => by omega
  | m + 1, k, j, h, hj => by
    rw [List.replicate_succ, List.flatten_cons]
    cases k with
    | zero => rw [List.getElem?_append_left (by omega)]; simp
    | succ k =>
      rw [List.getElem?_append_right (by rw [hl, Nat.add_mul]; omega), hl, show (k + 1) * n + j - n = k * n + j by rw [Nat.add_mul]; omega]
      exact flat_at hl m k j (by omega) hj
theorem zT_at (k : Nat) (h : k < 256) : zT[1 + k * 13]? = some (.bool false) := by
  rw [show 1 + k * 13 = (k * 13 + 0) + 1 by omega]
  show (List.replicate 256 zJc).flatten[k * 13 + 0]? = _
  rw [flat_at (n := 13) rfl 256 k 0 h (by omega)]
  rfl
def TY (w : World) (p : Nat) : Prop := Bl w p 83 zT
theorem TY.below {w w' : World} {p : Nat} (h : TY w p) (hb : Below w.heap.size w w') : TY w' p := Bl.below h hb
theorem TY.cell {w : World} {p : Nat} (h : TY w p) (k : Nat) (hk : k < 256) : w.cell? ⟨p, 1 + k * 13, none⟩ = some (.bool false) := (Bl.cell h _).trans (zT_at k hk)
set_option maxRecDepth 100000 in
set_option maxHeartbeats 4000000 in
theorem yjudge_any (W : World) (p : Nat) (h : TY W p) (a : Int) :
    Calls Tryz.prog 20 #[.pointer (some ⟨p, 0, none⟩), .int .i64 a] W fun e w' => e = .returned (.tuple #[zCv, .bool false]) ∧ Below W.heap.size W w' := by
  have hb := below_new W (.cells #[.bool false, .bool false, .bool false, .int .i64 0, .bool false, .bool false, .int .u64 0, .int .u64 0, .int .u32 0, .int .u32 0, .int .u32 0, .int .i64 0] 63)
  by_cases h1 : a < 0
  · have d1 : decide (a < 0) = true := decide_eq_true h1
    clear h hb
    go_enter Tryz.func20, Tryz.ntmps20
    go_wp2
    refine bodyPost_ret (by simp [results, Tryz.results20, go_sem]) rfl ⟨rfl, ?_⟩
    repeat (first | exact Below.refl _ _ | refine Below.setCell ?_ (by simp) _ | refine Below.alloc ?_ (by simp) _)
  · have d1 : decide (a < 0) = false := decide_eq_false h1
    by_cases h2 : 255 < a
    · have d2 : decide (255 < a) = true := decide_eq_true h2
      clear h hb
      go_enter Tryz.func20, Tryz.ntmps20
      go_wp2
      refine bodyPost_ret (by simp [results, Tryz.results20, go_sem]) rfl ⟨rfl, ?_⟩
      repeat (first | exact Below.refl _ _ | refine Below.setCell ?_ (by simp) _ | refine Below.alloc ?_ (by simp) _)
    · have d2 : decide (255 < a) = false := decide_eq_false h2
      obtain ⟨k, rfl⟩ := Int.eq_ofNat_of_zero_le (show 0 ≤ a by omega)
      have hk : k < 256 := by omega
      have c := (h.below hb).cell k hk
      have h3 : (k : Int) < 256 := by omega
      clear h hb
      go_enter Tryz.func20, Tryz.ntmps20
      go_wp2
      refine bodyPost_ret (by simp [results, Tryz.results20, go_sem]) rfl ⟨rfl, ?_⟩
      repeat (first | exact Below.refl _ _ | refine Below.setCell ?_ (by simp) _ | refine Below.alloc ?_ (by simp) _)
set_option maxHeartbeats 4000000 in
theorem ystale_any (W : World) (p : Nat) (h : TY W p) (m : Value) (a va : Int) :
    Calls Tryz.prog 21 #[.pointer (some ⟨p, 0, none⟩), m, .int .i64 a, .int .u32 va] W fun e w' => e = .returned (.bool false) ∧ Below W.heap.size W w' := by
  have H := hidW (yjudge_any W p h a)
  clear h
  go_enter Tryz.func21, Tryz.ntmps21
  go_wp2_with (go_at_call 20; refine H.out.mono ?_; rintro e w1 ⟨rfl, g1⟩; have HB := hidW g1; have hs := g1.size; clear g1)
  go_ret
  refine ⟨rfl, ?_⟩
  repeat (first | exact HB.out | refine Below.setCell ?_ (by simp; omega) _ | refine Below.setCell ?_ (by omega) _ | refine Below.alloc ?_ (by simp; omega) _ | refine Below.alloc ?_ (by omega) _)
set_option maxRecDepth 100000 in
set_option maxHeartbeats 4000000 in
theorem ydirty_any (W : World) (p : Nat) (h : TY W p) (m : Value) :
    Calls Tryz.prog 23 #[.pointer (some ⟨p, 0, none⟩), m] W fun e w' => e = .returned (.slice none 0 0) ∧ Below W.heap.size W w' := by
  have HT := hidW h
  clear h
  go_enter Tryz.func23, Tryz.ntmps23
  go_wp2
  go_loopw [5, 6] (fun s i wr => ∃ k : Nat, k ≤ 256 ∧ s = .slice none 0 0 ∧ i = .int .i64 k ∧ Hid (Below W.heap.size W wr)) (fun _ i _ => 256 - (intOf i).toNat)
  case atStart => exact ⟨0, by omega, rfl, rfl, Below.refl _ _⟩
  case round =>
    obtain ⟨k, hk, rfl, rfl, HK⟩ := hrel
    by_cases hlt : k < 256
    · have hkz : (k : Int) < 256 := by omega
      have H := hidW (yjudge_any wr p (HT.out.below HK.out) (k : Int))
      go_wp2_with (go_at_call 20; refine H.out.mono ?_; rintro e w1 ⟨rfl, g1⟩; have HB := hidW (Below.step HK.out g1); have hs := HB.out.size; clear g1)
      have HB2 : Hid (∀ c, Below W.heap.size W (w1.alloc c)) := fun c => HB.out.alloc hs c
      go_loopw [5, 9] (fun s i wx => s = .slice none 0 0 ∧ i = .int .i64 0 ∧ Hid (Below W.heap.size W wx)) (fun _ _ _ => 0)
      case atStart => exact ⟨rfl, rfl, HB2.out _⟩
      case round =>
        obtain ⟨rfl, rfl, HX⟩ := hrel
        go_wp2
        go_roundw
        case rel => exact ⟨k + 1, by omega, rfl, by go_num, HX⟩
        case measure => simp [intOf]; omega
    · obtain rfl : k = 256 := by omega
      go_wp2
      go_ret
      exact ⟨rfl, HK.out⟩
end Go.Proofs.YtfdjfhhjfgdbaaaGreatDoor
