import Derived.Test.YtaahbklganhfkabFields
import Derived.Test.YtaahbklganhfkabPlainE
namespace Go.Proofs.Ytaahbklganhfkab
open Go.RowKit
set_option linter.unusedVariables false

theorem alive_num : numAll ⟨#[48, 120, 49, 70]⟩ = some 31 := by decide +kernel
theorem alive_fields : (fieldsB (ahead ⟨#[32, 97, 32, 98]⟩)).length = 2 := by decide +kernel
theorem alive_width : Lib.runeCount ⟨#[98, 195, 182, 98]⟩ = 3 := by decide +kernel
theorem alive_ada : nameB ⟨#[97, 100, 97]⟩ = true := by decide +kernel
theorem alive_9a : nameB ⟨#[57, 97]⟩ = false := by decide +kernel

set_option maxRecDepth 100000 in
set_option maxHeartbeats 800000 in
/-- atlaslaw01.alive. -/
theorem alive_any (w : World) : Calls Try.prog 5 #[] w fun e w' => e = .returned (.bool true) ∧ Below w.heap.size w w' := by
  go_enter Try.func5, Try.ntmps5
  go_wp2_with fail
  refine (number_any _ _ (by decide)).mono ?_
  rintro e w1 ⟨rfl, b1⟩
  rw [alive_num, numV_some, numE_some]
  go_wp2_with fail
  refine (fields_any _ _ (by decide)).mono ?_
  rintro e w2 ⟨v, rfl, o2, b2⟩
  obtain ⟨a, cap, rfl, -, -⟩ := owns_view o2
  rw [alive_fields] at o2 ⊢
  go_wp2_with fail
  refine (width_any _ _ (by decide)).mono ?_
  rintro e w3 ⟨rfl, b3⟩
  rw [alive_width]
  go_wp2_with fail
  refine (name_any _ _ (by decide)).mono ?_
  rintro e w4 ⟨rfl, b4⟩
  rw [alive_ada]
  go_wp2_with fail
  refine (name_any _ _ (by decide)).mono ?_
  rintro e w5 ⟨rfl, b5⟩
  rw [alive_9a]
  go_wp2
  go_ret
  have c2 := b1.trans (b2.mono b1.size)
  have c3 := c2.trans (b3.mono c2.size)
  have c4 := c3.trans (b4.mono c3.size)
  exact ⟨rfl, c4.trans (b5.mono c4.size)⟩

/-- An iterator's step. -/

theorem one_more {n : Nat} (h : n ≤ 4611686018427387900) {c : UInt8} : n + (⟨#[c]⟩ : ByteArray).size ≤ 4611686018427387904 := by
  show n + 1 ≤ _
  omega
theorem one_ahead {n : Nat} (h : n ≤ 4611686018427387900) {c : UInt8} : (⟨#[c]⟩ : ByteArray).size + n ≤ 4611686018427387904 := by
  show 1 + n ≤ _
  omega

/-- An iterator's step. -/
theorem it_next {B C : Nat} {w wr : World} {t : ByteArray} {pos : Nat} (hB : Below C w wr) (hC : C ≤ B) (hit : wr.heap[B]? = some (.stringIter t pos)) (hp : pos < t.size) :
    ∃ u : World, (∀ ty, (Instr.next (.pointer (some ⟨B, 0, none⟩)) true ty).run Try.prog wr = .ok (.tuple #[.bool true, .int .i64 pos, .int .i32 (Utf8.decode t pos).1]) u) ∧
      Below C w u ∧ u.heap[B]? = some (.stringIter t (pos + (Utf8.decode t pos).2)) ∧ B < u.heap.size :=
  ⟨wr.iterAt B t (pos + (Utf8.decode t pos).2), fun ty => Lib.run_next_any_at wr B t pos ty hit hp, Lib.below_iterAt hB hC _ _,
    Lib.iterAt_heap wr B t pos _ hit, by rw [Lib.iterAt_size]; exact (Array.getElem?_eq_some_iff.1 hit).1⟩

set_option maxRecDepth 100000 in
set_option maxHeartbeats 1600000 in
/-- atlaslaw01.WordsParts where the text is no name. -/
theorem law_parts_no (s : ByteArray) (w : World) (hs : s.size ≤ 4611686018427387900) (hn : nameB s = false) :
    Calls Try.prog 3 #[.string s] w fun e w' => e = .returned (.bool true) ∧ Below w.heap.size w w' := by
  have HN : Hid (_ = _) := hn
  have HD : Hid (_ = _) := name_dash s
  clear hn
  go_enter Try.func3, Try.ntmps3
  go_wp2_with fail
  refine (alive_any _).mono ?_
  rintro e w1 ⟨rfl, b1⟩
  go_wp2_with fail
  refine (name_any _ _ (by omega)).mono ?_
  rintro e w2 ⟨rfl, d⟩
  rw [HN.out]
  have b2 := b1.trans (d.mono b1.size)
  clear d b1
  go_wp2_with fail
  refine (name_any _ _ (by rw [app_size]; exact one_more hs)).mono ?_
  rintro e w3 ⟨rfl, d⟩
  rw [HD.out]
  go_wp2
  go_ret
  exact ⟨rfl, b2.trans (d.mono b2.size)⟩

set_option maxRecDepth 100000 in
set_option maxHeartbeats 3000000 in
/-- atlaslaw01.WordsParts where it is one. -/
theorem law_parts_lt (s : ByteArray) (w : World) (hs : s.size ≤ 4611686018427387900) (hn : nameB s = true) (h16 : Lib.runeCount s < 16) :
    Calls Try.prog 3 #[.string s] w fun e w' => e = .returned (.bool true) ∧ Below w.heap.size w w' := by
  have HN : Hid (_ = _) := hn
  have HSEV : Hid (_ = true) := (name_seven s hn).trans (by simp; omega)
  have HUND : Hid (_ = true) := (name_under s hn).trans (by simp; omega)
  have HFF : Hid (_ = _) := name_ff s
  have HBL : Hid (_ = _) := name_blank s
  have HDA : Hid (_ = _) := name_dash s
  have HFI : Hid (_ = _) := name_first s
  have hn2 := hn
  rw [name_eq, Bool.and_eq_true, decide_eq_true_eq] at hn2
  obtain ⟨hok, hc1, hc2⟩ := hn2
  have HOK : Hid (_ = _) := hok
  have hc3 : (1 : Int) ≤ (Lib.runeCount s : Int) := by omega
  have hc4 : (Lib.runeCount s : Int) ≤ 16 := by omega
  clear hn hok
  go_enter Try.func3, Try.ntmps3
  go_wp2_with fail
  refine (alive_any _).mono ?_
  rintro e w1 ⟨rfl, b1⟩
  go_wp2_with fail
  refine (name_any _ _ (by omega)).mono ?_
  rintro e w2 ⟨rfl, d⟩
  rw [HN.out]
  have b2 := b1.trans (d.mono b1.size)
  clear d b1
  go_wp2_with fail
  refine (width_any _ _ (by omega)).mono ?_
  rintro e w3 ⟨rfl, d⟩
  have b2' := b2.trans (d.mono b2.size)
  clear d b2
  have b2 := b2'
  clear b2'
  go_wp2_with fail
  refine (name_any _ _ (by rw [app_size]; exact one_more hs)).mono ?_
  rintro e w4 ⟨rfl, d⟩
  rw [HSEV.out]
  have b3 := b2.trans (d.mono b2.size)
  clear d b2
  go_wp2_with fail
  refine (name_any _ _ (by rw [app_size]; exact one_more hs)).mono ?_
  rintro e w5 ⟨rfl, d⟩
  rw [HUND.out]
  have b4 := b3.trans (d.mono b3.size)
  clear d b3
  go_wp2_with fail
  refine (name_any _ _ (by rw [app_size]; exact one_more hs)).mono ?_
  rintro e w6 ⟨rfl, d⟩
  rw [HFF.out]
  have b5 := b4.trans (d.mono b4.size)
  clear d b4
  go_wp2_with fail
  refine (name_any _ _ (by rw [app_size]; exact one_more hs)).mono ?_
  rintro e w7 ⟨rfl, d⟩
  rw [HBL.out]
  have b6 := b5.trans (d.mono b5.size)
  clear d b5
  go_wp2_with fail
  refine (name_any _ _ (by rw [app_size]; exact one_more hs)).mono ?_
  rintro e w8 ⟨rfl, d⟩
  rw [HDA.out]
  have b7 := b6.trans (d.mono b6.size)
  clear d b6
  go_wp2_with fail
  refine (name_any _ _ (by rw [app_size]; exact one_ahead hs)).mono ?_
  rintro e w9 ⟨rfl, d⟩
  rw [HFI.out]
  have b8 := b7.trans (d.mono b7.size)
  clear d b7
  go_wp2
  go_loopw [4, 5] (fun y _ wr => ∃ (pos f g acc : Nat), Below w.heap.size w wr ∧ wr.heap[w9.heap.size]? = some (.stringIter s pos) ∧ y = .int .i64 acc ∧ okFrom s f pos acc = true ∧ acc + Lib.runeCountFrom s f pos = Lib.runeCount s ∧ s.size ≤ pos + f ∧ upTo s pos g 0 0 = some acc ∧ pos ≤ s.size) (fun _ _ wr => s.size - wr.iterPos w9.heap.size)
  case atStart => exact ⟨0, s.size, 0, 0, b8.alloc b8.size _, World.iter_heap w9 s 0, rfl, HOK.out, by unfold Lib.runeCount; omega, by omega, rfl, by omega⟩
  case round =>
    obtain ⟨pos, f, g, acc, hB, hit, rfl, hok, hcnt, hf, hup, hle⟩ := hrel
    have hbs := b8.size
    clear b8
    by_cases hp : pos < s.size
    · obtain ⟨u, hnx, hB2, hit2, hlt⟩ := it_next hB hbs hit hp
      obtain ⟨f2, rfl, hx, hok2, hcnt2⟩ := ok_step hp hf hok
      have HM : Hid (_ = _) := iterPos_of hit
      have HI : Hid (_ = _) := hit2
      have HOK2 : Hid (_ = _) := hok2
      have HUP : Hid (_ = _) := upTo_next hp hup hx
      have HCNT : Hid (acc + 1 + Lib.runeCountFrom s f2 (pos + (Utf8.decode s pos).2) = Lib.runeCount s) := by show _ = _; omega
      have hacc : acc < 16 := by omega
      have HPRE : Hid (0 < pos → nameB (s.extract 0 pos) = true) := fun h0 => name_pre hp hup hx h0 (by omega)
      have hwd := rl_bd s pos
      have hin := rl_in s pos hp
      unfold rl at hwd hin
      clear hit hit2 hok hok2 hcnt hcnt2 hup hx
      by_cases h0 : 0 < pos
      · have hk1 : (0 : Int) < (pos : Int) := by omega
        have hk2 : (pos : Int) ≤ (s.size : Int) := by omega
        go_wp2_with fail
        refine (name_any _ _ (by simp; omega)).mono ?_
        rintro e u2 ⟨rfl, d⟩
        rw [HPRE.out h0]
        have hB3 := hB2.trans (d.mono hB2.size)
        have HI3 : Hid (u2.heap[w9.heap.size]? = some (.stringIter s (pos + (Utf8.decode s pos).2))) := (d.block _ hlt).trans HI.out
        clear d
        go_wp2
        go_roundw
        case rel => exact ⟨_, f2, g + 1, acc + 1, hB3, HI3.out, by go_num, HOK2.out, HCNT.out, by omega, HUP.out, hin⟩
        case measure =>
          rw [HM.out, iterPos_of HI3.out]
          omega
      · have hd : decide ((0 : Int) < (pos : Int)) = false := by simp; omega
        go_wp2
        go_roundw
        case rel => exact ⟨_, f2, g + 1, acc + 1, hB2, HI.out, by go_num, HOK2.out, HCNT.out, by omega, HUP.out, hin⟩
        case measure =>
          rw [HM.out, iterPos_of HI.out]
          omega
    · have hnx : ∀ ty, (Instr.next (.pointer (some ⟨w9.heap.size, 0, none⟩)) true ty).run Try.prog wr = _ := fun ty => Lib.run_next_end_at wr _ s pos ty hit hp
      have hacc : acc = Lib.runeCount s := by
        rw [Lib.runeCountFrom_end _ _ _ hp] at hcnt
        omega
      clear hcnt hok hup
      subst hacc
      go_wp2
      go_ret
      exact ⟨ret_bool (by simp), hB⟩

set_option maxRecDepth 100000 in
set_option maxHeartbeats 3000000 in
/-- atlaslaw01.WordsParts where it is one. -/
theorem law_parts_eq (s : ByteArray) (w : World) (hs : s.size ≤ 4611686018427387900) (hn : nameB s = true) (h16 : ¬ Lib.runeCount s < 16) :
    Calls Try.prog 3 #[.string s] w fun e w' => e = .returned (.bool true) ∧ Below w.heap.size w w' := by
  have HN : Hid (_ = _) := hn
  have HSEV : Hid (_ = false) := (name_seven s hn).trans (by simp; omega)
  have HUND : Hid (_ = false) := (name_under s hn).trans (by simp; omega)
  have HFF : Hid (_ = _) := name_ff s
  have HBL : Hid (_ = _) := name_blank s
  have HDA : Hid (_ = _) := name_dash s
  have HFI : Hid (_ = _) := name_first s
  have hn2 := hn
  rw [name_eq, Bool.and_eq_true, decide_eq_true_eq] at hn2
  obtain ⟨hok, hc1, hc2⟩ := hn2
  have HOK : Hid (_ = _) := hok
  have hc3 : (1 : Int) ≤ (Lib.runeCount s : Int) := by omega
  have hc4 : (Lib.runeCount s : Int) ≤ 16 := by omega
  clear hn hok
  go_enter Try.func3, Try.ntmps3
  go_wp2_with fail
  refine (alive_any _).mono ?_
  rintro e w1 ⟨rfl, b1⟩
  go_wp2_with fail
  refine (name_any _ _ (by omega)).mono ?_
  rintro e w2 ⟨rfl, d⟩
  rw [HN.out]
  have b2 := b1.trans (d.mono b1.size)
  clear d b1
  go_wp2_with fail
  refine (width_any _ _ (by omega)).mono ?_
  rintro e w3 ⟨rfl, d⟩
  have b2' := b2.trans (d.mono b2.size)
  clear d b2
  have b2 := b2'
  clear b2'
  go_wp2_with fail
  refine (name_any _ _ (by rw [app_size]; exact one_more hs)).mono ?_
  rintro e w4 ⟨rfl, d⟩
  rw [HSEV.out]
  have b3 := b2.trans (d.mono b2.size)
  clear d b2
  go_wp2_with fail
  refine (name_any _ _ (by rw [app_size]; exact one_more hs)).mono ?_
  rintro e w5 ⟨rfl, d⟩
  rw [HUND.out]
  have b4 := b3.trans (d.mono b3.size)
  clear d b3
  go_wp2_with fail
  refine (name_any _ _ (by rw [app_size]; exact one_more hs)).mono ?_
  rintro e w6 ⟨rfl, d⟩
  rw [HFF.out]
  have b5 := b4.trans (d.mono b4.size)
  clear d b4
  go_wp2_with fail
  refine (name_any _ _ (by rw [app_size]; exact one_more hs)).mono ?_
  rintro e w7 ⟨rfl, d⟩
  rw [HBL.out]
  have b6 := b5.trans (d.mono b5.size)
  clear d b5
  go_wp2_with fail
  refine (name_any _ _ (by rw [app_size]; exact one_more hs)).mono ?_
  rintro e w8 ⟨rfl, d⟩
  rw [HDA.out]
  have b7 := b6.trans (d.mono b6.size)
  clear d b6
  go_wp2_with fail
  refine (name_any _ _ (by rw [app_size]; exact one_ahead hs)).mono ?_
  rintro e w9 ⟨rfl, d⟩
  rw [HFI.out]
  have b8 := b7.trans (d.mono b7.size)
  clear d b7
  go_wp2
  go_loopw [4, 5] (fun y _ wr => ∃ (pos f g acc : Nat), Below w.heap.size w wr ∧ wr.heap[w9.heap.size]? = some (.stringIter s pos) ∧ y = .int .i64 acc ∧ okFrom s f pos acc = true ∧ acc + Lib.runeCountFrom s f pos = Lib.runeCount s ∧ s.size ≤ pos + f ∧ upTo s pos g 0 0 = some acc ∧ pos ≤ s.size) (fun _ _ wr => s.size - wr.iterPos w9.heap.size)
  case atStart => exact ⟨0, s.size, 0, 0, b8.alloc b8.size _, World.iter_heap w9 s 0, rfl, HOK.out, by unfold Lib.runeCount; omega, by omega, rfl, by omega⟩
  case round =>
    obtain ⟨pos, f, g, acc, hB, hit, rfl, hok, hcnt, hf, hup, hle⟩ := hrel
    have hbs := b8.size
    clear b8
    by_cases hp : pos < s.size
    · obtain ⟨u, hnx, hB2, hit2, hlt⟩ := it_next hB hbs hit hp
      obtain ⟨f2, rfl, hx, hok2, hcnt2⟩ := ok_step hp hf hok
      have HM : Hid (_ = _) := iterPos_of hit
      have HI : Hid (_ = _) := hit2
      have HOK2 : Hid (_ = _) := hok2
      have HUP : Hid (_ = _) := upTo_next hp hup hx
      have HCNT : Hid (acc + 1 + Lib.runeCountFrom s f2 (pos + (Utf8.decode s pos).2) = Lib.runeCount s) := by show _ = _; omega
      have hacc : acc < 16 := by omega
      have HPRE : Hid (0 < pos → nameB (s.extract 0 pos) = true) := fun h0 => name_pre hp hup hx h0 (by omega)
      have hwd := rl_bd s pos
      have hin := rl_in s pos hp
      unfold rl at hwd hin
      clear hit hit2 hok hok2 hcnt hcnt2 hup hx
      by_cases h0 : 0 < pos
      · have hk1 : (0 : Int) < (pos : Int) := by omega
        have hk2 : (pos : Int) ≤ (s.size : Int) := by omega
        go_wp2_with fail
        refine (name_any _ _ (by simp; omega)).mono ?_
        rintro e u2 ⟨rfl, d⟩
        rw [HPRE.out h0]
        have hB3 := hB2.trans (d.mono hB2.size)
        have HI3 : Hid (u2.heap[w9.heap.size]? = some (.stringIter s (pos + (Utf8.decode s pos).2))) := (d.block _ hlt).trans HI.out
        clear d
        go_wp2
        go_roundw
        case rel => exact ⟨_, f2, g + 1, acc + 1, hB3, HI3.out, by go_num, HOK2.out, HCNT.out, by omega, HUP.out, hin⟩
        case measure =>
          rw [HM.out, iterPos_of HI3.out]
          omega
      · have hd : decide ((0 : Int) < (pos : Int)) = false := by simp; omega
        go_wp2
        go_roundw
        case rel => exact ⟨_, f2, g + 1, acc + 1, hB2, HI.out, by go_num, HOK2.out, HCNT.out, by omega, HUP.out, hin⟩
        case measure =>
          rw [HM.out, iterPos_of HI.out]
          omega
    · have hnx : ∀ ty, (Instr.next (.pointer (some ⟨w9.heap.size, 0, none⟩)) true ty).run Try.prog wr = _ := fun ty => Lib.run_next_end_at wr _ s pos ty hit hp
      have hacc : acc = Lib.runeCount s := by
        rw [Lib.runeCountFrom_end _ _ _ hp] at hcnt
        omega
      clear hcnt hok hup
      subst hacc
      go_wp2
      go_ret
      exact ⟨ret_bool (by simp), hB⟩

/-- atlaslaw01.WordsParts. -/
theorem law_parts (s : ByteArray) (w : World) (hs : s.size ≤ 4611686018427387900) :
    Calls Try.prog 3 #[.string s] w fun e w' => e = .returned (.bool true) ∧ Below w.heap.size w w' := by
  cases hn : nameB s
  · exact law_parts_no s w hs hn
  · by_cases h16 : Lib.runeCount s < 16
    · exact law_parts_lt s w hs hn h16
    · exact law_parts_eq s w hs hn h16
end Go.Proofs.Ytaahbklganhfkab
