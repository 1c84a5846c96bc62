import Derived.Test.YtaahbklganhfkabParts
import Derived.Test.YtaahbklganhfkabPlainG
namespace Go.Proofs.Ytaahbklganhfkab
open Go.RowKit
set_option linter.unusedVariables false

theorem fieldsFrom_len (t : ByteArray) : ∀ (f pos : Nat) (st : Int), (fieldsFrom t f pos st).length ≤ f + 1
  | 0, pos, st => by
    unfold fieldsFrom
    split <;> simp
  | f + 1, pos, st => by
    unfold fieldsFrom
    split
    · split
      · have := fieldsFrom_len t f (pos + (Utf8.decode t pos).2) (-1)
        split <;> simp <;> omega
      · have := fieldsFrom_len t f (pos + (Utf8.decode t pos).2) (if 0 ≤ st then st else pos)
        omega
    · split <;> simp

theorem fieldsFrom_size (t : ByteArray) : ∀ (f pos : Nat) (st : Int), ∀ x ∈ fieldsFrom t f pos st, x.size ≤ t.size
  | 0, pos, st, x, hx => by
    unfold fieldsFrom at hx
    split at hx
    · simp only [List.mem_singleton] at hx
      subst hx
      simp
    · simp at hx
  | f + 1, pos, st, x, hx => by
    unfold fieldsFrom at hx
    split at hx
    · split at hx
      · rcases List.mem_append.1 hx with h | h
        · split at h
          · simp only [List.mem_singleton] at h
            subst h
            simp
            omega
          · simp at h
        · exact fieldsFrom_size t f _ _ x h
      · exact fieldsFrom_size t f _ _ x hx
    · split at hx
      · simp only [List.mem_singleton] at hx
        subst hx
        simp
      · simp at hx

theorem jl_len (M : Nat) : ∀ l : List ByteArray, (∀ x ∈ l, x.size ≤ M) → (jl l).length ≤ l.length * (M + 1)
  | [], _ => by simp [jl]
  | [x], h => by
    have := h x (by simp)
    show x.data.toList.length ≤ _
    rw [← Lib.size_eq]
    simp
    omega
  | x :: y :: r, h => by
    have h1 := h x (by simp)
    have ih := jl_len M (y :: r) (fun z hz => h z (by simp [hz]))
    rw [jl]
    have hx : x.data.toList.length = x.size := (Lib.size_eq x).symm
    simp only [List.length_append, List.length_cons, hx] at ih ⊢
    rw [Nat.succ_mul (r.length + 1)]
    omega

theorem jl_take {L : List ByteArray} {k : Nat} (h : k < L.length) : jl (L.take (k + 1)) = if k = 0 then (L[k]).data.toList else jl (L.take k) ++ 32 :: (L[k]).data.toList := by
  rw [List.take_succ_eq_append_getElem h, jl_snoc]
  by_cases hk : k = 0
  · subst hk
    simp
  · rw [if_neg hk, if_neg]
    intro e
    have := congrArg List.length e
    rw [List.length_take] at this
    simp only [List.length_nil] at this
    omega

theorem ext_nonempty {x : ByteArray} (h : 0 < x.size) : x.toList.isEmpty = false ∧ (x.toList == []) = false := by
  have hl : x.toList ≠ [] := by
    rw [Lib.toList_data]
    intro e
    have := congrArg List.length e
    rw [← Lib.size_eq] at this
    simp only [List.length_nil] at this
    omega
  cases hx : x.toList with
  | nil => exact absurd hx hl
  | cons a b => simp

set_option maxRecDepth 100000 in
set_option maxHeartbeats 3000000 in
/-- atlaslaw01.WordsJoined. -/
theorem law_joined (s r : ByteArray) (w : World) (hs : s.size ≤ 1048576) (hr : r.size ≤ 1048576) :
    Calls Try.prog 4 #[.string s, .string r] w fun e w' => e = .returned (.bool true) ∧ Below w.heap.size w w' := by
  have HW : Hid (∀ x ∈ fieldsB (ahead s), Word x) := fieldsB_words s
  have hls : (ahead s).size ≤ s.size := by rw [ahead_size]; exact hpos_le s
  have hlen : (fieldsB (ahead s)).length ≤ 1048577 := by
    have := fieldsFrom_len (ahead s) (ahead s).size 0 (-1)
    unfold fieldsB
    omega
  have HSZ : Hid (∀ x ∈ fieldsB (ahead s), x.size ≤ 1048576) := fun x hx => by
    have := fieldsFrom_size (ahead s) _ _ _ x hx
    omega
  have HF : Hid (∀ W, Calls Try.prog 8 #[.string s] W fun e w' => ∃ v, e = .returned v ∧ Owns W.heap.size w' v (fieldsB (ahead s)) ∧ Below W.heap.size W w') := fun W => fields_any s W (by omega)
  generalize fieldsB (ahead s) = L at HW hlen HSZ HF
  clear hls
  go_enter Try.func4, Try.ntmps4
  go_wp2_with fail
  refine (alive_any _).mono ?_
  rintro e w1 ⟨rfl, b1⟩
  go_wp2_with fail
  refine (HF.out _).mono ?_
  rintro e w2 ⟨v, rfl, o2, d⟩
  have b2 := b1.trans (d.mono b1.size)
  clear d b1
  obtain ⟨a, cap, hv, hcap, hview⟩ := owns_view o2
  rw [hv] at o2 ⊢
  have HV : Hid (0 < L.length → ∃ g, a = some ⟨g, 0, none⟩ ∧ ∀ j (hj : j < L.length), w2.cell? ⟨g, j, none⟩ = some (.string (L[j]'hj))) := hview
  have HO : Hid (Owns w1.heap.size w2 (.slice a L.length cap) L) := o2
  clear hview hv o2
  go_wp2
  go_loop [6, 7, 8, 9] (fun t i _ _ => ∃ (k : Nat) (tk : ByteArray), k ≤ L.length ∧ i = .int .i64 k ∧ t = .string tk ∧ Hid (tk.data.toList = jl (L.take k))) (fun _ i _ _ => L.length - (intOf i).toNat)
  case atStart => exact ⟨0, _, by omega, rfl, rfl, rfl⟩
  case round =>
    obtain ⟨k, tk, hk, rfl, rfl, HT⟩ := hrel
    have htk : tk.size ≤ 1099513724929 := by
      have h1 := jl_len 1048576 (L.take k) (fun x hx => HSZ.out x (List.mem_of_mem_take hx))
      have h2 : (L.take k).length ≤ 1048577 := by simp; omega
      have h3 := Nat.mul_le_mul_right (1048576 + 1) h2
      rw [Lib.size_eq, HT.out]
      omega
    by_cases hlt : k < L.length
    · obtain ⟨g, ha, hg⟩ := HV.out (by omega)
      subst ha
      have c1 := hg k hlt
      have hwx := HW.out (L[k]) (List.getElem_mem hlt)
      have hxs := HSZ.out (L[k]) (List.getElem_mem hlt)
      have HJ : Hid (_ = _) := jl_take hlt
      generalize L[k] = x at c1 hwx hxs HJ
      have hne := ext_nonempty hwx.some
      obtain ⟨hne1, hne2⟩ := hne
      have HWX : Hid (Word x) := hwx
      have j0 : (0 : Int) ≤ (k : Int) := by omega
      have j1 : (k : Int) < (L.length : Int) := by omega
      clear hg hwx
      go_wp2
      go_loop [8, 9] (fun i _ => ∃ m : Nat, m ≤ x.size ∧ i = .int .i64 m) (fun i _ => x.size - (intOf i).toNat)
      case atStart => exact ⟨0, by omega, rfl⟩
      case round =>
        obtain ⟨m, hm, rfl⟩ := hrel
        by_cases hmx : m < x.size
        · have hb := HWX.out.byte m hmx
          have hbt := bt_get x m hmx
          have e1 : ((bt x m : Int) == 32) = false := beq_eq_false_iff_ne.2 (by omega)
          have e2 : ((bt x m : Int) == 9) = false := beq_eq_false_iff_ne.2 (by omega)
          have e3 : ((bt x m : Int) == 13) = false := beq_eq_false_iff_ne.2 (by omega)
          have e4 : ((bt x m : Int) == 35) = false := beq_eq_false_iff_ne.2 (by omega)
          clear hb
          go_wp2
          go_round
          case rel => exact ⟨m + 1, by omega, by go_num⟩
          case measure =>
            simp [intOf]
            omega
        · by_cases hk0 : k = 0
          · subst hk0
            go_wp2
            go_round
            case rel => exact ⟨1, _, by omega, by go_num, rfl, by
              show _ = _
              rw [HJ.out, if_pos rfl, app_data, HT.out]
              rfl⟩
            case measure =>
              simp [intOf]
              omega
          · have hkd : (0 : Int) < (k : Int) := by omega
            go_wp2
            go_round
            case rel => exact ⟨k + 1, _, by omega, by go_num, rfl, by
              show _ = _
              rw [HJ.out, if_neg hk0, app_data, app_data, HT.out]
              simp⟩
            case measure =>
              simp [intOf]
              omega
    · have hkl : k = L.length := by omega
      subst hkl
      rw [List.take_length] at HT
      have HJ1 : Hid (fieldsB (ahead tk) = L) := joined HW.out HT.out
      go_wp2_with fail
      refine (fields_any _ _ (by omega)).mono ?_
      rintro e w3 ⟨v3, rfl, o3, d⟩
      rw [HJ1.out] at o3
      have b3 := b2.trans (d.mono b2.size)
      have ol3 := owns_below HO.out d
      clear d
      go_wp2_with fail
      refine (same_eq _ _ _ _ _ _ o3 ol3 (by omega)).mono ?_
      rintro e w4 ⟨rfl, q, rfl⟩
      have b4 := below_drewN b3 q
      have ol4 := owns_drewN ol3 q
      have HJ2 : Hid (fieldsB (ahead (⟨#[32, 9]⟩ ++ tk ++ ⟨#[227, 128, 128, 32]⟩)) = L) := joined_blanks HW.out (by rw [app_data, app_data, HT.out]; simp)
      have hz2 : (⟨#[32, 9]⟩ ++ tk ++ ⟨#[227, 128, 128, 32]⟩ : ByteArray).size ≤ 4398046511104 := by
        rw [app_size, app_size]
        show 2 + tk.size + 4 ≤ _
        omega
      have HZ2 : Hid ((⟨#[32, 9]⟩ ++ tk ++ ⟨#[227, 128, 128, 32]⟩ : ByteArray).size ≤ 4398046511104) := hz2
      clear b3 ol3 o3 hz2
      go_wp2_with fail
      refine (fields_any _ _ HZ2.out).mono ?_
      rintro e w5 ⟨v5, rfl, o5, d⟩
      rw [HJ2.out] at o5
      have b5 := b4.trans (d.mono b4.size)
      have ol5 := owns_below ol4 d
      clear d b4 ol4
      go_wp2_with fail
      refine (same_eq _ _ _ _ _ _ o5 ol5 (by omega)).mono ?_
      rintro e w6 ⟨rfl, q6, rfl⟩
      have b6 := below_drewN b5 q6
      have ol6 := owns_drewN ol5 q6
      have HJ3 : Hid (fieldsB (ahead (tk ++ ⟨#[32, 35]⟩ ++ r)) = L) := joined_rest (R := r.data.toList) HW.out (by rw [app_data, app_data, HT.out]; simp)
      have hz3 : (tk ++ ⟨#[32, 35]⟩ ++ r : ByteArray).size ≤ 4398046511104 := by
        rw [app_size, app_size]
        show tk.size + 2 + r.size ≤ _
        omega
      have HZ3 : Hid ((tk ++ ⟨#[32, 35]⟩ ++ r : ByteArray).size ≤ 4398046511104) := hz3
      clear b5 ol5 o5 hz3
      go_wp2_with fail
      refine (fields_any _ _ HZ3.out).mono ?_
      rintro e w7 ⟨v7, rfl, o7, d⟩
      rw [HJ3.out] at o7
      have b7 := b6.trans (d.mono b6.size)
      have ol7 := owns_below ol6 d
      clear d b6 ol6
      go_wp2_with fail
      refine (same_eq _ _ _ _ _ _ o7 ol7 (by omega)).mono ?_
      rintro e w8 ⟨rfl, q8, rfl⟩
      go_wp2
      go_ret
      exact ⟨rfl, below_drewN b7 q8⟩
end Go.Proofs.Ytaahbklganhfkab
