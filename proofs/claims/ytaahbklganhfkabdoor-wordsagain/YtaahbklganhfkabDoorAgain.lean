import Derived.Test.YtaahbklganhfkabDoorFields
import Derived.Test.YtaahbklganhfkabDoorTxE
import Derived.Laws.DeepStrings4
namespace Go.Proofs.YtaahbklganhfkabDoor
open Go.RowKit
set_option linter.unusedVariables false

theorem app_data (s u : ByteArray) : (s ++ u).data.toList = s.data.toList ++ u.data.toList := by
  rw [ByteArray.data_append]
  simp
theorem app_size (s u : ByteArray) : (s ++ u).size = s.size + u.size := by simp

theorem cell_keep {w w' : World} {p : Addr} {v : Value} (h : w.cell? p = some v) (hb : Below w.heap.size w w') : w'.cell? p = some v := by
  have hlt : p.block < w.heap.size := by
    cases hx : w.heap[p.block]? with
    | none => simp [World.cell?, hx] at h
    | some o => exact (Array.getElem?_eq_some_iff.1 hx).1
  exact (hb.cell hlt).trans h

theorem ext_data (s : ByteArray) (a b : Nat) : (s.extract a b).data.toList = (s.data.toList.drop a).take (b - a) := Lib.extract_data s a b

theorem chunk {h : ByteArray} {l : List UInt8} (hh : h.data.toList = 48 :: 120 :: l) {m : Nat} (hm : m < l.length) : (h.extract (m + 2) (m + 3)).data.toList = [l[m]] := by
  rw [ext_data, hh, show m + 3 - (m + 2) = 1 by omega]
  simp only [List.drop_succ_cons]
  rw [List.drop_eq_getElem_cons hm]
  rfl
theorem und_take {l : List UInt8} {m : Nat} (hm : m < l.length) : und (l.take (m + 1)) = if m = 0 then [l[m]] else und (l.take m) ++ [95, l[m]] := by
  rw [List.take_succ_eq_append_getElem hm, und_snoc]
  by_cases hk : m = 0
  · subst hk
    simp
  · rw [if_neg hk, if_neg]
    intro e
    have := congrArg List.length e
    rw [List.length_take] at this
    simp only [List.length_nil] at this
    omega
theorem chunk_size (h : ByteArray) (m : Nat) : (h.extract (m + 2) (m + 3)).size ≤ 1 := by
  simp
  omega
theorem slice_one (h : ByteArray) (m : Nat) (hm : m + 3 ≤ h.size) (wx : World) : (Instr.slice 9 (.string h) (some (.int .i64 ((m : Int) + 2))) (some (.int .i64 ((m : Int) + 2 + 1))) none).run Tryd.prog wx = .ok (.string (h.extract (m + 2) (m + 3))) wx := by
  rw [run_slice_string_if wx 9 h .i64 .i64 _ _ Tryd.underlying9, if_pos (by omega), if_pos (by omega)]
  rw [show ((m : Int) + 2).toNat = m + 2 by omega, show ((m : Int) + 2 + 1).toNat = m + 3 by omega]

theorem one_size (c : UInt8) : (⟨#[c]⟩ : ByteArray).size = 1 := rfl

theorem val_lt {v : Nat} (h : v < 1099511627776) : numV (val v) = v ∧ numE (val v) = 0 := by
  unfold val
  rw [if_pos h]
  exact ⟨rfl, rfl⟩
theorem val_ge {v : Nat} (h : ¬ v < 1099511627776) : numV (val v) = 0 ∧ numE (val v) = 11 := by
  unfold val
  rw [if_neg h]
  exact ⟨rfl, rfl⟩

/-- Five texts in a block. -/
structure Five (w : World) (B : Nat) (t0 t1 t2 t3 t4 : ByteArray) : Prop where
  c0 : w.cell? ⟨B, 0, none⟩ = some (.string t0)
  c1 : w.cell? ⟨B, 1, none⟩ = some (.string t1)
  c2 : w.cell? ⟨B, 2, none⟩ = some (.string t2)
  c3 : w.cell? ⟨B, 3, none⟩ = some (.string t3)
  c4 : w.cell? ⟨B, 4, none⟩ = some (.string t4)
theorem five_new (w : World) (t0 t1 t2 t3 t4 : ByteArray) : Five (w.alloc (.cells #[.string t0, .string t1, .string t2, .string t3, .string t4] 9)) w.heap.size t0 t1 t2 t3 t4 := by
  constructor <;> simp
theorem Five.keep {w w' : World} {B : Nat} {t0 t1 t2 t3 t4 : ByteArray} (h : Five w B t0 t1 t2 t3 t4) (hb : Below w.heap.size w w') : Five w' B t0 t1 t2 t3 t4 :=
  ⟨cell_keep h.c0 hb, cell_keep h.c1 hb, cell_keep h.c2 hb, cell_keep h.c3 hb, cell_keep h.c4 hb⟩
/-- Five texts that all write one number. -/
def Texts (W : World) (B v : Nat) : Prop := ∀ j, j < 5 → ∃ t, W.cell? ⟨B, j, none⟩ = some (.string t) ∧ numAll t = val v ∧ t.size ≤ 4611686018427387904
theorem Five.texts {w : World} {B v : Nat} {t0 t1 t2 t3 t4 : ByteArray} (h : Five w B t0 t1 t2 t3 t4) (h0 : numAll t0 = val v ∧ t0.size ≤ 4611686018427387904) (h1 : numAll t1 = val v ∧ t1.size ≤ 4611686018427387904)
    (h2 : numAll t2 = val v ∧ t2.size ≤ 4611686018427387904) (h3 : numAll t3 = val v ∧ t3.size ≤ 4611686018427387904) (h4 : numAll t4 = val v ∧ t4.size ≤ 4611686018427387904) : Texts w B v := by
  intro j hj
  rcases (show j = 0 ∨ j = 1 ∨ j = 2 ∨ j = 3 ∨ j = 4 by omega) with rfl | rfl | rfl | rfl | rfl
  · exact ⟨_, h.c0, h0⟩
  · exact ⟨_, h.c1, h1⟩
  · exact ⟨_, h.c2, h2⟩
  · exact ⟨_, h.c3, h3⟩
  · exact ⟨_, h.c4, h4⟩
theorem Texts.keep {w w' : World} {B v : Nat} (h : Texts w B v) (hb : Below w.heap.size w w') : Texts w' B v := by
  intro j hj
  obtain ⟨t, a, b⟩ := h j hj
  exact ⟨t, cell_keep a hb, b⟩

theorem size_of {s : ByteArray} {l : List UInt8} (h : s.data.toList = l) (hl : l.length ≤ 1000) : s.size ≤ 4611686018427387904 := by
  rw [Lib.size_eq, h]
  omega

theorem app1d (c : UInt8) (out : List UInt8) : (⟨#[c]⟩ ++ ⟨out.toArray⟩ : ByteArray) = ⟨(c :: out).toArray⟩ := app1 c out

set_option maxRecDepth 100000 in
set_option maxHeartbeats 3000000 in
/-- atlaslaw01.WordsAgain. -/
theorem law_again (v : Nat) (z : Int) (w : World) (hv : v < 18446744073709551616) (hz0 : -9223372036854775808 ≤ z) (hz1 : z ≤ 9223372036854775807) (hc : w.cell? ⟨3, 15, none⟩ = some (.int .u8 4)) :
    Calls Tryd.prog 4 #[.int .u64 v, .int .i64 z] w fun e w' => e = .returned (.bool true) ∧ Below w.heap.size w w' := by
  have HL : Hid ((hexL v).length ≤ 17) := hexL_len v
  have HNE : Hid (hexL v ≠ []) := hexL_ne hv
  go_enter Tryd.func4, Tryd.ntmps4
  go_wp2_with fail
  refine (alive_any _).mono ?_
  rintro e w1 ⟨rfl, b1⟩
  have hc1 := cell_keep hc b1
  go_wp2_with fail
  refine (hex_any _ _ hv hc1).mono ?_
  rintro e w2 ⟨rfl, d⟩
  have b2 := b1.trans (d.mono b1.size)
  clear d b1 hc1 hc
  generalize hh : (⟨([48, 120] ++ hexL v).toArray⟩ : ByteArray) = h
  have HH : Hid (h.data.toList = 48 :: 120 :: hexL v) := by rw [← hh]; show _ = _; simp
  clear hh
  have hsz : h.size = (hexL v).length + 2 := by rw [Lib.size_eq, HH.out]; simp
  have hs1 : 3 ≤ h.size := by
    have := List.length_pos_iff.2 HNE.out
    omega
  have hs2 : h.size ≤ 19 := by have := HL.out; omega
  have HSZ : Hid (_ = _) := hsz
  have hpre : ((h.extract 0 2).toList == [48, 120]) = true := by
    rw [Lib.extract_toList, HH.out]
    rfl
  clear hsz
  have hm1 : z.tmod 40 < 40 := by
    have := Int.tmod_lt_of_pos z (show (0 : Int) < 40 by omega)
    omega
  have hm2 : -40 < z.tmod 40 := by
    have := Int.neg_tmod z 40
    have h3 := Int.tmod_lt_of_pos (-z) (show (0 : Int) < 40 by omega)
    omega
  go_wp2
  go_loop [6, 7] (fun t i => ∃ (k : Nat) (a : ByteArray), k ≤ 40 ∧ i = .int .i64 k ∧ t = .string a ∧ Hid (a.data.toList = List.replicate k 48)) (fun _ i => (z.tmod 40 - intOf i).toNat)
  case atStart => exact ⟨0, _, by omega, rfl, rfl, rfl⟩
  case round =>
    obtain ⟨k, a, hk, rfl, rfl, HA⟩ := hrel
    have hasz : a.size ≤ 40 := by
      rw [Lib.size_eq, HA.out]
      simpa using hk
    by_cases hlt : (k : Int) < z.tmod 40
    · go_wp2
      go_round
      case rel => exact ⟨k + 1, _, by omega, by go_num, rfl, by
        show _ = _
        rw [app_data, HA.out, List.replicate_succ']⟩
      case measure =>
        simp [intOf]
        omega
    · go_wp2
      go_loop [8, 9] (fun t i => ∃ (m : Nat) (u : ByteArray), m ≤ (hexL v).length ∧ i = .int .i64 ((m : Int) + 2) ∧ t = .string u ∧ u.size ≤ 100 ∧ Hid (u.data.toList = 48 :: 120 :: und ((hexL v).take m) ∧ u.size ≤ 2 + 2 * m)) (fun _ i => h.size - (intOf i).toNat)
      case atStart => exact ⟨0, _, by omega, rfl, rfl, by decide, rfl, by decide⟩
      case round =>
        clear hk
        obtain ⟨m, u, hm, rfl, rfl, hus, HU⟩ := hrel
        have hln := HL.out
        have hhs := HSZ.out
        have HHS : Hid (_ = _) := hhs
        clear hhs
        by_cases hmx : (m : Int) + 2 < (h.size : Int)
        · have hml : m < (hexL v).length := by have := HHS.out; omega
          have HCH : Hid (_ = _) := chunk HH.out hml
          have HUT : Hid (_ = _) := und_take hml
          have hcs := chunk_size h m
          by_cases hm0 : m = 0
          · subst hm0
            go_wp2
            go_round
            case rel =>
              have hu := HU.out
              refine ⟨1, _, by omega, by go_num, rfl, ?_, ?_, ?_⟩
              · rw [app_size]
                have h1 : (h.extract 2 3).size ≤ 1 := hcs
                omega
              · rw [app_data, hu.1, HUT.out, if_pos rfl, show (h.extract 2 3).data.toList = _ from HCH.out]
                rfl
              · rw [app_size]
                have h1 : (h.extract 2 3).size ≤ 1 := hcs
                omega
            case measure =>
              simp [intOf]
              omega
          · have hm2 : (2 : Int) < (m : Int) + 2 := by omega
            have hus2 : u.size ≤ 34 := by have := HU.out.2; omega
            have hx1 : (m : Int) + 2 ≤ (m : Int) + 2 + 1 := by omega
            have hx2 : (m : Int) + 2 + 1 ≤ (h.size : Int) := by omega
            have hsl := slice_one h m (by omega)
            have h1s := one_size 95
            go_wp2
            go_round
            case rel =>
              have hu := HU.out
              refine ⟨m + 1, _, by omega, by go_num, rfl, ?_, ?_, ?_⟩
              · rw [app_size, app_size]
                omega
              · rw [app_data, app_data, hu.1, HUT.out, if_neg hm0, HCH.out]
                simp
              · rw [app_size, app_size]
                omega
            case measure =>
              simp [intOf]
              omega
        · have hmm : m = (hexL v).length := by have := HHS.out; omega
          have HUU : Hid (u.data.toList = 48 :: 120 :: und (hexL v)) := by
            have := HU.out.1
            rw [hmm, List.take_length] at this
            exact this
          clear hmm HU
          go_wp2
          go_loopw [10, 11] (fun t x wr => ∃ (n f : Nat) (out : List UInt8), x = .int .u64 n ∧ t = .string ⟨out.toArray⟩ ∧ Below w.heap.size w wr ∧ decAcc (f + 1) n out = decL v ∧ n < 10 ^ (f + 1) ∧ n < 18446744073709551616 ∧ out.length + f ≤ 19) (fun _ x _ => (intOf x).toNat)
          case atStart => exact ⟨v, 19, [], rfl, rfl, b2, rfl, by omega, hv, by simp⟩
          case round =>
            clear b2
            obtain ⟨n, f, out, rfl, rfl, hB, hdd, hn, hn64, hol⟩ := hrel
            have HDD : Hid (_ = _) := hdd
            clear hdd
            have hlt10 : n % 10 < 10 := Nat.mod_lt _ (by omega)
            obtain ⟨c, hc⟩ : ∃ c, hxd (n % 10) = c := ⟨_, rfl⟩
            have hcn : ((c.toNat : Nat) : Int) = 48 + (n : Int) % 10 := by
              rw [← hc]
              unfold hxd
              rw [if_pos hlt10]
              simp
              omega
            have HC : Hid (_ = _) := hc
            have hcv : (convert 26 9 (.slice (some ⟨wr.heap.size, 0, none⟩) 1 1)).run Tryd.prog (wr.alloc (.cells #[.int .u8 (48 + (n : Int) % 10)] 5)) = .ok (.string ⟨#[c]⟩) (wr.alloc (.cells #[.int .u8 (48 + (n : Int) % 10)] 5)) := by
              have h0 := run_convert_bytes_back (P := Tryd.prog) (wr.alloc (.cells #[.int .u8 (c.toNat : Int)] 5)) 26 9 5 ⟨wr.heap.size, 0, none⟩ 1 [c] Tryd.underlying26 Tryd.underlying5 Tryd.underlying9 (fun j hj => by
                have : j = 0 := by simpa using hj
                subst this
                simp [Addr.add])
              rw [hcn] at h0
              exact h0
            have hosz : (⟨out.toArray⟩ : ByteArray).size ≤ 19 := by show out.toArray.size ≤ 19; simp; omega
            have HCN : Hid (_ = _) := hcn
            clear hc hcn
            by_cases h10 : n < 10
            · have HTEN : Hid (c :: out = decL v) := by
                rw [← HDD.out, decAcc_last h10, ← HC.out, Nat.mod_eq_of_lt h10]
                rfl
              have hb10 : decide ((n : Int) < 10) = true := decide_eq_true (by omega)
              have HT3L : Hid ((⟨#[c]⟩ ++ ⟨out.toArray⟩ : ByteArray).data.toList = decL v) := by
                rw [app1, ← HTEN.out]
                rfl
              have HX2 : Hid ((h.extract 2 h.size).data.toList = hexL v) := by
                rw [ext_data, HH.out]
                simp only [List.drop_succ_cons, List.drop_zero]
                rw [List.take_of_length_le (by have := HSZ.out; omega)]
                rfl
              have hxs : (h.extract 2 h.size).size ≤ 19 := by simp; omega
              have h2s : (⟨#[48, 120]⟩ : ByteArray).size = 2 := rfl
              have h1c : (⟨#[c]⟩ : ByteArray).size = 1 := rfl
              go_wp2
              generalize ht1 : (⟨#[48, 120]⟩ ++ a ++ h.extract 2 h.size : ByteArray) = t1
              generalize ht4 : (a ++ (⟨#[c]⟩ ++ ⟨out.toArray⟩) : ByteArray) = t4
              generalize ht3 : (⟨#[c]⟩ ++ ⟨out.toArray⟩ : ByteArray) = t3 at ht4 HT3L ⊢
              have HT0 : Hid (numAll h = val v) := text1 hv HH.out
              have HZ0 : Hid (h.size ≤ 4611686018427387904) := by show _ ≤ _; omega
              have hd1 : t1.data.toList = 48 :: 120 :: (List.replicate k 48 ++ hexL v) := by
                rw [← ht1, app_data, app_data, HA.out, HX2.out]
                simp
              have HT1 : Hid (numAll t1 = val v) := text2 hv hd1
              have HZ1 : Hid (t1.size ≤ 4611686018427387904) := by
                show _ ≤ _
                rw [← ht1, app_size, app_size]
                omega
              have HT2 : Hid (numAll u = val v) := text3 hv HUU.out
              have HZ2 : Hid (u.size ≤ 4611686018427387904) := by show _ ≤ _; omega
              have HT3 : Hid (numAll t3 = val v) := text4 hv HT3L.out
              have ht3s : t3.size ≤ 20 := by
                rw [← ht3, app_size]
                omega
              have HZ3 : Hid (t3.size ≤ 4611686018427387904) := by show _ ≤ _; omega
              have hd4 : t4.data.toList = List.replicate k 48 ++ decL v := by rw [← ht4, app_data, HA.out, HT3L.out]
              have HT4 : Hid (numAll t4 = val v) := text5 hv hd4
              have HZ4 : Hid (t4.size ≤ 4611686018427387904) := by
                show _ ≤ _
                rw [← ht4, app_size]
                omega
              have hd5 : (h ++ ⟨#[95]⟩).data.toList = 48 :: 120 :: (hexL v ++ [95]) := by
                rw [app_data, HH.out]
                rfl
              have HT5 : Hid (numAll (h ++ ⟨#[95]⟩) = none) := text6 hv hd5
              have HZ5 : Hid ((h ++ ⟨#[95]⟩).size ≤ 4611686018427387904) := by
                show _ ≤ _
                rw [app_size]
                show h.size + 1 ≤ _
                omega
              clear ht1 ht3 ht4 hd1 hd4 hd5 HT3L
              have hws : (wr.alloc (.cells #[.int .u8 (48 + (n : Int) % 10)] 5)).heap.size = wr.heap.size + 1 := by simp
              have HF : Hid (Five ((wr.alloc (.cells #[.int .u8 (48 + (n : Int) % 10)] 5)).alloc (.cells #[.string h, .string t1, .string u, .string t3, .string t4] 9)) (wr.heap.size + 1) h t1 u t3 t4) := by
                have := five_new (wr.alloc (.cells #[.int .u8 (48 + (n : Int) % 10)] 5)) h t1 u t3 t4
                rw [hws] at this
                exact this
              have HB : Hid (Below w.heap.size w ((wr.alloc (.cells #[.int .u8 (48 + (n : Int) % 10)] 5)).alloc (.cells #[.string h, .string t1, .string u, .string t3, .string t4] 9))) :=
                (hB.alloc hB.size _).alloc (by have := hB.size; omega) _
              clear hws hcv hB hn hn64 hol hlt10 h10 hosz hxs h2s h1c ht3s hus hmx hlt hasz hpre hm1 hm2 hm hln hz0 hz1
              have HX : Hid (Texts ((wr.alloc (.cells #[.int .u8 (48 + (n : Int) % 10)] 5)).alloc (.cells #[.string h, .string t1, .string u, .string t3, .string t4] 9)) (wr.heap.size + 1) v) :=
                HF.out.texts ⟨HT0.out, HZ0.out⟩ ⟨HT1.out, HZ1.out⟩ ⟨HT2.out, HZ2.out⟩ ⟨HT3.out, HZ3.out⟩ ⟨HT4.out, HZ4.out⟩
              clear HF HT0 HT1 HT2 HT3 HT4 HZ0 HZ1 HZ2 HZ3 HZ4
              by_cases hT : v < 1099511627776
              · have HV : Hid (_ ∧ _) := val_lt hT
                have hT2 : (v : Int) < 1099511627776 := by omega
                generalize hx : (v : Int) = x at HV hT2 ⊢
                clear hx hT hv
                go_loopw [13, 14, 15] (fun i _ _ wx => ∃ k : Nat, k ≤ 5 ∧ i = .int .i64 k ∧ Below w.heap.size w wx ∧ Texts wx (wr.heap.size + 1) v) (fun i _ _ _ => 5 - (intOf i).toNat)
                case atStart => exact ⟨0, by omega, rfl, HB.out, HX.out⟩
                case round =>
                  obtain ⟨k5, h5, rfl, hB, hF⟩ := hrel
                  by_cases hk5 : k5 < 5
                  · obtain ⟨tx, cc, hnum, hz⟩ := hF k5 hk5
                    have HNUM : Hid (_ = _) := hnum
                    have j0 : (0 : Int) ≤ (k5 : Int) := by omega
                    have j1 : (k5 : Int) < 5 := by omega
                    clear hnum
                    go_wp2_with fail
                    refine (number_any _ _ hz).mono ?_
                    rintro e u2 ⟨rfl, d⟩
                    rw [HNUM.out, HV.out.1, HV.out.2]
                    have HB2 : Hid (Below w.heap.size w u2) := hB.trans (d.mono hB.size)
                    have HF2 : Hid (Texts u2 _ v) := hF.keep d
                    clear d cc hz
                    go_wp2
                    go_roundw
                    case rel => first | exact ⟨k5 + 1, by omega, by go_num, HB2.out, HF2.out⟩ | ((repeat apply Exists.intro); refine ⟨⟨k5 + 1, by omega, ?_, HB2.out, HF2.out⟩, rfl⟩; go_num)
                    case measure =>
                      simp [intOf]
                      omega
                  · have hk : k5 = 5 := by omega
                    subst hk
                    go_wp2_with fail
                    refine (number_any _ _ HZ5.out).mono ?_
                    rintro e u2 ⟨rfl, d⟩
                    rw [HT5.out, numV_none, numE_none]
                    have hB2 := hB.trans (d.mono hB.size)
                    clear d
                    go_wp2
                    go_ret
                    exact ⟨rfl, hB2⟩
              · have HV : Hid (_ ∧ _) := val_ge hT
                have hb1 : decide ((v : Int) < 1099511627776) = false := decide_eq_false (by omega)
                have hb2 : decide ((1099511627776 : Int) ≤ (v : Int)) = true := decide_eq_true (by omega)
                generalize hx : (v : Int) = x at HV hb1 hb2 ⊢
                clear hx hT hv
                go_loopw [13, 14, 15] (fun i _ _ wx => ∃ k : Nat, k ≤ 5 ∧ i = .int .i64 k ∧ Below w.heap.size w wx ∧ Texts wx (wr.heap.size + 1) v) (fun i _ _ _ => 5 - (intOf i).toNat)
                case atStart => exact ⟨0, by omega, rfl, HB.out, HX.out⟩
                case round =>
                  obtain ⟨k5, h5, rfl, hB, hF⟩ := hrel
                  by_cases hk5 : k5 < 5
                  · obtain ⟨tx, cc, hnum, hz⟩ := hF k5 hk5
                    have HNUM : Hid (_ = _) := hnum
                    have j0 : (0 : Int) ≤ (k5 : Int) := by omega
                    have j1 : (k5 : Int) < 5 := by omega
                    clear hnum
                    go_wp2_with fail
                    refine (number_any _ _ hz).mono ?_
                    rintro e u2 ⟨rfl, d⟩
                    rw [HNUM.out, HV.out.1, HV.out.2]
                    have HB2 : Hid (Below w.heap.size w u2) := hB.trans (d.mono hB.size)
                    have HF2 : Hid (Texts u2 _ v) := hF.keep d
                    clear d cc hz
                    go_wp2
                    go_roundw
                    case rel => first | exact ⟨k5 + 1, by omega, by go_num, HB2.out, HF2.out⟩ | ((repeat apply Exists.intro); refine ⟨⟨k5 + 1, by omega, ?_, HB2.out, HF2.out⟩, rfl⟩; go_num)
                    case measure =>
                      simp [intOf]
                      omega
                  · have hk : k5 = 5 := by omega
                    subst hk
                    go_wp2_with fail
                    refine (number_any _ _ HZ5.out).mono ?_
                    rintro e u2 ⟨rfl, d⟩
                    rw [HT5.out, numV_none, numE_none]
                    have hB2 := hB.trans (d.mono hB.size)
                    clear d
                    go_wp2
                    go_ret
                    exact ⟨rfl, hB2⟩
            · cases f with
              | zero => exact absurd hn (by omega)
              | succ f =>
                go_wp2
                go_roundw
                case rel =>
                  refine ⟨n / 10, f, c :: out, by go_num, ?_, hB.alloc hB.size _, ?_, ?_, by omega, by simp; omega⟩
                  · exact congrArg Value.string (app1 c out)
                  · rw [← HDD.out, decAcc_step h10, HC.out]
                  · rw [Nat.div_lt_iff_lt_mul (by omega), ← Nat.pow_succ]
                    exact hn
                case measure =>
                  simp [intOf]
                  omega
end Go.Proofs.YtaahbklganhfkabDoor
