import Derived.Test.YtplobjdghaokoabMt
namespace Go.Proofs.Ytplobjdghaokoab
open Go.RowKit
set_option linter.unusedVariables false

theorem mem_bit {cs : List Cut} (h : Srt cs) {k : Nat} {c : Cut} {i : Nat} (hk : cs[k]? = some c) (hi : i < 4) : decide (4 * (c.f : Int) + i ∈ tabsL cs) = c.b i := by
  cases hb : c.b i with
  | true => exact decide_eq_true ((mem_tabsL cs _).2 ⟨c, List.mem_of_getElem? hk, i, hi, hb, rfl⟩)
  | false => exact decide_eq_false (tabs_set h hk hi hb).1
theorem left_of {c : Cut} {i : Nat} (hi : i < 4) (h1 : c.b i = false) (h2 : ∀ j, j < i → c.b j = true) : c.left = i := by
  unfold Cut.left
  rcases (show i = 0 ∨ i = 1 ∨ i = 2 ∨ i = 3 by omega) with rfl | rfl | rfl | rfl
  · rw [if_pos h1]; rfl
  · rw [if_neg (by simp [h2 0]), if_pos h1]; rfl
  · rw [if_neg (by simp [h2 0]), if_neg (by simp [h2 1]), if_pos h1]; rfl
  · rw [if_neg (by simp [h2 0]), if_neg (by simp [h2 1]), if_neg (by simp [h2 2]), if_pos h1]; rfl
theorem framesL_at {cs : List Cut} {i : Nat} {c : Cut} (h : cs[i]? = some c) : (framesL cs)[i]? = some (c.f : Int) := by unfold framesL; rw [List.getElem?_map, h]; rfl
/-- A slab's Take, of the reference's. -/
def RTk (f0 : Nat) (v : List Nat) (cs : List Cut) (e : Ending) (v' : List Nat) (T' : List Int) : Prop := ∃ r0 e0 cs', e = .returned (.tuple #[.int .i64 r0, .int .i64 e0]) ∧ SlT f0 v cs r0 e0 v' cs' ∧ T' = tabsL cs'

theorem posOf_ex (cs : List Cut) (f : Nat) : Srt cs → ∃ k, PosOf cs f k := by
  induction cs with
  | nil => intro _; exact ⟨0, Nat.le_refl _, fun t c ht => by omega, fun t c _ h => by simp at h⟩
  | cons c r ih =>
    intro h
    unfold Srt at h
    rw [List.pairwise_cons] at h
    by_cases hf : f ≤ c.f
    · refine ⟨0, Nat.zero_le _, fun t d ht => by omega, fun t d _ hd => ?_⟩
      rcases List.mem_cons.1 (List.mem_of_getElem? hd) with rfl | hm
      · exact hf
      · have := h.1 d hm; omega
    · obtain ⟨k, h1, h2, h3⟩ := ih h.2
      refine ⟨k + 1, by simp; exact h1, fun t d ht hd => ?_, fun t d ht hd => ?_⟩
      · cases t with
        | zero => simp at hd; subst hd; omega
        | succ t => exact h2 t d (by omega) (by simpa using hd)
      · cases t with
        | zero => omega
        | succ t => exact h3 t d (by omega) (by simpa using hd)
theorem posOf_eq {cs : List Cut} {f k k' : Nat} (h : PosOf cs f k) (h' : PosOf cs f k') : k = k' := by
  rcases Nat.lt_trichotomy k k' with h1 | h1 | h1
  · obtain ⟨c, hc⟩ : ∃ c, cs[k]? = some c := ⟨_, List.getElem?_eq_getElem (by have := h'.1; omega)⟩
    have := h'.2.1 k c h1 hc
    have := h.2.2 k c (Nat.le_refl _) hc
    omega
  · exact h1
  · obtain ⟨c, hc⟩ : ∃ c, cs[k']? = some c := ⟨_, List.getElem?_eq_getElem (by have := h.1; omega)⟩
    have := h.2.1 k' c h1 hc
    have := h'.2.2 k' c (Nat.le_refl _) hc
    omega
theorem rs_fin {W w1 w2 : World} {S : Nat → Prop} {t r : Nat} {T T' : List Int} (h : RS W S t r T) (hz : W.heap.size ≤ w1.heap.size) (hz2 : w1.heap.size ≤ w2.heap.size) (h2 : RS w2 (gr S w1 w2) t r T') : RS w2 (gr S W w2) t r T' :=
  h2.mono (fun b hb => by
    rcases hb with hb | hb
    · exact .inl hb
    · exact .inr ⟨by omega, hb.2⟩) (fun b hb => by
    rcases hb with hb | hb
    · have := h.lowb b hb; omega
    · exact hb.2)
theorem ret_ii' {a b a' b' : Int} (h1 : a = a') (h2 : b = b') : Ending.returned (.tuple #[.int .i64 a, .int .i64 b]) = .returned (.tuple #[.int .i64 a', .int .i64 b']) := by rw [h1, h2]

set_option maxHeartbeats 16000000 in
set_option maxRecDepth 100000 in
theorem rsTake_any (W : World) (S : Nat → Prop) (t r rb f0 : Nat) (v : List Nat) (cs : List Cut) (h : RS W S t r (tabsL cs)) (hP : RP W r rb f0 v) (hp1 : ¬ S r) (hp2 : ¬ S rb) (hsrt : Srt cs) (hany : ∀ c ∈ cs, c.any = true) (hfb : ∀ c ∈ cs, c.f < 268435456) (hU : Used f0 v cs) :
    Calls Try.prog 24 #[.pointer (some ⟨t, 0, none⟩)] W fun e W' => ∃ v' T', RTk f0 v cs e v' T' ∧ RS W' (gr S W W') t r T' ∧ RP W' r rb f0 v' ∧ Turn (GrowS S r rb) W W' := by
  have hlen := srt_len hsrt hfb
  have htl : (tabsL cs).length ≤ 1073741824 := by have := tabsL_len cs; omega
  have hfr := rsFrames_any W S t r (tabsL cs) h htl (tabsL_bd hfb)
  rw [fs_tabs hsrt hany, framesL_len] at hfr
  have HA : Hid (RS W S t r (tabsL cs) ∧ RP W r rb f0 v ∧ ¬ S r ∧ ¬ S rb ∧ Srt cs ∧ (∀ c ∈ cs, c.any = true) ∧ (∀ c ∈ cs, c.f < 268435456) ∧ Used f0 v cs) := ⟨h, hP, hp1, hp2, hsrt, hany, hfb, hU⟩
  have hPn := hP.n2
  clear h hP hp1 hp2 hsrt hany hfb hU
  generalize hn : cs.length = n at *
  have HN : Hid (cs.length = n) := hn
  clear hn
  go_enter Try.func24, Try.ntmps24
  go_wp2_with (first
    | (go_at_call 31; refine hfr.mono ?_; clear hfr; rintro e w1 ⟨x1, rfl, ho1, ht1⟩;
       have ho1' : w1.ownsRow W.heap.size 3 1 x1 (framesL cs).length (encI (framesL cs)) := (by rw [framesL_len, HN.out]; exact ho1);
       obtain ⟨la, lc, rfl, hia, _⟩ := own_iat ho1';
       have hlt : ∀ g, la = some ⟨g, 0, none⟩ → g ≠ t := (by
         intro g hg
         obtain ⟨cur, hcur, _⟩ := own_row ho1' (b := g) (by rw [hg]; rfl)
         obtain ⟨v0, q1, _⟩ := (HA.out.1.keep ht1 (fun _ _ h => h)).ex
         exact hcur.ne q1 (by decide));
       have HW1 : Hid (RS w1 S t r (tabsL cs) ∧ RP w1 r rb f0 v ∧ Turn (fun _ => False) W w1 ∧ IAt w1 la (framesL cs) ∧ ∀ g, la = some ⟨g, 0, none⟩ → g ≠ t) := ⟨HA.out.1.keep ht1 (fun _ _ h => h), HA.out.2.1.keep ht1 (fun h => h) (fun h => h), ht1, hia, hlt⟩;
       rw [framesL_len, HN.out];
       clear ho1 ho1' ht1 hia hlt)
    | go_in)
  go_loop [5] (fun s5 => ∃ i : Nat, i ≤ n ∧ s5 = .int .i64 i ∧ Hid (∀ (j : Nat) (d : Cut), j < i → cs[j]? = some d → d.left = -1)) (fun s5 => n - (intOf s5).toNat)
  case atStart => exact ⟨0, Nat.zero_le _, rfl, fun j d hj => by omega⟩
  case round =>
    obtain ⟨i, hi, rfl, HF⟩ := hrel
    by_cases hin : i < n
    · obtain ⟨c, hc⟩ : ∃ c, cs[i]? = some c := ⟨_, List.getElem?_eq_getElem (by rw [HN.out]; exact hin)⟩
      obtain ⟨g, rfl, _, hcf⟩ := HW1.out.2.2.2.1 i _ (framesL_at hc)
      have HGT : Hid (g ≠ t) := HW1.out.2.2.2.2 g rfl
      have hcb := HA.out.2.2.2.2.2.2.1 c (List.mem_of_getElem? hc)
      have HC : Hid (cs[i]? = some c) := hc
      clear hc
      have hiz : (i : Int) < (n : Int) := by omega
      go_wp2
      go_loop [6] (fun s6 => ∃ k : Nat, k ≤ 4 ∧ s6 = .int .i64 k ∧ Hid (∀ j, j < k → c.b j = true)) (fun s6 => 4 - (intOf s6).toNat)
      case atStart => exact ⟨0, by omega, rfl, fun j hj => by omega⟩
      case round =>
        obtain ⟨k, hk, rfl, HB⟩ := hrel
        by_cases hk4 : k < 4
        · have hkz : (k : Int) < 4 := by omega
          have hha := rsHas_any w1 S t r (tabsL cs) (4 * (c.f : Int) + k) HW1.out.1 htl
          rw [mem_bit HA.out.2.2.2.2.1 HC.out hk4] at hha
          cases hb : c.b k with
          | true =>
            rw [hb] at hha
            have HBB : Hid (c.b k = true) := hb
            clear hb
            go_wp2_with (first | (go_at_call 49; refine hha.mono ?_; rintro e w' ⟨rfl, rfl⟩) | go_in)
            go_round
            case rel => exact ⟨k + 1, by omega, by go_num, fun j hj => by
              by_cases e : j = k
              · rw [e]; exact HBB.out
              · exact HB.out j (by omega)⟩
            case measure => simp [intOf]; omega
          | false =>
            rw [hb] at hha
            have hput := rsPut_any w1 S t r (tabsL cs) (4 * (c.f : Int) + k) HW1.out.1 htl
            rw [← (tabs_set HA.out.2.2.2.2.1 HC.out hk4 hb).2] at hput
            have HT : Hid (SlT f0 v cs (4 * (c.f : Int) + k) 0 v (cs.set i (c.put k true))) := .inl ⟨i, c, k, HC.out, HF.out, left_of hk4 hb HB.out, rfl, rfl, rfl, rfl⟩
            clear hb
            go_wp2_with (first
              | (go_at_call 49; refine hha.mono ?_; rintro e w' ⟨rfl, rfl⟩)
              | (go_at_call 50; refine hput.mono ?_; clear hput; rintro e w2 ⟨rfl, hs2, ht2⟩;
                 have hcf2 : w2.cell? ⟨g, i, none⟩ = some (.int .i64 (c.f : Int)) := (by rw [ht2.cell (World.block_lt_of_cell? w1 _ hcf) HGT.out]; exact hcf);
                 have HS2 : Hid (RS w2 (gr S w1 w2) t r (tabsL (cs.set i (c.put k true))) ∧ Turn (· = t) w1 w2) := ⟨hs2, ht2⟩; clear hs2 ht2)
              | go_in)
            go_ret2
            have hA := HA.out
            have hW1 := HW1.out
            exact ⟨v, _, ⟨_, _, _, ret_ii' (by first | rfl | omega) rfl, HT.out, rfl⟩, rs_fin hA.1 hW1.2.2.1.size HS2.out.2.size HS2.out.1, hW1.2.1.keep HS2.out.2 (fun e => hA.2.2.1 (by rw [e]; exact hA.1.St)) (fun e => hA.2.2.2.1 (by rw [e]; exact hA.1.St)), (hW1.2.2.1.mono (S' := GrowS S r rb) (fun _ _ h => h.elim)).trans HS2.out.2 (fun b hb => .inl (.inl (by rw [hb]; exact hA.1.St)))⟩
        · obtain rfl : k = 4 := by omega
          have HL : Hid (c.left = -1) := Cut.left_full.2 HB.out
          go_wp2
          go_round
          case rel =>
            refine ⟨i + 1, by omega, by go_num, fun j d hj hd => ?_⟩
            by_cases e : j = i
            · subst e
              rw [HC.out] at hd
              cases hd
              exact HL.out
            · exact HF.out j d (by omega) hd
          case measure => simp [intOf]; omega
    · obtain rfl : i = n := by omega
      have HFL : Hid (∀ c ∈ cs, c.left = -1) := fun c hc => by
        obtain ⟨j, hj⟩ := List.mem_iff_getElem?.1 hc
        exact HF.out j c (by have := (List.getElem?_eq_some_iff.1 hj).1; rw [HN.out] at this; exact this) hj
      obtain ⟨v0, q1, _⟩ := HW1.out.1.ex
      have c0 : w1.cell? ⟨t, 0, none⟩ = some (.pointer (some ⟨r, 0, none⟩)) := by rw [q1.cell]; rfl
      clear q1
      have htk := rtake_any w1 r rb f0 v 1 1 HW1.out.2.1 (by omega)
      have hone := takeR_one f0 v
      rcases tk_cases f0 v 1 1 with ⟨t0, hk, hfit, hno⟩ | ⟨hk, hno⟩
      · rw [hk] at hone
        rw [hone] at htk
        clear hone hfit hno
        have htl := (tk_free hk).2
        have hput := fun (w2 : World) (h2 : RS w2 S t r (tabsL cs)) => rsPut_any w2 S t r (tabsL cs) (4 * ((f0 + t0 : Nat) : Int)) h2 ‹(tabsL cs).length ≤ 1073741824›
        obtain ⟨k, hpos⟩ := posOf_ex cs (f0 + t0) HA.out.2.2.2.2.1
        have hti := (tabs_ins HA.out.2.2.2.2.1 hpos (used_new HA.out.2.2.2.2.2.2.2 hk)).2
        rw [← hti] at hput
        have HT : Hid (SlT f0 v cs (4 * ((f0 + t0 : Nat) : Int)) 0 (mdr (fun _ => 1) v t0 1) (cs.take k ++ [(⟨f0 + t0, fun _ => false⟩ : Cut).put 0 true] ++ cs.drop k)) := .inr (.inr ⟨t0, k, HFL.out, hk, hpos, rfl, rfl, rfl, rfl⟩)
        clear hk hti hpos
        go_wp2_with (first
          | (go_at_call 18; refine htk.mono ?_; clear htk; rintro e w2 ⟨rfl, hp2, ht2⟩;
             have HW2 : Hid (RS w2 S t r (tabsL cs) ∧ RP w2 r rb f0 (mdr (fun _ => 1) v t0 1) ∧ Turn (Two r rb) w1 w2) := ⟨HW1.out.1.keep ht2 (fun b hb e => (by
               rcases e with e | e
               · exact HA.out.2.2.1 (by rw [← e]; exact hb)
               · exact HA.out.2.2.2.1 (by rw [← e]; exact hb))), hp2, ht2⟩; clear hp2 ht2;
             have hput2 := hput w2 HW2.out.1; clear hput)
          | (go_at_call 50; refine hput2.mono ?_; clear hput2; rintro e w3 ⟨rfl, hs3, ht3⟩;
             have HS3 : Hid (RS w3 (gr S w2 w3) t r (tabsL (cs.take k ++ [(⟨f0 + t0, fun _ => false⟩ : Cut).put 0 true] ++ cs.drop k)) ∧ Turn (· = t) w2 w3) := ⟨hs3, ht3⟩; clear hs3 ht3)
          | go_in)
        go_ret2
        have hA := HA.out
        have hW1 := HW1.out
        have hW2 := HW2.out
        have hS3 := HS3.out
        exact ⟨_, _, ⟨_, _, _, ret_ii' (by first | rfl | omega) rfl, HT.out, rfl⟩, rs_fin hA.1 (Nat.le_trans hW1.2.2.1.size hW2.2.2.size) hS3.2.size hS3.1, hW2.2.1.keep hS3.2 (fun e => hA.2.2.1 (by rw [e]; exact hA.1.St)) (fun e => hA.2.2.2.1 (by rw [e]; exact hA.1.St)), ((hW1.2.2.1.mono (S' := GrowS S r rb) (fun _ _ h => h.elim)).trans hW2.2.2 (fun b hb => .inl (.inr hb))).trans hS3.2 (fun b hb => .inl (.inl (by rw [hb]; exact hA.1.St)))⟩
      · rw [hk] at hone
        rw [hone] at htk
        have HT : Hid (SlT f0 v cs 0 42 v cs) := .inr (.inl ⟨HFL.out, hk, rfl, rfl, rfl, rfl⟩)
        clear hone hno hk
        go_wp2_with (first
          | (go_at_call 18; refine htk.mono ?_; clear htk; rintro e w2 ⟨rfl, hp2, ht2⟩;
             have HW2 : Hid (RS w2 S t r (tabsL cs) ∧ RP w2 r rb f0 v ∧ Turn (Two r rb) w1 w2) := ⟨HW1.out.1.keep ht2 (fun b hb e => (by
               rcases e with e | e
               · exact HA.out.2.2.1 (by rw [← e]; exact hb)
               · exact HA.out.2.2.2.1 (by rw [← e]; exact hb))), hp2, ht2⟩; clear hp2 ht2)
          | go_in)
        go_ret2
        have hA := HA.out
        have hW1 := HW1.out
        have hW2 := HW2.out
        refine ⟨_, _, ⟨_, _, _, rfl, HT.out, rfl⟩, hW2.1.mono (fun b hb => .inl hb) (fun b hb => ?_), hW2.2.1, (hW1.2.2.1.mono (S' := GrowS S r rb) (fun _ _ h => h.elim)).trans hW2.2.2 (fun b hb => .inl (.inr hb))⟩
        rcases hb with hb | hb
        · exact hW2.1.lowb b hb
        · exact hb.2
end Go.Proofs.Ytplobjdghaokoab
