import Derived.Test.YtplobjdghaokoaaSh
import Derived.Test.YtplobjdghaokoaaSg
namespace Go.Proofs.Ytplobjdghaokoaa
open Go.RowKit
set_option linter.unusedVariables false

/-- What a slab's Drop answers, and leaves. -/
def SlD (f0 : Nat) (u : List Nat) (cs : List Cut) (t e : Int) (u' : List Nat) (cs' : List Cut) : Prop :=
  (∃ (k : Nat) (c : Cut) (i : Nat), cs[k]? = some c ∧ i < 4 ∧ c.b i = true ∧ t = 4 * (c.f : Int) + i ∧ e = 0 ∧
    (((c.put i false).any = true ∧ cs' = cs.set k (c.put i false) ∧ u' = u) ∨ ((c.put i false).any = false ∧ cs' = cs.eraseIdx k ∧ u' = (dropR f0 u (c.f : Int) 1).2.2))) ∨
  ((∀ c ∈ cs, ∀ i, i < 4 → c.b i = true → t ≠ 4 * (c.f : Int) + i) ∧ e = 45 ∧ u' = u ∧ cs' = cs)

theorem PSx.bit_low {W : World} {S : Nat → Prop} {s p low low' cap : Nat} {cs : List Cut} {g : Nat} (h : PSx W S s p cs low (.slice (some ⟨g, 0, none⟩) cs.length cap)) {k i : Nat} {c : Cut} (hk : cs[k]? = some c) (hi : i < 4) (v : Bool)
    (h1 : low' ≤ low) (h2 : low' ≤ k) : PSx ((W.setCell ⟨g, k * 5 + 1 + i, none⟩ (.bool v)).setCell ⟨s, 2, none⟩ (.int .i64 (low' : Int))) S s p (cs.set k (c.put i v)) low' (.slice (some ⟨g, 0, none⟩) cs.length cap) := by
  have hlt : k < cs.length := (List.getElem?_eq_some_iff.1 hk).1
  have hgs : g ≠ s := h.sne g rfl
  rcases row_of_own h.own with ⟨e, _, _⟩ | ⟨g', cap', cur, e, hlo, hr, q1, q2, q3, q4⟩
  · cases e
  · cases e
    refine ⟨(h.box.setO (Ne.symm hgs) _ _).set 2 _, ?_, h.vS, h.Ss, fun b hb => ?_, ⟨by rw [List.length_set]; have := h.lows.1; omega, fun j d hj hd => ?_⟩, ?_, ?_⟩
    · rw [List.length_set]
      refine own_of_row ((hr.set _ _).setO hgs _ _) hlo q1 q2 (by rw [List.length_set]; exact q3) ?_
      rw [List.take_set, q4, Nat.add_assoc]
      exact flat_set cs k (1 + i) c hk (by omega) _ _ (enc_put c i hi v)
    · have := h.lowb b hb
      simpa [World.setCell] using this
    · rw [List.getElem?_set_ne (by omega)] at hd
      exact h.lows.2 j d (by omega) hd
    · have hs := h.srt
      unfold Srt at hs ⊢
      rw [List.pairwise_iff_getElem] at hs ⊢
      have hf : ∀ (q : Nat) (hq : q < (cs.set k (c.put i v)).length), ((cs.set k (c.put i v))[q]).f = (cs[q]'(by simpa using hq)).f := by
        intro q hq
        rw [List.getElem_set]
        split
        · rename_i e
          subst e
          rw [(List.getElem?_eq_some_iff.1 hk).2]
          rfl
        · rfl
      intro a b ha hb hab
      rw [hf a ha, hf b hb]
      exact hs a b _ _ hab
    · intro d hd
      rcases List.mem_or_eq_of_mem_set hd with h1 | rfl
      · exact h.fb d h1
      · exact h.fb c (List.mem_of_getElem? hk)
theorem mem_eraseIdx {α : Type} {l : List α} {k : Nat} {x : α} (h : x ∈ l.eraseIdx k) : x ∈ l := List.mem_of_mem_eraseIdx h
theorem srt_erase {cs : List Cut} (h : Srt cs) (k : Nat) : Srt (cs.eraseIdx k) := h.sublist (List.eraseIdx_sublist _ _)
theorem any_mem (c : Cut) : decide (true ∈ c.bs) = c.any := by
  unfold Cut.bs Cut.any
  rw [Bool.eq_iff_iff]
  simp
  constructor
  · rintro (h | h | h | h) <;> simp [h]
  · rintro (((h | h) | h) | h)
    · exact .inl h
    · exact .inr (.inl h)
    · exact .inr (.inr (.inl h))
    · exact .inr (.inr (.inr h))

set_option maxHeartbeats 16000000 in
set_option maxRecDepth 100000 in
theorem sdrop_any (W : World) (S : Nat → Prop) (s p ub f0 : Nat) (cs : List Cut) (u : List Nat) (t : Int) (hS : PS W S s p cs) (hP : PP W p ub f0 u) (hp1 : ¬ S p) (hp2 : ¬ S ub) (ht : t ≤ 9223372036854775807) :
    Calls Try.prog 31 #[.pointer (some ⟨s, 0, none⟩), .int .i64 t] W fun e W' => ∃ e0 u' cs', e = .returned (.int .i64 e0) ∧ SlD f0 u cs t e0 u' cs' ∧ PS W' S s p cs' ∧ PP W' p ub f0 u' ∧ Turn (GrowS S p ub) W W' := by
  by_cases ht0 : t < 0
  · have HR : Hid (SlD f0 u cs t 45 u cs) := .inr ⟨fun c _ i _ _ => by omega, rfl, rfl, rfl⟩
    have HS : Hid (PS W S s p cs ∧ PP W p ub f0 u) := ⟨hS, hP⟩
    clear hS hP
    go_enter Try.func31, Try.ntmps31
    go_wp2
    go_ret
    exact ⟨_, _, _, rfl, HR.out, HS.out.1, HS.out.2, Turn.refl _ _⟩
  · obtain ⟨T, rfl⟩ := Int.eq_ofNat_of_zero_le (show 0 ≤ t by omega)
    obtain ⟨⟨low, v, h⟩, hany⟩ := hS
    obtain ⟨a, cap, rfl, hcu, haS⟩ := h.view
    have hfd := find_any W S s p low cs _ (T / 4) h
    have hq : (T : Int) / 4 = ((T / 4 : Nat) : Int) := by omega
    have hm : (T : Int) % 4 = ((T % 4 : Nat) : Int) := by omega
    have hTe : T = 4 * (T / 4) + T % 4 := by omega
    have hi4 : T % 4 < 4 := Nat.mod_lt _ (by omega)
    have hsrt := h.srt
    have HX : Hid (PSx W S s p cs low (.slice a cs.length cap) ∧ PP W p ub f0 u ∧ ¬ S p ∧ ¬ S ub ∧ (∀ c ∈ cs, c.any = true)) := ⟨h, hP, hp1, hp2, hany⟩
    have HTe : Hid (T = 4 * (T / 4) + T % 4) := hTe
    have hlen := h.len
    have hlows := h.lows.1
    clear h hP hp1 hp2 hany hcu hTe
    generalize T / 4 = f at *
    generalize T % 4 = i at *
    have HSRT : Hid (Srt cs) := hsrt
    clear hsrt
    have hff : (f : Int) ≤ 9223372036854775807 := by have := HTe.out; omega
    go_enter Try.func31, Try.ntmps31
    go_wp2_with (first
      | (go_at_call 47; refine hfd.mono ?_; clear hfd; rintro e w1 ⟨k, b, rfl, hpos, hb, ht1⟩; refine Hid.out ?_)
      | go_in)
    unfold Hid
    have hx1 := HX.out.1.keep ht1 (fun _ _ h => h)
    have hP1 := HX.out.2.1.keep ht1 (fun h => h) (fun h => h)
    have HS1 : Hid (PSx w1 S s p cs low (.slice a cs.length cap) ∧ PP w1 p ub f0 u ∧ Turn (fun _ => False) W w1) := ⟨hx1, hP1, ht1⟩
    have d1 := hx1.c1
    have hno : (∀ c, cs[k]? = some c → c.f = f → c.b i = false) → SlD f0 u cs T 45 u cs := fun hk => by
      refine .inr ⟨fun c hc j hj hcb e => ?_, rfl, rfl, rfl⟩
      have e2 := HTe.out
      have hcf : c.f = f ∧ j = i := by omega
      obtain ⟨q, hq⟩ := List.mem_iff_getElem?.1 hc
      by_cases hqk : q < k
      · have := hpos.2.1 q c hqk hq
        omega
      · by_cases hqe : q = k
        · subst hqe
          rw [hcf.2, hk c hq hcf.1] at hcb
          cases hcb
        · obtain ⟨d, hd⟩ : ∃ d, cs[k]? = some d := ⟨_, List.getElem?_eq_getElem (by have := (List.getElem?_eq_some_iff.1 hq).1; omega)⟩
          have h1 := hpos.2.2 k d (Nat.le_refl _) hd
          have h2 := srt_at HSRT.out hd hq (by omega)
          omega
    have hout : (∀ c, cs[k]? = some c → c.f = f → c.b i = false) → Hid (∃ e0 u' cs', (45 : Int) = e0 ∧ SlD f0 u cs T e0 u' cs' ∧ PS w1 S s p cs' ∧ PP w1 p ub f0 u' ∧ Turn (GrowS S p ub) W w1) := fun hk =>
      ⟨45, u, cs, rfl, hno hk, ⟨⟨low, _, HS1.out.1⟩, HX.out.2.2.2.2⟩, HS1.out.2.1, HS1.out.2.2.mono (fun _ _ h => h.elim)⟩
    clear hno hx1 hP1 ht1
    cases b with
    | false =>
      have HOUT := hout (fun c hc hf => absurd (hb.2 ⟨c, hc, hf⟩) (by simp))
      clear hout hb hpos
      go_wp2
      go_ret
      obtain ⟨e0, u', cs', rfl, h⟩ := HOUT.out
      exact ⟨_, _, _, rfl, h⟩
    | true =>
      obtain ⟨c, hc, hcf⟩ := hb.1 rfl
      have hkn : k < cs.length := (List.getElem?_eq_some_iff.1 hc).1
      obtain ⟨a', cap', e1, hcu, haS'⟩ := HS1.out.1.view
      cases e1
      obtain ⟨g, rfl, hg, hcut⟩ := hcu k c hc
      have hbits := hcut.bits i (c.b i) (by rcases (show i = 0 ∨ i = 1 ∨ i = 2 ∨ i = 3 by omega) with rfl | rfl | rfl | rfl <;> rfl)
      have HC : Hid (cs[k]? = some c ∧ c.f = f) := ⟨hc, hcf⟩
      have hfg : ∀ o, w1.frozen? ⟨g, o, none⟩ = false := fun o => by
        rcases row_of_own HS1.out.1.own with ⟨e, _, _⟩ | ⟨g', _, _, e, _, hr, _⟩
        · cases e
        · cases e; exact hr.frozen o
      cases hbi : c.b i with
      | false =>
        have HOUT := hout (fun d hd hf => by rw [hc] at hd; cases hd; exact hbi)
        rw [hbi] at hbits
        clear hout hb hpos hc hcf hcut hcu haS' hbi
        generalize cs.length = n at *
        go_wp2
        go_ret
        obtain ⟨e0, u', cs', rfl, h⟩ := HOUT.out
        exact ⟨_, _, _, rfl, h⟩
      | true =>
        rw [hbi] at hbits
        have hgs : g ≠ s := HS1.out.1.sne g rfl
        have hsg : ¬ s = g := fun e => hgs e.symm
        have d2 := HS1.out.1.c2
        have d0 := HS1.out.1.c0
        have hfs := HS1.out.1.box.frozen
        have hgS := haS g rfl
        have hbl : ∀ low' : Nat, low' ≤ low → low' ≤ k → PSx ((w1.setCell ⟨g, k * 5 + 1 + i, none⟩ (.bool false)).setCell ⟨s, 2, none⟩ (.int .i64 (low' : Int))) S s p (cs.set k (c.put i false)) low' (.slice (some ⟨g, 0, none⟩) cs.length cap) := fun low' h1 h2 => HS1.out.1.bit_low hc hi4 false h1 h2
        have hTT : ∀ x, Turn (GrowS S p ub) W ((w1.setCell ⟨g, k * 5 + 1 + i, none⟩ (.bool false)).setCell ⟨s, 2, none⟩ x) ∧ PP ((w1.setCell ⟨g, k * 5 + 1 + i, none⟩ (.bool false)).setCell ⟨s, 2, none⟩ x) p ub f0 u := fun x => by
          have hps : ∀ b, S b → b ≠ p ∧ b ≠ ub := fun b hb => ⟨fun e => HX.out.2.2.1 (e ▸ hb), fun e => HX.out.2.2.2.1 (e ▸ hb)⟩
          have T1 : Turn S w1 ((w1.setCell ⟨g, k * 5 + 1 + i, none⟩ (.bool false)).setCell ⟨s, 2, none⟩ x) := ((Turn.refl S w1).setCell (p := ⟨g, k * 5 + 1 + i, none⟩) (.inl hgS) _).setCell (p := ⟨s, 2, none⟩) (.inl HS1.out.1.Ss) _
          exact ⟨(HS1.out.2.2.mono (S' := GrowS S p ub) (fun _ _ h => h.elim)).trans T1 (fun b hb => .inl (.inl hb)), HS1.out.2.1.keep T1 HX.out.2.2.1 HX.out.2.2.2.1⟩
        have hset : (cs.set k (c.put i false))[k]? = some (c.put i false) := List.getElem?_set_self hkn
        have hsl : (cs.set k (c.put i false)).length = cs.length := List.length_set
        have hall : ∀ d ∈ cs, d.any = true := HX.out.2.2.2.2
        have hera : (cs.set k (c.put i false)).eraseIdx k = cs.eraseIdx k := by
          apply List.ext_getElem?
          intro q
          rw [List.getElem?_eraseIdx, List.getElem?_eraseIdx]
          split
          · rw [List.getElem?_set_ne (by omega)]
          · rw [List.getElem?_set_ne (by omega)]
        clear hout hb hcut hcu haS'
        have hcase : ∃ lw : Nat, lw ≤ low ∧ lw ≤ k ∧ ((lw = low ∧ low ≤ k) ∨ (lw = k ∧ k < low)) := by
          by_cases h : low ≤ k
          · exact ⟨low, Nat.le_refl _, h, .inl ⟨rfl, h⟩⟩
          · exact ⟨k, by omega, Nat.le_refl _, .inr ⟨rfl, by omega⟩⟩
        obtain ⟨lw, hlw1, hlw2, hlw⟩ := hcase
        have hx2 := hbl lw hlw1 hlw2
        obtain ⟨hT2, hP2⟩ := hTT (.int .i64 (lw : Int))
        clear hbl hTT
        have hmin : (if (k : Int) < (low : Int) then (Value.int .i64 (k : Int)) else .int .i64 (low : Int)) = .int .i64 (lw : Int) := by
          rcases hlw with ⟨rfl, h⟩ | ⟨rfl, h⟩
          · rw [if_neg (by omega)]
          · rw [if_pos (by omega)]
        have hwx : Hid (PSx ((w1.setCell ⟨g, k * 5 + 1 + i, none⟩ (.bool false)).setCell ⟨s, 2, none⟩ (.int .i64 (lw : Int))) S s p (cs.set k (c.put i false)) lw (.slice (some ⟨g, 0, none⟩) cs.length cap) ∧ PP ((w1.setCell ⟨g, k * 5 + 1 + i, none⟩ (.bool false)).setCell ⟨s, 2, none⟩ (.int .i64 (lw : Int))) p ub f0 u ∧ Turn (GrowS S p ub) W ((w1.setCell ⟨g, k * 5 + 1 + i, none⟩ (.bool false)).setCell ⟨s, 2, none⟩ (.int .i64 (lw : Int)))) := ⟨hx2, hP2, hT2⟩
        obtain ⟨a3, cap3, e3, hcu3, _⟩ := hx2.view
        rw [hsl] at e3
        cases e3
        obtain ⟨g3, e4, _, hcut3⟩ := hcu3 k _ hset
        cases e4
        have hct := ctB_any _ g (k * 5 + 1) 4 true (c.put i false).bs hcut3.bits (by show 4 ≤ _; omega)
        rw [any_mem] at hct
        have hsli := fun W : World => (show (Instr.sliceAt 83 (Value.pointer (some ⟨g, k * 5 + 1, none⟩)) none none none).run Try.prog W = .ok (.slice (some ⟨g, k * 5 + 1, none⟩) 4 4) W by
          simp [Instr.sliceAt, Instr.sliceBounds, Instr.sureAddr, run_underlying Try.underlying83, go_sem])
        have x1 := hx2.c1
        have x0 := hx2.c0
        have xf := hx2.box.frozen
        have hdel := delete_any _ g cap cs.length k (cs.set k (c.put i false)) (by have := hx2.own; rw [hsl] at this; exact this) hsl hkn hlen
        rw [hera] at hdel
        have HHS : Hid (cs[k]? = some c ∧ c.b i = true ∧ ∀ d ∈ cs, d.any = true) := ⟨hc, hbi, hall⟩
        clear hx2 hP2 hT2 hcu3 hcut3 hset hall hc hbi hera hcf
        have hwxe : Hid (w1.heap.size = w1.heap.size) := rfl
        generalize hcs : cs.length = n at *
        have HCS : Hid (cs.length = n) := hcs
        clear hcs
        have hlwi : (lw : Int) ≤ 268435456 := by omega
        cases hany : (c.put i false).any with
        | true =>
          rw [hany] at hct
          have HFIN : Hid (SlD f0 u cs T 0 u (cs.set k (c.put i false)) ∧ ∀ d ∈ cs.set k (c.put i false), d.any = true) := by
            refine ⟨.inl ⟨k, c, i, HC.out.1, hi4, HHS.out.2.1, by have := HTe.out; rw [HC.out.2]; omega, rfl, .inl ⟨hany, rfl, rfl⟩⟩, fun d hd => ?_⟩
            rcases List.mem_or_eq_of_mem_set hd with h1 | rfl
            · exact HHS.out.2.2 d h1
            · exact hany
          clear hany hdel
          rcases hlw with ⟨hl1, hl2⟩ | ⟨hl1, hl2⟩
          all_goals
            have hmz : ¬ ((k : Int) < (low : Int)) ∨ (k : Int) < (low : Int) := by omega
            subst hl1
            go_wp2_with (first
              | (go_at_call 48; refine hct.mono ?_; clear hct; rintro e w' ⟨rfl, rfl⟩)
              | go_in)
            go_ret
            exact ⟨_, _, _, rfl, HFIN.out.1, ⟨⟨_, _, hwx.out.1⟩, HFIN.out.2⟩, hwx.out.2.1, hwx.out.2.2⟩
        | false =>
          rw [hany] at hct
          have hgS2 := hgS
          have hdel' : Calls Try.prog 49 #[.slice (some ⟨g, 0, none⟩) n cap, .int .i64 k, .int .i64 ((k : Int) + 1)] ((w1.setCell ⟨g, k * 5 + 1 + i, none⟩ (.bool false)).setCell ⟨s, 2, none⟩ (.int .i64 (lw : Int))) fun e w' => e = .returned (.slice (some ⟨g, 0, none⟩) (n - 1) cap) ∧ w'.cell? ⟨s, 1, none⟩ = some (.slice (some ⟨g, 0, none⟩) n cap) ∧ w'.cell? ⟨s, 0, none⟩ = some (.pointer (some ⟨p, 0, none⟩)) ∧ (∀ o, w'.frozen? ⟨s, o, none⟩ = false) ∧ Hid (PSx (w'.setCell ⟨s, 1, none⟩ (.slice (some ⟨g, 0, none⟩) (n - 1) cap)) S s p (cs.eraseIdx k) lw (.slice (some ⟨g, 0, none⟩) (n - 1) cap) ∧ PP (w'.setCell ⟨s, 1, none⟩ (.slice (some ⟨g, 0, none⟩) (n - 1) cap)) p ub f0 u ∧ Turn (GrowS S p ub) W (w'.setCell ⟨s, 1, none⟩ (.slice (some ⟨g, 0, none⟩) (n - 1) cap))) := by
            refine hdel.mono ?_
            rintro e w2 ⟨rfl, ho, hT⟩
            have hx := hwx.out.1
            have hbx := hx.box.turn hT hsg
            have hps : ∀ b, S b → b ≠ p ∧ b ≠ ub := fun b hb => ⟨fun e => HX.out.2.2.1 (e ▸ hb), fun e => HX.out.2.2.2.1 (e ▸ hb)⟩
            have T2 : Turn (· = s) w2 (w2.setCell ⟨s, 1, none⟩ (.slice (some ⟨g, 0, none⟩) (n - 1) cap)) := (Turn.refl (· = s) w2).setCell (p := ⟨s, 1, none⟩) (.inl rfl) _
            have hel : (cs.eraseIdx k).length = n - 1 := by rw [List.length_eraseIdx, HCS.out, if_pos hkn]
            refine ⟨rfl, by rw [hbx.cell]; rfl, by rw [hbx.cell]; rfl, hbx.frozen, ⟨hbx.set 1 _, ?_, ?_, hx.Ss, ?_, ⟨by rw [hel]; omega, fun q d hq hd => ?_⟩, srt_erase HSRT.out k, fun d hd => HX.out.1.fb d (mem_eraseIdx hd)⟩, (hwx.out.2.1.keep hT (fun e => (hps g hgS2).1 e.symm) (fun e => (hps g hgS2).2 e.symm)).keep T2 (fun e => (hps s hx.Ss).1 e.symm) (fun e => (hps s hx.Ss).2 e.symm), (hwx.out.2.2.trans hT (fun b hb => .inl (.inl (by rw [hb]; exact hgS2)))).trans T2 (fun b hb => .inl (.inl (by rw [hb]; exact hx.Ss)))⟩
            · have := own_turn ho T2 (fun b hb => by cases hb; exact hgs)
              rw [hel]
              exact this
            · intro b hb
              cases hb
              exact hgS2
            · intro b hb
              exact Nat.lt_of_lt_of_le (hx.lowb b hb) (Nat.le_trans hT.size T2.size)
            · rw [List.getElem?_eraseIdx, if_pos (by omega)] at hd
              exact HX.out.1.lows.2 q d (by omega) hd
          have hdrop : ∀ w3, PP w3 p ub f0 u → Calls Try.prog 20 #[.pointer (some ⟨p, 0, none⟩), .int .i64 (f : Int), .int .i64 1] w3 fun e w' => ∃ r1 r2, e = .returned (.tuple #[.int .i64 r1, .int .i64 r2]) ∧ Hid (PP w' p ub f0 (dropR f0 u (f : Int) 1).2.2 ∧ Turn (Two p ub) w3 w') := fun w3 h3 =>
            (drop_any w3 p ub f0 u f 1 h3 (by omega) hff).mono (fun e w' h => ⟨_, _, h.1, h.2⟩)
          have HFIN : Hid (SlD f0 u cs T 0 (dropR f0 u (f : Int) 1).2.2 (cs.eraseIdx k) ∧ ∀ d ∈ cs.eraseIdx k, d.any = true) := by
            refine ⟨.inl ⟨k, c, i, HC.out.1, hi4, HHS.out.2.1, by have := HTe.out; rw [HC.out.2]; omega, rfl, .inr ⟨hany, rfl, by rw [HC.out.2]⟩⟩, fun d hd => HHS.out.2.2 d (mem_eraseIdx hd)⟩
          have HNS : Hid (∀ b, S b → ¬ Two p ub b) := fun b hb h => by
            rcases h with rfl | rfl
            · exact HX.out.2.2.1 hb
            · exact HX.out.2.2.2.1 hb
          clear hany hdel
          rcases hlw with ⟨hl1, hl2⟩ | ⟨hl1, hl2⟩
          all_goals
            have hmz : ¬ ((k : Int) < (low : Int)) ∨ (k : Int) < (low : Int) := by omega
            subst hl1
            go_wp2_with (first
              | (go_at_call 48; refine hct.mono ?_; clear hct; rintro e w' ⟨rfl, rfl⟩)
              | (go_at_call 49; refine hdel'.mono ?_; clear hdel'; rintro e w2 ⟨rfl, y1, y0, yf, HW2⟩; have hdr := hdrop _ HW2.out.2.1; have z0 := HW2.out.1.c0)
              | (go_at_call 20; refine hdr.mono ?_; clear hdr; rintro e w4 ⟨r1, r2, rfl, HW4⟩)
              | go_in)
            go_ret
            exact ⟨_, _, _, rfl, HFIN.out.1, ⟨⟨_, _, HW2.out.1.keep HW4.out.2 HNS.out⟩, HFIN.out.2⟩, HW4.out.1, HW2.out.2.2.trans HW4.out.2 (fun b hb => .inl (.inr hb))⟩
end Go.Proofs.Ytplobjdghaokoaa
