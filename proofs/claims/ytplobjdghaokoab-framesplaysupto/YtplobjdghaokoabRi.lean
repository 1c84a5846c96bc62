import Derived.Test.YtplobjdghaokoabMu
namespace Go.Proofs.Ytplobjdghaokoab
open Go.RowKit
set_option linter.unusedVariables false

/-- A slab's list is another. -/
theorem rs_set {W w' : World} {S : Nat → Prop} {t r : Nat} {T T' : List Int} {v' : Value} (h : RS W S t r T) (ho : w'.ownsRow W.heap.size 3 1 v' T'.length (encI T')) (hT : Turn (fun _ => False) W w') :
    RS (w'.setCell ⟨t, 1, none⟩ v') (gr S W (w'.setCell ⟨t, 1, none⟩ v')) t r T' ∧ Turn (· = t) W (w'.setCell ⟨t, 1, none⟩ v') ∧ w'.frozen? ⟨t, 1, none⟩ = false ∧ (∃ u, w'.cell? ⟨t, 1, none⟩ = some u) ∧ (w'.setCell ⟨t, 1, none⟩ v').cell? ⟨t, 0, none⟩ = some (.pointer (some ⟨r, 0, none⟩)) := by
  obtain ⟨v0, q1, q2, q3⟩ := h.ex
  have htl := h.lowb t h.St
  have q1' := q1.turn hT (fun h => h)
  have T2 : Turn (· = t) w' (w'.setCell ⟨t, 1, none⟩ v') := (Turn.refl (· = t) w').setCell (p := ⟨t, 1, none⟩) (.inl rfl) _
  refine ⟨⟨⟨v', q1'.set 1 v', ?_, fun b hb => ?_⟩, .inl h.St, fun b hb => ?_⟩, (hT.mono (S' := (· = t)) (fun _ _ h => h.elim)).trans T2 (fun b hb => .inl hb), q1'.frozen 1, ⟨v0, by rw [q1'.cell]; rfl⟩, by rw [(q1'.set 1 v').cell]; rfl⟩
  · have := own_turn ho T2 (fun b hb e => by have := (own_block_new ho hb).1; have e' : b = t := e; omega)
    exact own_low this
  · obtain ⟨g1, g2⟩ := own_block_new ho hb
    refine .inr ⟨g1, ?_⟩
    simpa [World.setCell] using g2
  · rcases hb with hb | hb
    · exact Nat.lt_of_lt_of_le (h.lowb b hb) (Nat.le_trans hT.size T2.size)
    · exact hb.2
/-- A slab's Drop, of the reference's. -/
def RDr (f0 : Nat) (v : List Nat) (cs : List Cut) (x : Int) (e : Ending) (v' : List Nat) (T' : List Int) : Prop := ∃ e0 cs', e = .returned (.int .i64 e0) ∧ SlD f0 v cs x e0 v' cs' ∧ T' = tabsL cs'

set_option maxHeartbeats 16000000 in
set_option maxRecDepth 100000 in
theorem rsDrop_any (W : World) (S : Nat → Prop) (t r rb f0 : Nat) (v : List Nat) (cs : List Cut) (x0 : Int) (h : RS W S t r (tabsL cs)) (hP : RP W r rb f0 v) (hp1 : ¬ S r) (hp2 : ¬ S rb) (hsrt : Srt cs) (hfb : ∀ c ∈ cs, c.f < 268435456) :
    Calls Try.prog 26 #[.pointer (some ⟨t, 0, none⟩), .int .i64 x0] W fun e W' => ∃ v' T', RDr f0 v cs x0 e v' T' ∧ RS W' (gr S W W') t r T' ∧ RP W' r rb f0 v' ∧ Turn (GrowS S r rb) W W' := by
  have hlen := srt_len hsrt hfb
  have htl : (tabsL cs).length ≤ 1073741824 := by have := tabsL_len cs; omega
  have hha := rsHas_any W S t r (tabsL cs) x0 h htl
  by_cases hm : x0 ∈ tabsL cs
  · rw [decide_eq_true hm] at hha
    obtain ⟨c, hc, i, hi, hb, rfl⟩ := (mem_tabsL cs x0).1 hm
    obtain ⟨k0, hk0⟩ := List.mem_iff_getElem?.1 hc
    have hmr := mrB_tabs hsrt hk0 hi
    have hcf := hfb c hc
    have HFIN : Hid (∀ (b : Bool), (c.put i false).any = b → ∃ cs', SlD f0 v cs (4 * (c.f : Int) + i) 0 (if b = true then v else (dropR f0 v (c.f : Int) 1).2.2) cs' ∧ rmL (tabsL cs) (4 * (c.f : Int) + i) = tabsL cs') := fun b hbb => by
      cases b with
      | true => exact ⟨_, .inl ⟨k0, c, i, hk0, hi, hb, rfl, rfl, .inl ⟨hbb, rfl, if_pos rfl⟩⟩, rm_set hsrt hk0 hi⟩
      | false => exact ⟨_, .inl ⟨k0, c, i, hk0, hi, hb, rfl, rfl, .inr ⟨hbb, rfl, if_neg (by simp)⟩⟩, rm_erase hsrt hk0 hi hbb⟩
    have hxq : (4 * (c.f : Int) + i) / 4 = (c.f : Int) := by omega
    have hx00 : 0 ≤ 4 * (c.f : Int) + i := by omega
    have hx01 : 4 * (c.f : Int) + i ≤ 1073741824 := by omega
    have hbd := tabsL_bd hfb
    generalize (c.put i false).any = more at *
    generalize (c.f : Int) = cf at *
    generalize 4 * cf + (i : Int) = x0 at *
    clear hm hc hk0 hb hi hcf
    generalize hT : tabsL cs = T at *
    obtain ⟨a, cap, c1, c0, hia, hS, hfz⟩ := h.view
    have htt := h.lowb t h.St
    have HA : Hid (RS W S t r T ∧ RP W r rb f0 v ∧ ¬ S r ∧ ¬ S rb ∧ mrB T x0 = more ∧ IAt W a T ∧ ∀ x ∈ T, 0 ≤ x ∧ x ≤ 1073741824) := ⟨h, hP, hp1, hp2, hmr, hia, hbd⟩
    have HTT : Hid (tabsL cs = T) := hT
    have C1 : Hid (W.cell? ⟨t, 1, none⟩ = some (.slice a T.length cap)) := c1
    clear h hP hp1 hp2 hsrt hfb hmr hia hbd hT hS hfz hlen
    generalize hn : T.length = n at *
    have HN : Hid (T.length = n) := hn
    clear hn
    go_enter Try.func26, Try.ntmps26
    go_wp2_with (first | (go_at_call 49; refine hha.mono ?_; clear hha; rintro e w' ⟨rfl, rfl⟩) | go_in)
    go_loopw [5, 6, 7] (fun s5 s6 s7 wr => ∃ (k : Nat) (b : Bool), k ≤ n ∧ s7 = .int .i64 k ∧ s6 = .bool b ∧ Hid (wr.ownsRow W.heap.size 3 1 s5 (rmL (T.take k) x0).length (encI (rmL (T.take k) x0)) ∧ Turn (fun _ => False) W wr ∧ mrB (T.take k) x0 = b)) (fun _ _ s7 _ => n - (intOf s7).toNat)
    case atStart => exact ⟨0, false, Nat.zero_le _, rfl, rfl, World.ownsRow_nil _ _ _ _, Turn.refl _ _, rfl⟩
    case round =>
      obtain ⟨k, b, hk, rfl, rfl, HO⟩ := hrel
      have d1 : wr.cell? ⟨t, 1, none⟩ = some (.slice a n cap) := by rw [HO.out.2.1.cell htt (fun h => h)]; exact C1.out
      have hfl := rmL_len T x0 k
      obtain ⟨va, vc, hv⟩ := slice_form HO.out.1
      subst hv
      by_cases hlt : k < n
      · obtain ⟨x, hx⟩ : ∃ x, T[k]? = some x := ⟨_, List.getElem?_eq_getElem (by rw [HN.out]; exact hlt)⟩
        obtain ⟨g, rfl, hg, hcx⟩ := (HA.out.2.2.2.2.2.1.turn HO.out.2.1 (fun _ _ h => h)) k x hx
        obtain ⟨hx0, hx1⟩ := HA.out.2.2.2.2.2.2 x (List.mem_of_getElem? hx)
        have hps := rmL_snoc T x0 hx
        have hltz : (k : Int) < (n : Int) := by omega
        by_cases hxx : x = x0
        · rw [if_pos hxx, List.append_nil] at hps
          have HS : Hid (wr.ownsRow W.heap.size 3 1 (.slice va (rmL (T.take k) x0).length vc) (rmL (T.take (k + 1)) x0).length (encI (rmL (T.take (k + 1)) x0)) ∧ Turn (fun _ => False) W wr ∧ mrB (T.take (k + 1)) x0 = b) := by
            refine ⟨by rw [hps]; exact HO.out.1, HO.out.2.1, ?_⟩
            rw [← HO.out.2.2]
            unfold mrB
            rw [hps]
          subst hxx
          clear hps hx
          generalize (rmL (T.take k) x).length = ml at *
          go_wp2
          go_roundw
          case rel => exact ⟨k + 1, b, by omega, by go_num, rfl, HS⟩
          case measure => simp [intOf]; omega
        · rw [if_neg hxx] at hps
          have hms := mrB_snoc T x0 hx hxx
          rw [HO.out.2.2] at hms
          obtain ⟨v1, w1, r1, o1, t1, b1⟩ := app_int2 HO.out.1 x HO.out.2.1.size (by omega)
          have T1 : Turn (fun _ => False) W w1 := HO.out.2.1.trans t1 (fun b hb => .inr (own_row HO.out.1 hb).choose_spec.2)
          have d1' : w1.cell? ⟨t, 1, none⟩ = some (.slice (some ⟨g, 0, none⟩) n cap) := by rw [T1.cell htt (fun h => h)]; exact C1.out
          obtain ⟨g', eg, _, hcx'⟩ := (HA.out.2.2.2.2.2.1.turn T1 (fun _ _ h => h)) k x hx
          cases eg
          have HS : Hid (∀ b', (b || decide (x / 4 = x0 / 4)) = b' → w1.ownsRow W.heap.size 3 1 v1 (rmL (T.take (k + 1)) x0).length (encI (rmL (T.take (k + 1)) x0)) ∧ Turn (fun _ => False) W w1 ∧ mrB (T.take (k + 1)) x0 = b') := fun b' hb' => ⟨by rw [hps]; exact o1, T1, by rw [hms]; exact hb'⟩
          obtain ⟨va1, vc1, hv1⟩ := slice_form o1
          have eml : (rmL (T.take k) x0 ++ [x]).length = (rmL (T.take k) x0).length + 1 := by rw [List.length_append]; rfl
          rw [eml] at hv1
          subst hv1
          clear hps hms o1 t1 b1 T1 hx eml
          generalize (rmL (T.take k) x0).length = ml at *
          cases b with
          | true =>
            go_wp2_with (first
              | (at_builtin; refine Lib.wpList_append_run _ rfl _ _ 61 61 rfl _ _ rfl rfl _ _ (r1 _) ?_; clear r1)
              | go_in)
            go_roundw
            case rel => exact ⟨k + 1, true, by omega, by go_num, rfl, HS.out true rfl⟩
            case measure => simp [intOf]; omega
          | false =>
            by_cases hq : x / 4 = x0 / 4
            · have HQ : Hid (x / 4 = x0 / 4) := hq
              have HQB : Hid ((x / 4 == cf) = true) := by show _ = _; rw [← hxq]; simp [hq]
              clear hq
              go_wp2_with (first
                | (at_builtin; refine Lib.wpList_append_run _ rfl _ _ 61 61 rfl _ _ rfl rfl _ _ (r1 _) ?_; clear r1)
                | go_in)
              go_roundw
              case rel => exact ⟨k + 1, true, by omega, by go_num, congrArg Value.bool HQB.out, HS.out true (by simp [HQ.out])⟩
              case measure => simp [intOf]; omega
            · have HQ : Hid (¬ (x / 4 = x0 / 4)) := hq
              have HQB : Hid ((x / 4 == cf) = false) := by show _ = _; rw [← hxq]; simp [hq]
              clear hq
              go_wp2_with (first
                | (at_builtin; refine Lib.wpList_append_run _ rfl _ _ 61 61 rfl _ _ rfl rfl _ _ (r1 _) ?_; clear r1)
                | go_in)
              go_roundw
              case rel => exact ⟨k + 1, false, by omega, by go_num, congrArg Value.bool HQB.out, HS.out false (by simp [HQ.out])⟩
              case measure => simp [intOf]; omega
      · obtain rfl : k = n := by omega
        have htk : T.take k = T := List.take_of_length_le (by rw [HN.out]; omega)
        have ho1 := HO.out.1
        have ho3 := HO.out.2.2
        rw [htk] at ho3
        rw [HA.out.2.2.2.2.1] at ho3
        rw [htk] at ho1
        obtain ⟨f1, f2, f3, ⟨u0, f4⟩, f5⟩ := rs_set HA.out.1 ho1 HO.out.2.1
        obtain ⟨cs', HD, hT'⟩ := HFIN.out b ho3
        have HF : Hid _ := (⟨f1, f2⟩ : _ ∧ _)
        have HDD : Hid (SlD f0 v cs x0 0 (if b = true then v else (dropR f0 v cf 1).2.2) cs' ∧ rmL T x0 = tabsL cs') := ⟨HD, hT'⟩
        clear HD hT' f1 f2 ho1 ho3 HO
        rw [htk]
        clear htk hfl
        generalize (rmL T x0).length = ml at *
        cases b with
        | true =>
          go_wp2
          go_ret
          have hA := HA.out
          have hF := HF.out
          refine ⟨v, _, ⟨_, _, rfl, HDD.out.1, HDD.out.2⟩, hF.1, hA.2.1.keep hF.2 (fun e => hA.2.2.1 (by rw [e]; exact hA.1.St)) (fun e => hA.2.2.2.1 (by rw [e]; exact hA.1.St)), hF.2.mono (fun b _ hb => .inl (by rw [hb]; exact hA.1.St))⟩
        | false =>
          have hrp : Hid (RP (wr.setCell ⟨t, 1, none⟩ (.slice va ml vc)) r rb f0 v) := HA.out.2.1.keep HF.out.2 (fun e => HA.out.2.2.1 (by rw [e]; exact HA.out.1.St)) (fun e => HA.out.2.2.2.1 (by rw [e]; exact HA.out.1.St))
          have hdr := rdrop_any _ r rb f0 v cf 1 hrp.out (by omega)
          go_wp2_with (first
            | (go_at_call 23; refine hdr.mono ?_; clear hdr; rintro e w2 ⟨rfl, hp2, ht2⟩;
               have HW2 : Hid (RP w2 r rb f0 (dropR f0 v cf 1).2.2 ∧ Turn (Two r rb) (wr.setCell ⟨t, 1, none⟩ (.slice va ml vc)) w2) := ⟨hp2, ht2⟩; clear hp2 ht2)
            | go_in)
          go_ret
          have hA := HA.out
          have hF := HF.out
          have hW2 := HW2.out
          have hnr : ∀ b, gr S W (wr.setCell ⟨t, 1, none⟩ (.slice va ml vc)) b → ¬ Two r rb b := fun b hb e => by
            have hl := hA.2.1.lt
            rcases hb with hb | hb
            · rcases e with e | e
              · exact hA.2.2.1 (by rw [← e]; exact hb)
              · exact hA.2.2.2.1 (by rw [← e]; exact hb)
            · rcases e with e | e <;> omega
          have hk2 := hF.1.keep hW2.2 hnr
          refine ⟨_, _, ⟨_, _, rfl, HDD.out.1, HDD.out.2⟩, hk2.mono (fun b hb => ?_) (fun b hb => ?_), hW2.1, (hF.2.mono (S' := GrowS S r rb) (fun b _ hb => .inl (by rw [hb]; exact hA.1.St))).trans hW2.2 (fun b hb => .inl (.inr hb))⟩
          · rcases hb with hb | hb
            · exact .inl hb
            · exact .inr ⟨hb.1, Nat.lt_of_lt_of_le hb.2 hW2.2.size⟩
          · rcases hb with hb | hb
            · exact hk2.lowb b (.inl hb)
            · exact hb.2
  · rw [decide_eq_false hm] at hha
    have HT : Hid (SlD f0 v cs x0 45 v cs) := .inr ⟨fun c hc i hi hb e => hm ((mem_tabsL cs x0).2 ⟨c, hc, i, hi, hb, e⟩), rfl, rfl, rfl⟩
    have HA : Hid (RS W S t r (tabsL cs) ∧ RP W r rb f0 v) := ⟨h, hP⟩
    clear h hP hp1 hp2 hsrt hfb hm
    go_enter Try.func26, Try.ntmps26
    go_wp2_with (first | (go_at_call 49; refine hha.mono ?_; clear hha; rintro e w' ⟨rfl, rfl⟩) | go_in)
    go_ret
    refine ⟨_, _, ⟨_, _, rfl, HT.out, rfl⟩, HA.out.1.mono (fun b hb => .inl hb) (fun b hb => ?_), HA.out.2, Turn.refl _ _⟩
    rcases hb with hb | hb
    · exact HA.out.1.lowb b hb
    · exact hb.2
end Go.Proofs.Ytplobjdghaokoab
