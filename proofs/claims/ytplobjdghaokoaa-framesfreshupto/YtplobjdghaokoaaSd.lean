import Derived.Test.YtplobjdghaokoaaSc
import Derived.Deep.RegionWith
namespace Go.Proofs.Ytplobjdghaokoaa
open Go.RowKit
set_option linter.unusedVariables false

theorem slice_form {W : World} {lo n size : Nat} {e : TypeId} {v : Value} {xs : List Value} (h : W.ownsRow lo e size v n xs) : ∃ a cap, v = .slice a n cap := by
  rcases row_of_own h with ⟨rfl, rfl, _⟩ | ⟨g, cap, cur, rfl, _⟩
  · exact ⟨_, _, rfl⟩
  · exact ⟨_, _, rfl⟩
def GrowS (S : Nat → Prop) (p ub : Nat) (b : Nat) : Prop := S b ∨ b = p ∨ b = ub
theorem enc_one (cs : List Cut) : ∀ u ∈ cs.flatMap Cut.enc, u.oneCell' = true := by
  intro u hu
  obtain ⟨c, _, hc⟩ := List.mem_flatMap.1 hu
  simp [Cut.enc] at hc
  rcases hc with rfl | rfl | rfl | rfl | rfl <;> rfl
theorem flat_take (cs : List Cut) (k : Nat) : (cs.take k).flatMap Cut.enc = (cs.flatMap Cut.enc).take (k * 5) := by
  induction cs generalizing k with
  | nil => simp
  | cons c r ih =>
    cases k with
    | zero => simp
    | succ k =>
      rw [List.take_succ_cons, List.flatMap_cons, List.flatMap_cons, ih k, show (k + 1) * 5 = c.enc.length + k * 5 by rw [Cut.enc_len]; omega, List.take_length_add_append]
theorem flat_drop (cs : List Cut) (k : Nat) : (cs.drop k).flatMap Cut.enc = (cs.flatMap Cut.enc).drop (k * 5) := by
  induction cs generalizing k with
  | nil => simp
  | cons c r ih =>
    cases k with
    | zero => simp
    | succ k =>
      rw [List.drop_succ_cons, List.flatMap_cons, ih k, show (k + 1) * 5 = c.enc.length + k * 5 by rw [Cut.enc_len]; omega, List.drop_length_add_append]

set_option maxHeartbeats 8000000 in
set_option maxRecDepth 100000 in
theorem grow_any (W : World) (S : Nat → Prop) (s p ub f0 low : Nat) (cs : List Cut) (v : Value) (u : List Nat) (h : PSx W S s p cs low v) (hP : PP W p ub f0 u) (hp1 : ¬ S p) (hp2 : ¬ S ub) (hU : Used f0 u cs) (hfull : ∀ c ∈ cs, c.left = -1) :
    Calls Try.prog 45 #[.pointer (some ⟨s, 0, none⟩)] W fun e W' =>
      ((tk f0 u 1 1 = none ∧ e = .returned (.int .i64 42) ∧ PP W' p ub f0 u ∧ Turn (Two p ub) W W') ∨
      (∃ t k v', tk f0 u 1 1 = some t ∧ e = .returned (.int .i64 0) ∧ PosOf cs (f0 + t) k ∧ PSx W' (gr S W W') s p (cs.take k ++ [⟨f0 + t, fun _ => false⟩] ++ cs.drop k) k v' ∧ PP W' p ub f0 (mdr (fun _ => 1) u t 1) ∧ Turn (GrowS S p ub) W W')) := by
  have ht := take_any W p ub f0 u 1 1 hP (by omega)
  rw [takeR_one] at ht
  have c0 := h.c0
  have hPn := hP.n2
  have hPlt := hP.lt
  rcases tk_cases f0 u 1 1 with ⟨t, htk, hfit, hno⟩ | ⟨htk, hno⟩
  · rw [htk] at ht
    simp only at ht
    have hne := used_new hU htk
    have htl := (tk_free htk).2
    have HTK : Hid (tk f0 u 1 1 = some t) := htk
    have HX : Hid (PSx W S s p cs low v) := h
    have HNE : Hid (∀ c ∈ cs, c.f ≠ f0 + t) := hne
    have HS : Hid (¬ S p ∧ ¬ S ub) := ⟨hp1, hp2⟩
    have HF : Hid (∀ c ∈ cs, c.left = -1) := hfull
    clear htk hfit hno hne h hU hP hp1 hp2 hfull
    go_enter Try.func45, Try.ntmps45
    go_wp2_with (first
      | (go_at_call 14; refine ht.mono ?_; clear ht; rintro e w1 ⟨rfl, hP1, hT1⟩;
         have hX1 := HX.out.keep hT1 (fun b hb h => (by rcases h with h | h <;> subst h; exact HS.out.1 hb; exact HS.out.2 hb));
         have hfd := find_any w1 S s p low cs v (f0 + t) hX1;
         have HX1 : Hid (PSx w1 S s p cs low v ∧ PP w1 p ub f0 (mdr (fun _ => 1) u t 1) ∧ Turn (Two p ub) W w1) := ⟨hX1, hP1, hT1⟩;
         clear hP1 hT1 hX1)
      | (go_at_call 47; refine hfd.mono ?_; clear hfd; rintro e w2 ⟨k, b, rfl, hpos, hb, hT2⟩;
         have hX2 := HX1.out.1.keep hT2 (fun _ _ h => h);
         have hP2 := HX1.out.2.1.keep hT2 (fun h => h) (fun h => h);
         have hfz := hX2.box.frozen;
         have d2 := hX2.c2;
         have HX2 : Hid (PSx w2 S s p cs low v ∧ PP w2 p ub f0 (mdr (fun _ => 1) u t 1) ∧ Turn (Two p ub) W w2 ∧ PosOf cs (f0 + t) k) := ⟨hX2, hP2, HX1.out.2.2.trans hT2 (fun _ h => h.elim), hpos⟩;
         clear hX2 hP2 hT2 hpos hb)
      | go_in)
    have hX3 : PSx (w2.setCell ⟨s, 2, none⟩ (.int .i64 (k : Int))) S s p cs k v := by
      have hx := HX2.out.1
      have T : Turn (· = s) w2 (w2.setCell ⟨s, 2, none⟩ (.int .i64 (k : Int))) := (Turn.refl (· = s) w2).setCell (p := ⟨s, 2, none⟩) (.inl rfl) _
      exact ⟨hx.box.set 2 _, own_turn hx.own T (fun b hb => hx.sne b hb), hx.vS, hx.Ss, fun b hb => Nat.lt_of_lt_of_le (hx.lowb b hb) T.size, ⟨HX2.out.2.2.2.1, fun i c _ hc => HF.out c (List.mem_of_getElem? hc)⟩, hx.srt, hx.fb⟩
    have HP3 : Hid (PP (w2.setCell ⟨s, 2, none⟩ (.int .i64 (k : Int))) p ub f0 (mdr (fun _ => 1) u t 1) ∧ Turn (GrowS S p ub) W (w2.setCell ⟨s, 2, none⟩ (.int .i64 (k : Int)))) := by
      have T : Turn (· = s) w2 (w2.setCell ⟨s, 2, none⟩ (.int .i64 (k : Int))) := (Turn.refl (· = s) w2).setCell (p := ⟨s, 2, none⟩) (.inl rfl) _
      have hs1 : p ≠ s := fun e => HS.out.1 (e ▸ HX2.out.1.Ss)
      have hs2 : ub ≠ s := fun e => HS.out.2 (e ▸ HX2.out.1.Ss)
      exact ⟨HX2.out.2.1.keep T hs1 hs2, (HX2.out.2.2.1.mono (S' := GrowS S p ub) (fun b _ hb => .inr hb)).trans T (fun b hb => .inl (.inl (by rw [hb]; exact HX2.out.1.Ss)))⟩
    have HPos : Hid (PosOf cs (f0 + t) k) := HX2.out.2.2.2
    clear HX1 HX2 hfz d2
    generalize w2.setCell ⟨s, 2, none⟩ (.int .i64 (k : Int)) = w3 at *
    have d1 := hX3.c1
    have d2 := hX3.c2
    have hkl := HPos.out.1
    have hlen := hX3.len
    have hsl := hX3.lowb s hX3.Ss
    have HX3 : Hid (PSx w3 S s p cs k v) := hX3
    clear hX3
    obtain ⟨va, vc, hvf⟩ := slice_form HX3.out.own
    subst hvf
    have hins : ∀ q, Calls Try.prog 53 #[.slice va cs.length vc, .int .i64 (k : Int), .slice (some ⟨w3.heap.size, 0, none⟩) 1 1] ((w3.alloc (.cells #[.int .i64 ((f0 : Int) + (t : Int)), .bool false, .bool false, .bool false, .bool false] 85)).drewN q) fun e w' => ∃ v', (∃ a cap, v' = .slice a (cs.length + 1) cap) ∧ e = .returned v' ∧ w'.cell? ⟨s, 1, none⟩ = some (.slice va cs.length vc) ∧ w'.frozen? ⟨s, 1, none⟩ = false ∧ Hid (PSx (w'.setCell ⟨s, 1, none⟩ v') (gr S W (w'.setCell ⟨s, 1, none⟩ v')) s p (cs.take k ++ [⟨f0 + t, fun _ => false⟩] ++ cs.drop k) k v' ∧ PP (w'.setCell ⟨s, 1, none⟩ v') p ub f0 (mdr (fun _ => 1) u t 1) ∧ Turn (GrowS S p ub) W (w'.setCell ⟨s, 1, none⟩ v')) := fun q => by
      have T0 : Turn (fun _ => False) w3 ((w3.alloc (.cells #[.int .i64 ((f0 : Int) + (t : Int)), .bool false, .bool false, .bool false, .bool false] 85)).drewN q) := ((Turn.refl _ w3).alloc _).drewN q
      have hx := HX3.out.keep T0 (fun _ _ h => h)
      have hP := HP3.out.1.keep T0 (fun h => h) (fun h => h)
      have TT := HP3.out.2.trans T0 (fun _ h => h.elim)
      have hrow : RowAt ((w3.alloc (.cells #[.int .i64 ((f0 : Int) + (t : Int)), .bool false, .bool false, .bool false, .bool false] 85)).drewN q) w3.heap.size 85 [.int .i64 ((f0 : Int) + (t : Int)), .bool false, .bool false, .bool false, .bool false] := row_new w3 _ _
      have hown : ((w3.alloc (.cells #[.int .i64 ((f0 : Int) + (t : Int)), .bool false, .bool false, .bool false, .bool false] 85)).drewN q).ownsRow 0 85 5 (.slice (some ⟨w3.heap.size, 0, none⟩) 1 1) 1 [.int .i64 ((f0 : Int) + (t : Int)), .bool false, .bool false, .bool false, .bool false] := own_of_row hrow (Nat.zero_le _) (Nat.le_refl _) (by decide) rfl rfl
      have hsz : ((w3.alloc (.cells #[.int .i64 ((f0 : Int) + (t : Int)), .bool false, .bool false, .bool false, .bool false] 85)).drewN q).heap.size = w3.heap.size + 1 := by simp [World.drewN]
      generalize (w3.alloc (.cells #[.int .i64 ((f0 : Int) + (t : Int)), .bool false, .bool false, .bool false, .bool false] 85)).drewN q = wa at *
      refine (insert_any 0 cs.length 1 k _ _ (cs.flatMap Cut.enc) _ wa hx.own hown (fun g hg e => ?_) hkl (by omega) (enc_one cs) (fun y hy => ?_) (Nat.zero_le _)).mono ?_
      · have e' : some w3.heap.size = some g := e
        cases e'
        have := HX3.out.lowb _ (HX3.out.vS _ hg)
        omega
      · simp at hy
        rcases hy with rfl | rfl <;> rfl
      · rintro e w' ⟨v', rfl, ho, hg, hb⟩
        have hvs : ¬ (Value.slice va cs.length vc).ownBlock = some s := fun e => hx.sne s e rfl
        have T1 : Turn (fun b => (Value.slice va cs.length vc).ownBlock = some b) wa w' := Turn.grown hg (fun k hk => .inl hk)
        have hbx : RowAt w' s 81 [.pointer (some ⟨p, 0, none⟩), .slice va cs.length vc, .int .i64 (k : Int)] := hx.box.turn T1 hvs
        have T2 : Turn (· = s) w' (w'.setCell ⟨s, 1, none⟩ v') := (Turn.refl (· = s) w').setCell (p := ⟨s, 1, none⟩) (.inl rfl) _
        have hvb : ∀ b, v'.ownBlock = some b → b ≠ s := fun b hb' e => by
          rcases hb b hb' with h1 | h1
          · exact hx.sne b h1 e
          · have := hx.lowb s hx.Ss; omega
        have TT2 : Turn (GrowS S p ub) W (w'.setCell ⟨s, 1, none⟩ v') := (TT.trans T1 (fun b hb => .inl (.inl (hx.vS b hb)))).trans T2 (fun b hb => .inl (.inl (by rw [hb]; exact hx.Ss)))
        have hps : ∀ b, S b → b ≠ p ∧ b ≠ ub := fun b hb => ⟨fun e => HS.out.1 (e ▸ hb), fun e => HS.out.2 (e ▸ hb)⟩
        refine ⟨v', slice_form ho, rfl, by rw [hbx.cell]; rfl, hbx.frozen 1, ⟨hbx.set 1 v', ?_, ?_, .inl hx.Ss, ?_, ?_, ?_, ?_⟩, (hP.keep T1 (fun e => (hps p (hx.vS p e)).1 rfl) (fun e => (hps ub (hx.vS ub e)).2 rfl)).keep T2 (fun e => (hps s hx.Ss).1 e.symm) (fun e => (hps s hx.Ss).2 e.symm), TT2⟩
        · have := own_turn ho T2 hvb
          rw [List.flatMap_append, List.flatMap_append, flat_take, flat_drop, show (cs.take k ++ [⟨f0 + t, fun _ => false⟩] ++ cs.drop k : List Cut).length = cs.length + 1 by simp; omega]
          exact this
        · intro b hb'
          rcases hb b hb' with h1 | h1
          · exact .inl (hx.vS b h1)
          · refine .inr ⟨?_, ?_⟩
            · have := TT.size; omega
            · have := (World.ownsRow.lt ho b hb').2
              simpa [World.setCell] using this
        · intro b hb'
          rcases hb' with hb' | hb'
          · exact Nat.lt_of_lt_of_le (hx.lowb b hb') (Nat.le_trans T1.size T2.size)
          · exact hb'.2
        · refine ⟨by simp; omega, fun i c hi hc => ?_⟩
          rw [List.append_assoc, List.getElem?_append_left (by simp; omega), List.getElem?_take_of_lt hi] at hc
          exact HF.out c (List.mem_of_getElem? hc)
        · exact srt_insert hx.srt HPos.out HNE.out _
        · intro c hc
          simp only [List.mem_append, List.mem_singleton] at hc
          rcases hc with (hc | rfl) | hc
          · exact hx.fb c (List.mem_of_mem_take hc)
          · show f0 + t < _; omega
          · exact hx.fb c (List.mem_of_mem_drop hc)
    go_region_with ((first
      | (go_at_call 53; refine (hins _).mono ?_; rintro e w4 ⟨v4, ⟨a4, c4, rfl⟩, rfl, x1, x2, HF4⟩)))
    all_goals
      go_wp2
      go_ret
      exact .inr ⟨t, k, _, HTK.out, rfl, HPos.out, HF4.out.1, HF4.out.2.1, HF4.out.2.2⟩
  · rw [htk] at ht
    simp only at ht
    have HTK : Hid (tk f0 u 1 1 = none) := htk
    clear htk hno h hU hP hp1 hp2 hfull
    go_enter Try.func45, Try.ntmps45
    go_wp2_with (first
      | (go_at_call 14; refine ht.mono ?_; clear ht; rintro e w1 ⟨rfl, hP1, hT1⟩; have HP1 : Hid (PP w1 p ub f0 u ∧ Turn (Two p ub) W w1) := ⟨hP1, hT1⟩; clear hP1 hT1)
      | go_in)
    go_ret
    exact .inl ⟨HTK.out, rfl, HP1.out.1, HP1.out.2⟩
end Go.Proofs.Ytplobjdghaokoaa
