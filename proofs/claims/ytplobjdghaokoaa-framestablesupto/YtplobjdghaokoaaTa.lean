import Derived.Test.YtplobjdghaokoaaDk
import Derived.Test.YtplobjdghaokoaaOp
import Derived.Test.YtplobjdghaokoaaRu
import Derived.Deep.RegionHeld3
namespace Go.Proofs.Ytplobjdghaokoaa
open Go.RowKit
set_option linter.unusedVariables false

theorem tabsL_nil {cs : List Cut} (ha : ∀ c ∈ cs, c.any = true) (h : tabsL cs = []) : cs = [] := by
  cases cs with
  | nil => rfl
  | cons c r =>
    exfalso
    unfold tabsL at h
    rw [List.flatMap_cons, List.append_eq_nil_iff] at h
    exact tabs_ne (ha c (by simp)) h.1
theorem tv_zero {f0 n : Nat} : Tv f0 n (List.replicate n 0) (fun _ => []) := ⟨fun i _ c hc => absurd hc (by simp), fun i j _ _ _ c hc => absurd hc (by simp), (by rw [zeros_rep]; rfl), List.length_replicate⟩
theorem dk_init {W w2 w3 w4 : World} {p ub f0 n : Nat} (hP : PP w2 p ub f0 (List.replicate n 0)) (hT : Turn (fun _ => False) W w2) (hp : W.heap.size ≤ p ∧ W.heap.size ≤ ub) (h3 : PS w3 (· = w2.heap.size) w2.heap.size p []) (X3 : Turn (fun _ => False) w2 w3) (z3 : w3.heap.size = w2.heap.size + 1)
    (h4 : PS w4 (· = w3.heap.size) w3.heap.size p []) (X4 : Turn (fun _ => False) w3 w4) (z4 : w4.heap.size = w3.heap.size + 1) :
    ∃ c : TC, p = c.p ∧ f0 = c.f0 ∧ n = c.n ∧ w2.heap.size = c.s 0 ∧ w3.heap.size = c.s 1 ∧ w4.heap.size = c.sg ∧ DK W (w4.alloc (.cells #[.pointer (some ⟨w2.heap.size, 0, none⟩), .pointer (some ⟨w3.heap.size, 0, none⟩)] 50)) c (List.replicate n 0) (fun _ => []) none [] := by
  have hlt := hP.lt
  have hz := hT.size
  have X5 : Turn (fun _ => False) w4 (w4.alloc (.cells #[.pointer (some ⟨w2.heap.size, 0, none⟩), .pointer (some ⟨w3.heap.size, 0, none⟩)] 50)) := (Turn.refl _ _).alloc _
  refine ⟨⟨p, ub, f0, n, w4.heap.size, fun i => if i = 0 then w2.heap.size else w3.heap.size⟩, rfl, rfl, rfl, rfl, rfl, rfl, fun i b => if i = 0 then b = w2.heap.size else b = w3.heap.size, ⟨((hT.trans X3 (fun _ h => h.elim)).trans X4 (fun _ h => h.elim)).trans X5 (fun _ h => h.elim), row_new w4 _ _, ((hP.keep X3 (fun h => h) (fun h => h)).keep X4 (fun h => h) (fun h => h)).keep X5 (fun h => h) (fun h => h), fun i hi => ?_, ⟨hp.1, hp.2, by show _ ≤ w4.heap.size; omega⟩, fun i b hi hb => ?_, fun i b hi hb => ?_, fun i j b hi hj hij hb hb2 => ?_, tv_zero⟩, fun i x hx => by simp at hx, fun g hg => by cases hg⟩
  · rcases (show i = 0 ∨ i = 1 by omega) with rfl | rfl
    · exact (h3.keep X4 (fun _ _ h => h)).keep X5 (fun _ _ h => h)
    · exact h4.keep X5 (fun _ _ h => h)
  · have hb' : if i = 0 then b = w2.heap.size else b = w3.heap.size := hb
    split at hb' <;> omega
  · have hb' : if i = 0 then b = w2.heap.size else b = w3.heap.size := hb
    show b ≠ p ∧ b ≠ ub ∧ b ≠ w4.heap.size
    split at hb' <;> omega
  · have hb' : if i = 0 then b = w2.heap.size else b = w3.heap.size := hb
    have hb2' : if j = 0 then b = w2.heap.size else b = w3.heap.size := hb2
    split at hb' <;> split at hb2' <;> omega

set_option maxHeartbeats 64000000 in
set_option maxRecDepth 100000 in
theorem law_tables (W : World) (first count : Int) (a : Option Addr) (cap : Nat) (ops : List Op4) (hs : Scr W a ops) (hl : ops.length ≤ 140737488355328) :
    Calls Try.prog 8 #[.int .i64 first, .int .i64 count, .slice a ops.length cap] W fun e W' => e = .returned (.bool true) ∧ Below W.heap.size W W' := by
  have hpr := pressed_any W first count
  obtain ⟨f1, f2⟩ := pf_lt first
  obtain ⟨c1, c2, c3⟩ := pc_lt count
  have HS : Hid (Scr W a ops) := hs
  clear hs f2 c3
  generalize pf first = f0 at *
  generalize pc count = n at *
  generalize hn : ops.length = m at *
  have HN : Hid (ops.length = m) := hn
  clear hn
  go_enter Try.func8, Try.ntmps8
  go_wp2_with (first
    | (go_at_call 9; refine hpr.mono ?_; clear hpr; rintro e w1 ⟨rfl, hp1, ht1, hz1⟩;
       have hlv := live_any w1;
       have HP1 : Hid (PP w1 (W.heap.size + 1) W.heap.size f0 (List.replicate n 0) ∧ Turn (fun _ => False) W w1) := ⟨hp1, ht1⟩; clear hp1 ht1 hz1)
    | (go_at_call 10; refine hlv.mono ?_; clear hlv; rintro e w2 ⟨rfl, ht2⟩; have HP2 : Hid (PP w2 (W.heap.size + 1) W.heap.size f0 (List.replicate n 0) ∧ Turn (fun _ => False) W w2) := ⟨HP1.out.1.keep ht2 (fun h => h) (fun h => h), HP1.out.2.trans ht2 (fun _ h => h.elim)⟩; have hn1 := newSlab_any w2 (W.heap.size + 1); clear ht2 HP1)
    | (go_at_call 23; refine hn1.mono ?_; clear hn1; rintro e w3 ⟨rfl, hs3, ht3, hz3⟩; have HP3 : Hid (PS w3 (· = w2.heap.size) w2.heap.size (W.heap.size + 1) [] ∧ Turn (fun _ => False) w2 w3 ∧ w3.heap.size = w2.heap.size + 1) := ⟨hs3, ht3, hz3⟩; have hn2 := newSlab_any w3 (W.heap.size + 1); clear hs3 ht3 hz3)
    | (go_at_call 23; refine hn2.mono ?_; clear hn2; rintro e w4 ⟨rfl, hs4, ht4, hz4⟩; have HP4 : Hid (PS w4 (· = w3.heap.size) w3.heap.size (W.heap.size + 1) [] ∧ Turn (fun _ => False) w3 w4 ∧ w4.heap.size = w3.heap.size + 1) := ⟨hs4, ht4, hz4⟩; clear hs4 ht4 hz4)
    | (go_at_call 15; refine (no_any _ _).mono ?_; rintro e w' ⟨rfl, rfl⟩)
    | go_in)
  obtain ⟨c, hc1, hc2, hc3, hc4, hc5, hc6, hK0⟩ := dk_init HP2.out.1 HP2.out.2 ⟨by omega, by omega⟩ HP3.out.1 HP3.out.2.1 HP3.out.2.2 HP4.out.1 HP4.out.2.1 HP4.out.2.2
  clear HP2 HP3 HP4
  generalize w4.alloc (.cells #[.pointer (some ⟨w2.heap.size, 0, none⟩), .pointer (some ⟨w3.heap.size, 0, none⟩)] 50) = w5 at *
  generalize W.heap.size + 1 = p at *
  generalize w2.heap.size = s0 at *
  generalize w3.heap.size = s1 at *
  generalize w4.heap.size = sg at *
  subst hc1 hc2 hc3 hc4 hc5 hc6
  have HK0 : Hid (DK W w5 c (List.replicate c.n 0) (fun _ => []) none []) := hK0
  clear hK0
  go_loopw [15] (fun s15 wr => ∃ (k : Nat) (u : List Nat) (cs : Nat → List Cut), k ≤ m ∧ s15 = .int .i64 k ∧ Hid (DK W wr c u cs none [])) (fun s15 _ => m - (intOf s15).toNat)
  case atStart => exact ⟨0, _, _, Nat.zero_le _, rfl, HK0⟩
  case round =>
    obtain ⟨k, u, cs, hk, rfl, HX⟩ := hrel
    clear HK0
    by_cases hlt : k < m
    · obtain ⟨o, ho⟩ : ∃ o, ops[k]? = some o := ⟨_, List.getElem?_eq_getElem (by rw [HN.out]; omega)⟩
      obtain ⟨b, off, rfl, hbl, e0, e1, e2, e3, e4⟩ := HS.out.lies k o ho
      have HO : Hid (∀ w' : World, Turn (fun _ => False) W w' → w'.cell? ⟨b, off + k * 5, none⟩ = some (.int .i64 o.kind) ∧ w'.cell? ⟨b, off + k * 5 + 1, none⟩ = some (.int .i64 o.first)) := fun w' T => ⟨by rw [T.cell hbl (fun h => h)]; exact e0, by rw [T.cell hbl (fun h => h)]; exact e1⟩
      have T := HX.out.trn
      rw [← T.cell hbl (fun h => h)] at e4
      obtain ⟨i, hi, he⟩ := and_one o.which
      have hi0 : (0 : Int) ≤ (i : Int) := by omega
      have hi1 : (i : Int) < 2 := by omega
      have hi2 : (i : Int) ≤ 2 := by omega
      have HI : Hid (i < 2) := hi
      have q1 := HX.out.cell hi
      have htb := dk_tabs HX.out hi
      have HPL : Hid (Srt (cs i) ∧ (∀ c ∈ cs i, c.any = true) ∧ (∀ c ∈ cs i, c.f < 268435456) ∧ (cs i).length ≤ 268435456 ∧ (tabsL (cs i)).length ≤ 1073741824) := HX.out.plain hi
      have htl := HPL.out.2.2.2.2
      have HTV : Hid (Tv c.f0 c.n u cs) := HX.out.tv
      have hiz : (k : Int) < (m : Int) := by omega
      have hkz : (0 : Int) ≤ (k : Int) := by omega
      clear e0 e1 e2 e3 T ho HX
      generalize hTL : (tabsL (cs i)).length = TL at *
      have HTL : Hid ((tabsL (cs i)).length = TL) := hTL
      clear hTL
      go_wp2_with (first
        | (go_at_call 26; refine htb.mono ?_; clear htb; rintro e w1 ⟨a1, k1, rfl, ht1, hK⟩;
           have HK : Hid (DK W w1 c u cs a1 (tabsL (cs i))) := hK; clear hK ht1;
           obtain ⟨x0, x1⟩ := HO.out w1 HK.out.trn;
           have q2 := HK.out.cell HI.out;
           have hfr := free_any w1 c.p c.ub c.f0 u HK.out.pp)
        | (go_at_call 18; refine hfr.mono ?_; clear hfr; rintro e w' ⟨rfl, rfl⟩)
        | (go_at_call 28; refine Hid.out ?_)
        | (go_at_call 13; refine Hid.out ?_)
        | (go_at_call 32; refine Hid.out ?_)
        | go_in)
      -- BRANCHES
      · refine (dk_take HK.out HI.out).mono ?_
        rintro e w2 ⟨r, e0, rfl, u', cs', hsl, hK⟩
        have HSL : Hid (SlT c.f0 u (cs i) r e0 u' cs') := hsl
        clear hsl HK q1 q2 x0 x1 e4
        go_wp2
        have hK2 := hK.drew
        clear hK
        have q3 := hK2.cell HI.out
        have HG : Hid (∀ w : World, DK W w c u' (up cs i cs') a1 (tabsL (cs i)) → Calls Try.prog 30 #[.pointer (some ⟨c.s i, 0, none⟩), .slice a1 TL k1, .int .i64 r, .int .i64 e0, .int .i64 (zeros u'), .int .i64 (zeros u)] w fun e w' => e = .returned (.bool true) ∧ DK W w' c u' (up cs i cs') none []) := fun w h => by
          have := dk_gives HI.out h HTV.out ⟨HPL.out.1, HPL.out.2.1, HPL.out.2.2.1, HPL.out.2.2.2.1, by rw [HTL.out]; exact htl⟩ HSL.out k1
          rw [HTL.out] at this
          exact this
        go_region_held3 (fun w' => w'.cell? ⟨c.sg, i, none⟩ = some (.pointer (some ⟨c.s i, 0, none⟩))) (first | go_keep | exact hK2.cell HI.out | exact hK3.cell HI.out)
          ((first
            | (go_at_call 15; refine (no_any _ _).mono ?_; rintro e w' ⟨rfl, rfl⟩)
            | (go_at_call 18; refine (free_any _ c.p c.ub c.f0 u' hK2.pp).mono ?_; rintro e w' ⟨rfl, rfl⟩)
            | (go_at_call 30; refine (HG.out _ hK2).mono ?_; clear hK2; rintro e w3 ⟨rfl, hK3⟩)))
        all_goals
          have hkp := dk_kept hK3
          have hsum := hK3.tv.sum
          have hp1 := (hK3.plain (i := 0) (by omega)).2.2.2.1
          have hp2 := (hK3.plain (i := 1) (by omega)).2.2.2.1
          clear hK3
          go_wp2_with (first
            | (go_at_call 32; refine hkp.mono ?_; clear hkp; rintro e w5 ⟨rfl, hK5⟩; have hfr5 := free_any w5 _ _ _ _ hK5.pp; have hF0 := dk_frames hK5 (i := 0) (by omega); clear hK5)
            | (go_at_call 18; refine hfr5.mono ?_; clear hfr5; rintro e w' ⟨rfl, rfl⟩)
            | (go_at_call 27; refine hF0.mono ?_; clear hF0; rintro e w6 ⟨a6, k6, rfl, hK6⟩; have hF1 := dk_frames hK6 (i := 1) (by omega); clear hK6)
            | (go_at_call 27; refine hF1.mono ?_; clear hF1; rintro e w7 ⟨a7, k7, rfl, hK7⟩; have HK7 : Hid (DK W w7 c _ _ _ _) := hK7; clear hK7)
            | go_in)
          go_roundw
          case rel => exact ⟨k + 1, _, _, by omega, by go_num, HK7.out.bare⟩
          case measure => simp [intOf]; omega
      · obtain ⟨T', rfl⟩ : ∃ T', TL = T' + 1 := ⟨TL - 1, by omega⟩
        obtain ⟨κ, hκ1, hκ2⟩ : ∃ κ : Nat, o.first % ((T' + 1 : Nat) : Int) = (κ : Int) ∧ κ < T' + 1 := by
          have h1 := Int.emod_nonneg o.first (b := ((T' + 1 : Nat) : Int)) (by omega)
          have h2 := Int.emod_lt_of_pos o.first (b := ((T' + 1 : Nat) : Int)) (by omega)
          exact ⟨(o.first % ((T' + 1 : Nat) : Int)).toNat, by omega, by omega⟩
        refine (rest_any w1 o.first ((T' + 1 : Nat) : Int) (by omega) (by omega)).mono ?_
        rintro e w' ⟨rfl, rfl⟩
        rw [hκ1]
        clear hκ1
        obtain ⟨x, hx⟩ : ∃ x, (tabsL (cs i))[κ]? = some x := ⟨_, List.getElem?_eq_getElem (by rw [HTL.out]; omega)⟩
        have HXM : Hid (x ∈ tabsL (cs i)) := List.mem_of_getElem? hx
        have hxb := tabsL_bd HPL.out.2.2.1 x HXM.out
        obtain ⟨g, rfl, _, hcx⟩ := HK.out.iat κ x hx
        have HLC : Hid (∀ (w : World) (u : List Nat) (cs2 : Nat → List Cut), DK W w c u cs2 (some ⟨g, 0, none⟩) (tabsL (cs i)) → w.cell? ⟨g, κ, none⟩ = some (.int .i64 x)) := fun w u cs2 h => by
          obtain ⟨g', e', _, h'⟩ := h.iat κ x hx
          cases e'
          exact h'
        have hκz : (κ : Int) < (T' : Int) + 1 := by omega
        have hwT : IntKind.i64.wrap (T' : Int) = (T' : Int) := by rw [IntKind.wrap_i64]; omega
        have hwT2 : ((T' : Int) != IntKind.i64.wrap (T' : Int)) = false := by rw [hwT]; simp
        have hκ0 : (0 : Int) ≤ (κ : Int) := by omega
        clear hx q1 q2 x0 x1 e4
        go_wp2
        have hK := HK.out.drew
        clear HK hcx
        have q3 := hK.cell HI.out
        have q4 := HLC.out _ _ _ hK
        go_region_held3 (fun w' => w'.cell? ⟨c.sg, i, none⟩ = some (.pointer (some ⟨c.s i, 0, none⟩)) ∧ w'.cell? ⟨g, κ, none⟩ = some (.int .i64 x)) (first | go_keep | exact ⟨hK.cell HI.out, HLC.out _ _ _ hK⟩ | exact ⟨hK2.cell HI.out, HLC.out _ _ _ hK2⟩ | exact ⟨hK3.cell HI.out, HLC.out _ _ _ hK3⟩ | exact ⟨hK4.cell HI.out, HLC.out _ _ _ hK4⟩)
          ((first
            | (go_at_call 15; refine (no_any _ _).mono ?_; rintro e w' ⟨rfl, rfl⟩)
            | (go_at_call 31; refine (dk_drop hK HI.out x (by omega)).mono ?_; clear hK; rintro e w2 ⟨e0, rfl, u1, cs1, hd1, hK2⟩;
               obtain ⟨z1, _, z3⟩ := slD_tabs HPL.out.1 hd1;
               obtain rfl := z1 HXM.out;
               have HD1 : Hid (tabsL cs1 = rmL (tabsL (cs i)) x ∧ Srt cs1) := ⟨z3, (by have := (hK2.plain HI.out).1; rw [up_same] at this; exact this)⟩; clear z1 z3 hd1)
            | (go_at_call 31; refine (dk_drop hK2 HI.out x (by omega)).mono ?_; clear hK2; rintro e w3 ⟨e1, rfl, u2, cs2, hd2, hK3⟩;
               rw [up_same] at hd2;
               obtain ⟨_, z2, z3⟩ := slD_tabs HD1.out.2 hd2;
               obtain rfl := z2 (by rw [HD1.out.1, mem_rmL]; exact fun h => h.2 rfl);
               have HD2 : Hid ((tabsL (up (up cs i cs1) i cs2 i)).length = T') := (by
                 show _ = _
                 rw [up_same, z3, HD1.out.1]
                 have h1 := rmL_len1 (inc_tabsL HPL.out.1) HXM.out
                 rw [HTL.out] at h1
                 have h2 : rmL (rmL (tabsL (cs i)) x) x = rmL (tabsL (cs i)) x := List.filter_eq_self.2 (fun y hy => decide_eq_true (mem_rmL.1 hy).2)
                 rw [h2]
                 omega); clear z2 z3 hd2)
            | (go_at_call 26; refine (dk_tabs hK3 HI.out).mono ?_; rintro e w4 ⟨a4, k4, rfl, X4, _⟩; have hK4 := hK3.keep X4; clear hK3 X4; rw [HD2.out])))
        all_goals
          have hkp := dk_kept hK4
          have hsum := hK4.tv.sum
          have hp1 := (hK4.plain (i := 0) (by omega)).2.2.2.1
          have hp2 := (hK4.plain (i := 1) (by omega)).2.2.2.1
          clear hK4
          go_wp2_with (first
            | (go_at_call 32; refine hkp.mono ?_; clear hkp; rintro e w5 ⟨rfl, hK5⟩; have hfr5 := free_any w5 _ _ _ _ hK5.pp; have hF0 := dk_frames hK5 (i := 0) (by omega); clear hK5)
            | (go_at_call 18; refine hfr5.mono ?_; clear hfr5; rintro e w' ⟨rfl, rfl⟩)
            | (go_at_call 27; refine hF0.mono ?_; clear hF0; rintro e w6 ⟨a6, k6, rfl, hK6⟩; have hF1 := dk_frames hK6 (i := 1) (by omega); clear hK6)
            | (go_at_call 27; refine hF1.mono ?_; clear hF1; rintro e w7 ⟨a7, k7, rfl, hK7⟩; have HK7 : Hid (DK W w7 c _ _ _ _) := hK7; clear hK7)
            | go_in)
          go_roundw
          case rel => exact ⟨k + 1, _, _, by omega, by go_num, HK7.out.bare⟩
          case measure => simp [intOf]; omega
      · have hK3 := HK.out
        have hkp := dk_kept hK3
        have hsum := hK3.tv.sum
        have hp1 := (hK3.plain (i := 0) (by omega)).2.2.2.1
        have hp2 := (hK3.plain (i := 1) (by omega)).2.2.2.1
        clear hK3 HK q1 q2 x0 x1 e4
        refine hkp.mono ?_
        clear hkp
        rintro e w5 ⟨rfl, hK5⟩
        have hfr5 := free_any w5 _ _ _ _ hK5.pp
        have hF0 := dk_frames hK5 (i := 0) (by omega)
        clear hK5
        go_wp2_with (first
          | (go_at_call 32; refine hkp.mono ?_; clear hkp; rintro e w5 ⟨rfl, hK5⟩; have hfr5 := free_any w5 _ _ _ _ hK5.pp; have hF0 := dk_frames hK5 (i := 0) (by omega); clear hK5)
          | (go_at_call 18; refine hfr5.mono ?_; clear hfr5; rintro e w' ⟨rfl, rfl⟩)
          | (go_at_call 27; refine hF0.mono ?_; clear hF0; rintro e w6 ⟨a6, k6, rfl, hK6⟩; have hF1 := dk_frames hK6 (i := 1) (by omega); clear hK6)
          | (go_at_call 27; refine hF1.mono ?_; clear hF1; rintro e w7 ⟨a7, k7, rfl, hK7⟩; have HK7 : Hid (DK W w7 c _ _ _ _) := hK7; clear hK7)
          | go_in)
        go_roundw
        case rel => exact ⟨k + 1, _, _, by omega, by go_num, HK7.out.bare⟩
        case measure => simp [intOf]; omega
    · go_wp2
      generalize wr = wz at *
      go_loopw [22] (fun s22 wr => ∃ (i : Nat) (u : List Nat) (cs : Nat → List Cut), i ≤ 2 ∧ s22 = .int .i64 i ∧ Hid (DK W wr c u cs none [] ∧ ∀ j, j < i → cs j = [])) (fun s22 _ => 2 - (intOf s22).toNat)
      case atStart => exact ⟨0, u, cs, by omega, rfl, HX.out, fun j hj => by omega⟩
      case round =>
        obtain ⟨i, u, cs, hi2, rfl, HY⟩ := hrel
        clear HX
        by_cases hi : i < 2
        · have HI : Hid (i < 2) := hi
          have hi0 : (0 : Int) ≤ (i : Int) := by omega
          have hi1 : (i : Int) < 2 := by omega
          have q1 := HY.out.1.cell hi
          have htb := dk_tabs HY.out.1 hi
          have hpl := HY.out.1.plain hi
          have htl := hpl.2.2.2.2
          have HPL : Hid (Inc (tabsL (cs i)) ∧ ∀ x ∈ tabsL (cs i), 0 ≤ x ∧ x ≤ 1073741824) := ⟨inc_tabsL hpl.1, tabsL_bd hpl.2.2.1⟩
          have HE : Hid (∀ j, j < i → cs j = []) := HY.out.2
          clear hpl HY
          generalize hTL : (tabsL (cs i)).length = TL at *
          have HTL : Hid ((tabsL (cs i)).length = TL) := hTL
          clear hTL
          go_wp2_with (first
            | (go_at_call 26; refine htb.mono ?_; clear htb; rintro e w1 ⟨a1, k1, rfl, ht1, hK⟩;
               have HK : Hid (DK W w1 c u cs a1 (tabsL (cs i))) := hK; clear hK ht1)
            | go_in)
          generalize hL : tabsL (cs i) = L at *
          generalize wr = wy at *
          go_loopw [24] (fun s24 wr => ∃ (k : Nat) (u : List Nat) (cs : Nat → List Cut), k ≤ TL ∧ s24 = .int .i64 k ∧ Hid (DK W wr c u cs a1 L ∧ tabsL (cs i) = L.drop k ∧ ∀ j, j < i → cs j = [])) (fun s24 _ => TL - (intOf s24).toNat)
          case atStart => exact ⟨0, u, cs, by omega, rfl, HK.out, by rw [hL]; rfl, HE.out⟩
          case round =>
            clear HK HE hL q1
            obtain ⟨k2, u2, cs2, hk2, rfl, HZ⟩ := hrel
            by_cases hkl : k2 < TL
            · obtain ⟨x, hx⟩ : ∃ x, L[k2]? = some x := ⟨_, List.getElem?_eq_getElem (by rw [HTL.out]; omega)⟩
              obtain ⟨g, rfl, _, hcx⟩ := HZ.out.1.iat k2 x hx
              have HX2 : Hid (L[k2]? = some x) := hx
              have hxb := HPL.out.2 x (List.mem_of_getElem? hx)
              have HLC : Hid (∀ (w : World) (u : List Nat) (cs2 : Nat → List Cut), DK W w c u cs2 (some ⟨g, 0, none⟩) L → w.cell? ⟨g, k2, none⟩ = some (.int .i64 x)) := fun w u cs2 h => by
                obtain ⟨g', e', _, h'⟩ := h.iat k2 x hx
                cases e'
                exact h'
              have hkz : (k2 : Int) < (TL : Int) := by omega
              have hk0 : (0 : Int) ≤ (k2 : Int) := by omega
              have HZ2 : Hid (tabsL (cs2 i) = L.drop k2 ∧ (∀ j, j < i → cs2 j = []) ∧ Srt (cs2 i)) := ⟨HZ.out.2.1, HZ.out.2.2, (HZ.out.1.plain HI.out).1⟩
              clear hx hcx
              go_wp2
              have hK := HZ.out.1.drew
              clear HZ
              have q3 := hK.cell HI.out
              have q4 := HLC.out _ _ _ hK
              go_region_held3 (fun w' => w'.cell? ⟨c.sg, i, none⟩ = some (.pointer (some ⟨c.s i, 0, none⟩)) ∧ w'.cell? ⟨g, k2, none⟩ = some (.int .i64 x)) (first | go_keep | exact ⟨hK.cell HI.out, HLC.out _ _ _ hK⟩ | exact ⟨hK2.cell HI.out, HLC.out _ _ _ hK2⟩)
                ((first
                  | (go_at_call 15; refine (no_any _ _).mono ?_; rintro e w' ⟨rfl, rfl⟩)
                  | (go_at_call 31; refine (dk_drop hK HI.out x (by omega)).mono ?_; clear hK; rintro e w2 ⟨e0, rfl, u1, cs1, hd1, hK2⟩;
                     obtain ⟨z1, _, z3⟩ := slD_tabs HZ2.out.2.2 hd1;
                     obtain rfl := z1 (by rw [HZ2.out.1]; exact List.mem_of_getElem? (by rw [List.getElem?_drop, Nat.add_zero]; exact HX2.out));
                     have HD1 : Hid (tabsL cs1 = L.drop (k2 + 1)) := (by show _ = _; rw [z3, HZ2.out.1]; exact rmL_drop HPL.out.1 HX2.out); clear z1 z3 hd1)))
              all_goals
                go_wp2
                go_roundw
                case rel => exact ⟨k2 + 1, u1, up cs2 i cs1, by omega, by go_num, hK2, by rw [up_same]; exact HD1.out, fun j hj => by rw [up_other _ _ (by omega)]; exact HZ2.out.2.1 j hj⟩
                case measure => simp [intOf]; omega
            · obtain rfl : k2 = TL := by omega
              have HEE : Hid (cs2 i = []) := tabsL_nil (HZ.out.1.plain HI.out).2.1 (by rw [HZ.out.2.1, List.drop_eq_nil_iff, HTL.out]; exact Nat.le_refl _)
              go_wp2
              go_roundw
              case rel => exact ⟨i + 1, u2, cs2, by omega, by go_num, HZ.out.1.bare, fun j hj => by
                by_cases e : j = i
                · rw [e]; exact HEE.out
                · exact HZ.out.2.2 j (by omega)⟩
              case measure => simp [intOf]; omega
        · obtain rfl : i = 2 := by omega
          have hue : u = List.replicate c.n 0 := by
            have h1 := HY.out.1.tv.sum
            have h2 := HY.out.1.tv.len
            rw [HY.out.2 0 (by omega), HY.out.2 1 (by omega)] at h1
            have h3 := zeros_all (u := u) (by simp at h1; omega)
            rw [h2] at h3
            exact h3
          subst hue
          have hfr := free_any wr c.p c.ub c.f0 _ HY.out.1.pp
          have hru := runs_any wr c.p c.ub c.f0 _ HY.out.1.pp
          rw [zeros_rep] at hfr
          rw [runs_all c.f0 c.n (by omega)] at hru
          have HTI : Hid (Turn (fun _ => False) W wr) := HY.out.1.trn
          clear HY
          go_wp2_with (first
            | (go_at_call 18; refine hfr.mono ?_; clear hfr; rintro e w5 ⟨rfl, rfl⟩)
            | (go_at_call 17; refine hru.mono ?_; clear hru; rintro e w5 ⟨v5, rfl, ho5, ht5⟩;
               obtain ⟨a5, c5, rfl, hr5, _⟩ := own_rat (A := [(c.f0, c.n)]) ho5;
               have T5 : Turn (fun _ => False) w5 (w5.alloc (.cells #[.int .i64 (c.f0 : Int), .int .i64 (c.n : Int)] 42)) := (Turn.refl _ _).alloc _;
               have hsm := sameRuns_any (w5.alloc (.cells #[.int .i64 (c.f0 : Int), .int .i64 (c.n : Int)] 42)) a5 (some ⟨w5.heap.size, 0, none⟩) c5 1 [(c.f0, c.n)] [(c.f0, c.n)] (hr5.turn T5 (fun _ _ h => h)) (fun t y hy => (by
                 have hrow := row_new w5 [.int .i64 (c.f0 : Int), .int .i64 (c.n : Int)] 42
                 have ht0 : t = 0 := by have := (List.getElem?_eq_some_iff.1 hy).1; simpa using this
                 subst ht0
                 cases hy
                 exact ⟨_, rfl, hrow.lt, hrow.cell 0, hrow.cell 1⟩)) (by simp) (by simp);
               rw [decide_eq_true rfl] at hsm;
               have HT5 : Hid (Turn (fun _ => False) W (w5.alloc (.cells #[.int .i64 (c.f0 : Int), .int .i64 (c.n : Int)] 42))) := (HTI.out.trans ht5 (fun _ h => h.elim)).trans T5 (fun _ h => h.elim);
               clear ho5 ht5 hr5 T5)
            | (go_at_call 21; refine hsm.mono ?_; clear hsm; rintro e w7 ⟨rfl, q7, rfl⟩)
            | go_in)
          go_ret
          exact ⟨rfl, (HT5.out.drewN _).to (fun _ h => h.elim) (Nat.le_refl _)⟩
end Go.Proofs.Ytplobjdghaokoaa
