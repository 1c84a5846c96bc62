import Derived.Test.YtliiblaodhcjhaaSameP
import Derived.Test.YtliiblaodhcjhaaSameQ
import Derived.Test.YtliiblaodhcjhaaDif
import Derived.Test.YtliiblaodhcjhaaEq
import Derived.Test.YtliiblaodhcjhaaOpenI
import Derived.Test.YtliiblaodhcjhaaLastB
namespace Go.Proofs.Ytliiblaodhcjhaa
open Go.RowKit
set_option linter.unusedVariables false

theorem wrap_ne (y : Int) : wrap64 (y + 1) ≠ y := by
  unfold wrap64
  omega

theorem below_refl_drew (w : World) : Below w.heap.size w w.drew := (Below.refl _ w).drew

set_option maxHeartbeats 4000000 in
set_option maxRecDepth 100000 in
theorem law_same (W : World) (a ka : Option Addr) (cap kcap : Nat) (ops : List Op4) (ord : List Int) (key : Int) (S : Script W a ops) (hs : ops.length ≤ 1048576) (K : I64s W ka ord) (hks : ord.length ≤ 1048576) (k0 : 0 ≤ key) (k1 : key ≤ 18446744073709551615) :
    Calls Try.prog 6 #[.slice a ops.length cap, .slice ka ord.length kcap, .int .u64 key] W fun e W' => e = .returned (.bool true) ∧ Below W.heap.size W W' := by
  have hC := laid_any W a cap ops S (by omega)
  have HK : Hid (I64s W ka ord) := K
  clear S K
  generalize hL : layL ops = L at *
  generalize ops.length = m at *
  generalize hno : ord.length = no at *
  have HNO : Hid (ord.length = no) := hno
  clear hno hL
  go_enter Try.func6, Try.ntmps6
  go_wp2_with (fail)
  refine hC.mono ?_
  rintro e w1 ⟨rfl, ⟨v, hM, hl⟩, hB⟩
  clear hC
  go_wp2_with (fail)
  refine (live_any _).mono ?_
  rintro e w2 ⟨rfl, hb2⟩
  have hM2 := hM.keep hb2
  have hB2 := below_go hB hb2
  have hgd := hM.good
  clear hM hB hb2
  have hC := spans_any w2 _ W.heap.size v L hM2 (by omega)
  go_wp2_with (fail)
  refine hC.mono ?_
  rintro e w3 ⟨u, rfl, hLs, hb3⟩
  have hM3 := hM2.keep hb3
  have hB3 := below_go hB2 hb3
  clear hC
  have hll : L.length ≤ 2097152 := by omega
  have HL0 : Hid (∃ l : List (Sp Int), Ls w3 w2.heap.size u l ∧ (∀ s, s ∈ l ↔ s ∈ L) ∧ l.length = L.length) := ⟨L, hLs, fun _ => Iff.rfl, rfl⟩
  obtain ⟨la, lc, rfl⟩ := slice_form hLs
  clear hLs
  generalize hnl : L.length = nl at *
  have HNL : Hid (L.length = nl) := hnl
  clear hnl
  go_wp2
  go_loopw [9] (fun si wr => ∃ (i : Nat), i ≤ no ∧ si = .int .i64 i ∧ Hid (∃ l : List (Sp Int), Ls wr w2.heap.size (.slice la nl lc) l ∧ (∀ s, s ∈ l ↔ s ∈ L) ∧ l.length = nl) ∧ Hid (Below w2.heap.size w2 wr)) (fun si _ => no - (intOf si).toNat)
  case atStart => exact ⟨0, Nat.zero_le _, rfl, HL0, hb3⟩
  case round =>
    obtain ⟨i, hi, rfl, HL, HB⟩ := hrel
    by_cases hgo : i < no ∧ 0 < nl
    · obtain ⟨hlt, hpos⟩ := hgo
      obtain ⟨x, hx⟩ : ∃ x, ord[i]? = some x := ⟨_, List.getElem?_eq_getElem (by rw [HNO.out]; exact hlt)⟩
      obtain ⟨b, off, rfl, hbl, hxc⟩ := HK.out.lies i x hx
      obtain ⟨l, hl1, hl2, hl3⟩ := HL.out
      have hxw : wr.cell? ⟨b, off + i, none⟩ = some (.int .i64 x) := by rw [(bcell (below_go hB2 HB.out)).1 b _ hbl]; exact hxc
      have hiz : (i : Int) < (no : Int) := by omega
      have hi0 : (0 : Int) ≤ (i : Int) := by omega
      have hpz : (0 : Int) < (nl : Int) := by omega
      have hnz : ((nl : Int) == 0) = false := by simp; omega
      obtain ⟨ii, hii⟩ : ∃ ii : Nat, ii = i % nl := ⟨_, rfl⟩
      have hil : ii < nl := by rw [hii]; exact Nat.mod_lt _ hpos
      have hmod : (i : Int).tmod (nl : Int) = (ii : Int) := by rw [hii]; exact (Int.ofNat_tmod i nl).symm
      clear hii
      have hz1 := Int.lt_tmod_of_pos x hpz
      have hz2 := Int.tmod_lt_of_pos x hpz
      have hla : ∃ g, la = some ⟨g, 0, none⟩ ∧ w2.heap.size ≤ g ∧ g < wr.heap.size ∧ (∀ q s, l[q]? = some s → wr.cell? ⟨g, q * 3, none⟩ = some (.int .u64 s.lo) ∧ wr.cell? ⟨g, q * 3 + 1, none⟩ = some (.int .u64 s.hi) ∧ wr.cell? ⟨g, q * 3 + 2, none⟩ = some (.int .i64 s.val)) ∧ ∀ q, wr.frozen? ⟨g, q, none⟩ = false := by
        rcases hl1.view with ⟨h1, h2⟩ | ⟨g, cap, h1, h2, h3, h4, h5, h6⟩
        · exfalso
          rw [h2] at hl3
          simp at hl3
          omega
        · cases h1
          refine ⟨g, rfl, h2, h3, fun q s hs => ?_, fun q => ?_⟩
          · have q0 := h6 q s hs 0 (by omega)
            have q1 := h6 q s hs 1 (by omega)
            have q2 := h6 q s hs 2 (by omega)
            simp only [encS, Nat.add_zero, List.getElem?_cons_zero, List.getElem?_cons_succ] at q0 q1 q2
            exact ⟨q0, q1, q2⟩
          · have hq := hl1
            rw [Ls, hl3] at hq
            exact World.ownsRow.frozenAt hq q
      obtain ⟨g, rfl, hg1, hg2, hgc, hgf⟩ := hla
      obtain ⟨s, hs⟩ : ∃ s, l[ii]? = some s := ⟨_, List.getElem?_eq_getElem (by rw [hl3]; exact hil)⟩
      obtain ⟨p0, p1, p2⟩ := hgc ii s hs
      have hiiz : (0 : Int) ≤ (ii : Int) := by omega
      have hiln : (ii : Int) < (nl : Int) := by omega
      clear hx hxc HL HL0
      by_cases hneg : x.tmod (nl : Int) < 0
      · obtain ⟨jj, hjj⟩ : ∃ jj : Nat, x.tmod (nl : Int) + (nl : Int) = (jj : Int) := ⟨(x.tmod (nl : Int) + (nl : Int)).toNat, by omega⟩
        have hjl : jj < nl := by omega
        obtain ⟨t, ht⟩ : ∃ t, l[jj]? = some t := ⟨_, List.getElem?_eq_getElem (by rw [hl3]; exact hjl)⟩
        obtain ⟨r0, r1, r2⟩ := hgc jj t ht
        have hjjz : (0 : Int) ≤ (jj : Int) := by omega
        have hjln : (jj : Int) < (nl : Int) := by omega
        clear hgc
        have HW : Hid (∃ l' : List (Sp Int), Ls ((((((wr.setCell ⟨g, ii * 3, none⟩ (.int .u64 t.lo)).setCell ⟨g, ii * 3 + 1, none⟩ (.int .u64 t.hi)).setCell ⟨g, ii * 3 + 2, none⟩ (.int .i64 t.val)).setCell ⟨g, jj * 3, none⟩ (.int .u64 s.lo)).setCell ⟨g, jj * 3 + 1, none⟩ (.int .u64 s.hi)).setCell ⟨g, jj * 3 + 2, none⟩ (.int .i64 s.val)).drew w2.heap.size (.slice (some ⟨g, 0, none⟩) nl lc) l' ∧ (∀ s, s ∈ l' ↔ s ∈ L) ∧ l'.length = nl) := by
          have q1 := Ls.put hl3.symm hl1 (i := ii) (by rw [hl3]; exact hil) t
          have q2 := Ls.put (by rw [List.length_set]; exact hl3.symm) q1 (i := jj) (by rw [List.length_set, hl3]; exact hjl) s
          exact ⟨swapL l ii jj s t, q2.keep (below_refl_drew _) (fun g hg => (q2.lt g hg).2), fun y => (swap_mem hs ht y).trans (hl2 y), by rw [swap_len]; exact hl3⟩
        have hB5 : Below w2.heap.size w2 ((((((wr.setCell ⟨g, ii * 3, none⟩ (.int .u64 t.lo)).setCell ⟨g, ii * 3 + 1, none⟩ (.int .u64 t.hi)).setCell ⟨g, ii * 3 + 2, none⟩ (.int .i64 t.val)).setCell ⟨g, jj * 3, none⟩ (.int .u64 s.lo)).setCell ⟨g, jj * 3 + 1, none⟩ (.int .u64 s.hi)).setCell ⟨g, jj * 3 + 2, none⟩ (.int .i64 s.val)).drew := ((((((HB.out.setCell hg1 _).setCell hg1 _).setCell hg1 _).setCell hg1 _).setCell hg1 _).setCell hg1 _).drew
        have HB5 : Hid (Below w2.heap.size w2 ((((((wr.setCell ⟨g, ii * 3, none⟩ (.int .u64 t.lo)).setCell ⟨g, ii * 3 + 1, none⟩ (.int .u64 t.hi)).setCell ⟨g, ii * 3 + 2, none⟩ (.int .i64 t.val)).setCell ⟨g, jj * 3, none⟩ (.int .u64 s.lo)).setCell ⟨g, jj * 3 + 1, none⟩ (.int .u64 s.hi)).setCell ⟨g, jj * 3 + 2, none⟩ (.int .i64 s.val)).drew) := hB5
        clear hB5 hl1 hl2 hl3
        by_cases hij : ii = jj
        · subst hij
          obtain rfl : s = t := by
            rw [hs] at ht
            exact Option.some.inj ht
          clear hs ht
          go_wp2
          go_big_region
          go_wp2
          go_roundw
          case rel => exact ⟨i + 1, by omega, by go_num, HW, HB5⟩
          case measure => simp [intOf]; omega
        · have d0 : ii * 3 ≠ jj * 3 := by omega
          clear hs ht
          go_wp2
          go_big_region
          go_wp2
          go_roundw
          case rel => exact ⟨i + 1, by omega, by go_num, HW, HB5⟩
          case measure => simp [intOf]; omega
      · obtain ⟨jj, hjj⟩ : ∃ jj : Nat, x.tmod (nl : Int) = (jj : Int) := ⟨(x.tmod (nl : Int)).toNat, by omega⟩
        have hjl : jj < nl := by omega
        obtain ⟨t, ht⟩ : ∃ t, l[jj]? = some t := ⟨_, List.getElem?_eq_getElem (by rw [hl3]; exact hjl)⟩
        obtain ⟨r0, r1, r2⟩ := hgc jj t ht
        have hjjz : (0 : Int) ≤ (jj : Int) := by omega
        have hjln : (jj : Int) < (nl : Int) := by omega
        clear hneg hgc
        have HW : Hid (∃ l' : List (Sp Int), Ls ((((((wr.setCell ⟨g, ii * 3, none⟩ (.int .u64 t.lo)).setCell ⟨g, ii * 3 + 1, none⟩ (.int .u64 t.hi)).setCell ⟨g, ii * 3 + 2, none⟩ (.int .i64 t.val)).setCell ⟨g, jj * 3, none⟩ (.int .u64 s.lo)).setCell ⟨g, jj * 3 + 1, none⟩ (.int .u64 s.hi)).setCell ⟨g, jj * 3 + 2, none⟩ (.int .i64 s.val)).drew w2.heap.size (.slice (some ⟨g, 0, none⟩) nl lc) l' ∧ (∀ s, s ∈ l' ↔ s ∈ L) ∧ l'.length = nl) := by
          have q1 := Ls.put hl3.symm hl1 (i := ii) (by rw [hl3]; exact hil) t
          have q2 := Ls.put (by rw [List.length_set]; exact hl3.symm) q1 (i := jj) (by rw [List.length_set, hl3]; exact hjl) s
          exact ⟨swapL l ii jj s t, q2.keep (below_refl_drew _) (fun g hg => (q2.lt g hg).2), fun y => (swap_mem hs ht y).trans (hl2 y), by rw [swap_len]; exact hl3⟩
        have hB5 : Below w2.heap.size w2 ((((((wr.setCell ⟨g, ii * 3, none⟩ (.int .u64 t.lo)).setCell ⟨g, ii * 3 + 1, none⟩ (.int .u64 t.hi)).setCell ⟨g, ii * 3 + 2, none⟩ (.int .i64 t.val)).setCell ⟨g, jj * 3, none⟩ (.int .u64 s.lo)).setCell ⟨g, jj * 3 + 1, none⟩ (.int .u64 s.hi)).setCell ⟨g, jj * 3 + 2, none⟩ (.int .i64 s.val)).drew := ((((((HB.out.setCell hg1 _).setCell hg1 _).setCell hg1 _).setCell hg1 _).setCell hg1 _).setCell hg1 _).drew
        have HB5 : Hid (Below w2.heap.size w2 ((((((wr.setCell ⟨g, ii * 3, none⟩ (.int .u64 t.lo)).setCell ⟨g, ii * 3 + 1, none⟩ (.int .u64 t.hi)).setCell ⟨g, ii * 3 + 2, none⟩ (.int .i64 t.val)).setCell ⟨g, jj * 3, none⟩ (.int .u64 s.lo)).setCell ⟨g, jj * 3 + 1, none⟩ (.int .u64 s.hi)).setCell ⟨g, jj * 3 + 2, none⟩ (.int .i64 s.val)).drew) := hB5
        clear hB5 hl1 hl2 hl3
        by_cases hij : ii = jj
        · subst hij
          obtain rfl : s = t := by
            rw [hs] at ht
            exact Option.some.inj ht
          clear hs ht
          go_wp2
          go_big_region
          go_wp2
          go_roundw
          case rel => exact ⟨i + 1, by omega, by go_num, HW, HB5⟩
          case measure => simp [intOf]; omega
        · have d0 : ii * 3 ≠ jj * 3 := by omega
          clear hs ht
          go_wp2
          go_big_region
          go_wp2
          go_roundw
          case rel => exact ⟨i + 1, by omega, by go_num, HW, HB5⟩
          case measure => simp [intOf]; omega
    · clear HL0 hM3 hB3 hb3
      rcases Nat.lt_or_ge i no with h1 | h1
      · have hnz : ¬ ((0 : Int) < (nl : Int)) := by omega
        have hiz : (i : Int) < (no : Int) := by omega
        clear hgo
        generalize wr = wz at *
        obtain ⟨l, hl1, hl2, hl3⟩ := HL.out
        have HP : Hid (layP l = L) := layP_all hgd hl2
        have hlm : ∀ s ∈ l, 0 ≤ s.lo ∧ s.lo ≤ s.hi ∧ s.hi ≤ 18446744073709551615 := fun s hs => good_lo hgd s ((hl2 s).1 hs)
        have HLM : Hid (∀ s ∈ l, 0 ≤ s.lo ∧ s.lo ≤ s.hi ∧ s.hi ≤ 18446744073709551615) := hlm
        have HI : Hid (∀ q, q ≤ nl → Good 0 none (layP (l.take q))) := fun q hq => (layP_inv hgd (fun s hs => (hl2 s).1 hs) q (by rw [hl3]; exact hq)).1
        have HLs : Hid (Ls wz w2.heap.size (.slice la nl lc) l ∧ l.length = nl) := ⟨hl1, hl3⟩
        have hM0 := MapAt.new wz wz.heap.size (Nat.le_refl _)
        have hB0 := below_alloc (Below.refl wz.heap.size wz) (.cells #[.slice none 0 0] 84)
        clear HL hl1 hl2 hl3 hlm
        go_wp2_with (go_at_call 9; refine (new_any _).mono ?_; rintro e w' ⟨rfl, rfl⟩)
        go_loopw [12] (fun si wr => ∃ (k : Nat), k ≤ nl ∧ si = .int .i64 k ∧ Hid (∃ v', MapAt wr wz.heap.size wz.heap.size v' (layP (l.take k)) ∧ (layP (l.take k)).length ≤ 2 * k) ∧ Hid (Below wz.heap.size wz wr)) (fun si _ => nl - (intOf si).toNat)
        case atStart => exact ⟨0, Nat.zero_le _, rfl, ⟨_, hM0, Nat.zero_le _⟩, hB0⟩
        case round =>
          obtain ⟨k, hk, rfl, HM, HS⟩ := hrel
          clear hM0 hB0
          by_cases hkl : k < nl
          · obtain ⟨s, hs⟩ : ∃ s, l[k]? = some s := ⟨_, List.getElem?_eq_getElem (by rw [HLs.out.2]; exact hkl)⟩
            obtain ⟨b1, b2, b3⟩ := HLM.out s (List.mem_of_getElem? hs)
            obtain ⟨v', hMn, hMl⟩ := HM.out
            have HT : Hid (layP (l.take (k + 1)) = setR (layP (l.take k)) s.lo s.hi s.val) := layP_take_succ l k s hs
            have hgk := HI.out k (by omega)
            have hcs : ∃ g, la = some ⟨g, 0, none⟩ ∧ g < wz.heap.size ∧ wz.cell? ⟨g, k * 3, none⟩ = some (.int .u64 s.lo) ∧ wz.cell? ⟨g, k * 3 + 1, none⟩ = some (.int .u64 s.hi) ∧ wz.cell? ⟨g, k * 3 + 2, none⟩ = some (.int .i64 s.val) := by
              rcases HLs.out.1.view with ⟨h1, h2⟩ | ⟨g, cap, h1, h2, h3, h4, h5, h6⟩
              · exfalso
                have := HLs.out.2
                rw [h2] at this
                simp at this
                omega
              · cases h1
                have q0 := h6 k s hs 0 (by omega)
                have q1 := h6 k s hs 1 (by omega)
                have q2 := h6 k s hs 2 (by omega)
                simp only [encS, Nat.add_zero, List.getElem?_cons_zero, List.getElem?_cons_succ] at q0 q1 q2
                exact ⟨g, rfl, h3, q0, q1, q2⟩
            obtain ⟨g, rfl, hgl, y0, y1, y2⟩ := hcs
            generalize layP (l.take k) = M at *
            have hsl := setR_len hgk b1 b3 s.val
            have hMd : MapAt wr.drew wz.heap.size wz.heap.size v' M := hMn.drewN 1
            have hC := set_at wz wr.drew HS.out.drew _ _ v' M s.lo s.hi s.val hMd (Nat.le_refl _) (by omega) b1 b3
            have f0 : wr.cell? ⟨g, k * 3, none⟩ = some (.int .u64 s.lo) := ((bcell HS.out).1 g _ hgl).trans y0
            have f1 : wr.cell? ⟨g, k * 3 + 1, none⟩ = some (.int .u64 s.hi) := ((bcell HS.out).1 g _ hgl).trans y1
            have f2 : wr.cell? ⟨g, k * 3 + 2, none⟩ = some (.int .i64 s.val) := ((bcell HS.out).1 g _ hgl).trans y2
            have hkz : (k : Int) < (nl : Int) := by omega
            have hk0 : (0 : Int) ≤ (k : Int) := by omega
            clear hs hgk HM hMn hMd
            go_wp2_with (fail)
            go_region_held3 (fun w' => w'.cell? ⟨g, k * 3, none⟩ = some (.int .u64 s.lo) ∧ w'.cell? ⟨g, k * 3 + 1, none⟩ = some (.int .u64 s.hi) ∧ w'.cell? ⟨g, k * 3 + 2, none⟩ = some (.int .i64 s.val)) (first | go_keep | exact ⟨z0, z1, z2⟩)
              ((go_at_call 11; refine hC.mono ?_; rintro e w5 ⟨rfl, v5, hM5, hB5⟩; have z0 : w5.cell? ⟨g, k * 3, none⟩ = some (.int .u64 s.lo) := (bcell hB5).1 g _ hgl |>.trans y0; have z1 : w5.cell? ⟨g, k * 3 + 1, none⟩ = some (.int .u64 s.hi) := (bcell hB5).1 g _ hgl |>.trans y1; have z2 : w5.cell? ⟨g, k * 3 + 2, none⟩ = some (.int .i64 s.val) := (bcell hB5).1 g _ hgl |>.trans y2))
            go_wp2
            go_roundw
            case rel => exact ⟨k + 1, by omega, by go_num, ⟨v5, by rw [HT.out]; exact hM5, by rw [HT.out]; omega⟩, hB5⟩
            case measure => simp [intOf]; omega
          · obtain rfl : k = nl := by omega
            have HN : Hid (∃ v', MapAt wr wz.heap.size wz.heap.size v' L) := by
              obtain ⟨v', h, _⟩ := HM.out
              rw [show l.take k = l by rw [← HLs.out.2]; exact List.take_length, HP.out] at h
              exact ⟨v', h⟩
            obtain ⟨v5, hN⟩ := HN.out
            clear HM HN HLs HP HI HLM
            have hBs := HS.out
            clear HS
            have hkl : ¬ ((k : Int) < (k : Int)) := by omega
            have hC := equal_any wr (some ⟨W.heap.size, 0, none⟩) (some ⟨wz.heap.size, 0, none⟩) L L (hM2.keep (below_go HB.out hBs)).pm hN.pm (by rw [HNL.out]; omega) (by rw [HNL.out]; omega) true (by simp)
            go_wp2_with (fail)
            refine hC.mono ?_
            rintro e w6 ⟨rfl, hb6⟩
            have hN6 := hN.keep hb6
            have hB6 := below_go hBs hb6
            clear hC hN hBs hb6
            have hC := equal_any w6 (some ⟨wz.heap.size, 0, none⟩) (some ⟨W.heap.size, 0, none⟩) L L hN6.pm (hM2.keep (below_go HB.out hB6)).pm (by rw [HNL.out]; omega) (by rw [HNL.out]; omega) true (by simp)
            go_wp2_with (fail)
            refine hC.mono ?_
            rintro e w7 ⟨rfl, hb7⟩
            have hN7 := hN6.keep hb7
            have hB7 := below_go hB6 hb7
            clear hC hN6 hB6 hb7
            have hC := diff_any w7 (some ⟨W.heap.size, 0, none⟩) (some ⟨wz.heap.size, 0, none⟩) L L (hM2.keep (below_go HB.out hB7)).pm hN7.pm (by rw [HNL.out]; omega)
            go_wp2_with (fail)
            refine hC.mono ?_
            rintro e w8 ⟨vx, rfl, ⟨R8, hR8, hi8, _⟩, hb8⟩
            obtain rfl : R8 = [] := (hi8.nil_iff hgd hgd).2 rfl
            obtain ⟨xa, xc, rfl⟩ := slice_form hR8
            simp only [List.length_nil]
            have hN8 := hN7.keep hb8
            have hB8 := below_go hB7 hb8
            clear hC hN7 hB7 hb8 hR8 hi8
            have hC := len_any w8 _ _ _ L hN8
            rw [HNL.out] at hC
            go_wp2_with (fail)
            refine hC.mono ?_
            rintro e w9 ⟨rfl, rfl⟩
            clear hC
            have hC := get_any w8 _ wz.heap.size v5 L key hN8 (by rw [HNL.out]; omega)
            cases hgk : get L key with
            | none =>
              rw [hgk] at hC
              simp only [getV] at hC
              have HK5 : Hid (get L key ≠ some 5) := by
                show get L key ≠ some 5
                rw [hgk]
                simp
              clear hgk
              have hS : ∀ w, Below wz.heap.size wz w → MapAt w wz.heap.size wz.heap.size v5 L → Calls Try.prog 11 #[.pointer (some ⟨wz.heap.size, 0, none⟩), .int .u64 key, .int .u64 key, .int .i64 5] w fun e W' => e = .returned (.int .i64 (errC key key)) ∧ ∃ v', MapAt W' wz.heap.size wz.heap.size v' (setR L key key 5) ∧ Below wz.heap.size wz W' := fun w hw hm => set_at wz w hw _ _ v5 L key key 5 hm (Nat.le_refl _) (by rw [HNL.out]; omega) k0 k1
              go_wp2_with (fail)
              refine hC.mono ?_
              rintro e wA ⟨rfl, hbA⟩
              have hNA := hN8.keep hbA
              have hBA := below_go hB8 hbA
              clear hC hN8 hB8 hbA
              go_wp2_with (fail)
              refine (hS _ hBA hNA).mono ?_
              rintro e wB ⟨rfl, v6, hNB, hBB⟩
              have HT : Hid (DiffIs L (setR L key key 5) [⟨key, key, ()⟩]) := turned hgd k0 k1 HK5.out
              have hsl := setR_len hgd k0 k1 5
              rw [HNL.out] at hsl
              have hgS := hNB.good
              generalize setR L key key 5 = N at *
              clear hNA hBA hS HK5
              have hC := diff_any wB (some ⟨W.heap.size, 0, none⟩) (some ⟨wz.heap.size, 0, none⟩) L N (hM2.keep (below_go HB.out hBB)).pm hNB.pm (by rw [HNL.out]; omega)
              go_wp2_with (fail)
              refine hC.mono ?_
              rintro e wC ⟨vd, rfl, ⟨RC, hRC, hiC, _⟩, hbC⟩
              obtain rfl : RC = [⟨key, key, ()⟩] := hiC.uniq HT.out
              obtain ⟨da, dc, hdv, hdc⟩ := Lm.view hRC
              obtain ⟨gd, rfl, _, hgdl, e0, e1, _⟩ := hdc 0 ⟨key, key, ()⟩ rfl
              subst hdv
              have HRC : Hid (Lm wC wB.heap.size (.slice (some ⟨gd, 0, none⟩) 1 dc) [⟨key, key, ()⟩]) := hRC
              simp only [List.length_cons, List.length_nil, Nat.zero_add, Nat.zero_mul] at e0 e1 ⊢
              have hNC := hNB.keep hbC
              have hBC := below_go hBB hbC
              clear hC hNB hBB hbC hRC hiC hdc
              have hC := equal_any wC (some ⟨W.heap.size, 0, none⟩) (some ⟨wz.heap.size, 0, none⟩) L N (hM2.keep (below_go HB.out hBC)).pm hNC.pm (by rw [HNL.out]; omega) (by omega) false (by
                constructor
                · intro h
                  cases h
                · intro h
                  have := (HT.out.nil_iff hgd hgS).2 h
                  cases this)
              go_wp2_with (fail)
              refine hC.mono ?_
              rintro e wD ⟨rfl, hbD⟩
              have hND := hNC.keep hbD
              have hBD := below_go hBC hbD
              have g0 : wD.cell? ⟨gd, 0, none⟩ = some (.int .u64 key) := ((bcell hbD).1 gd _ hgdl).trans e0
              have g1 : wD.cell? ⟨gd, 1, none⟩ = some (.int .u64 key) := ((bcell hbD).1 gd _ hgdl).trans e1
              have HRD : Hid (Lm wD wB.heap.size (.slice (some ⟨gd, 0, none⟩) 1 dc) [⟨key, key, ()⟩]) := row_keep HRC.out hbD
              clear hC hNC hBC hbD HRC e0 e1
              have hC := diff_any wD (some ⟨wz.heap.size, 0, none⟩) (some ⟨W.heap.size, 0, none⟩) N L hND.pm (hM2.keep (below_go HB.out hBD)).pm (by rw [HNL.out]; omega)
              go_wp2_with (fail)
              refine hC.mono ?_
              rintro e wE ⟨vx, rfl, ⟨RE, hRE, hiE, _⟩, hbE⟩
              obtain rfl : RE = [⟨key, key, ()⟩] := hiE.comm.uniq HT.out
              have hBE := below_go hBD hbE
              have hC2 := rooms_any wE _ _ vx (.slice (some ⟨gd, 0, none⟩) 1 dc) [⟨key, key, ()⟩] hRE (row_keep HRD.out hbE) (by simp)
              obtain ⟨xa, xc, rfl⟩ := slice_form hRE
              clear hC hND hBD hbE HRD hRE hiE
              simp only [List.length_cons, List.length_nil, Nat.zero_add] at hC2 ⊢
              go_wp2_with (fail)
              refine hC2.mono ?_
              rintro e wF ⟨rfl, hbF⟩
              have hBF := below_go (below_go (below_go hB2 HB.out) hBE) hbF
              clear hC2 hBE hbF
              go_wp2
              go_ret
              exact ⟨rfl, hBF⟩
            | some y =>
              rw [hgk] at hC
              simp only [getV] at hC
              have HK5 : Hid (get L key ≠ some (wrap64 (y + 1))) := by
                show get L key ≠ some (wrap64 (y + 1))
                rw [hgk]
                intro h; exact wrap_ne y (Option.some.inj h).symm
              clear hgk
              have hS : ∀ w, Below wz.heap.size wz w → MapAt w wz.heap.size wz.heap.size v5 L → Calls Try.prog 11 #[.pointer (some ⟨wz.heap.size, 0, none⟩), .int .u64 key, .int .u64 key, .int .i64 (wrap64 (y + 1))] w fun e W' => e = .returned (.int .i64 (errC key key)) ∧ ∃ v', MapAt W' wz.heap.size wz.heap.size v' (setR L key key (wrap64 (y + 1))) ∧ Below wz.heap.size wz W' := fun w hw hm => set_at wz w hw _ _ v5 L key key (wrap64 (y + 1)) hm (Nat.le_refl _) (by rw [HNL.out]; omega) k0 k1
              go_wp2_with (fail)
              refine hC.mono ?_
              rintro e wA ⟨rfl, hbA⟩
              have hNA := hN8.keep hbA
              have hBA := below_go hB8 hbA
              clear hC hN8 hB8 hbA
              go_wp2_with (fail)
              refine (hS _ hBA hNA).mono ?_
              rintro e wB ⟨rfl, v6, hNB, hBB⟩
              have HT : Hid (DiffIs L (setR L key key (wrap64 (y + 1))) [⟨key, key, ()⟩]) := turned hgd k0 k1 HK5.out
              have hsl := setR_len hgd k0 k1 (wrap64 (y + 1))
              rw [HNL.out] at hsl
              have hgS := hNB.good
              generalize setR L key key (wrap64 (y + 1)) = N at *
              clear hNA hBA hS HK5
              have hC := diff_any wB (some ⟨W.heap.size, 0, none⟩) (some ⟨wz.heap.size, 0, none⟩) L N (hM2.keep (below_go HB.out hBB)).pm hNB.pm (by rw [HNL.out]; omega)
              go_wp2_with (fail)
              refine hC.mono ?_
              rintro e wC ⟨vd, rfl, ⟨RC, hRC, hiC, _⟩, hbC⟩
              obtain rfl : RC = [⟨key, key, ()⟩] := hiC.uniq HT.out
              obtain ⟨da, dc, hdv, hdc⟩ := Lm.view hRC
              obtain ⟨gd, rfl, _, hgdl, e0, e1, _⟩ := hdc 0 ⟨key, key, ()⟩ rfl
              subst hdv
              have HRC : Hid (Lm wC wB.heap.size (.slice (some ⟨gd, 0, none⟩) 1 dc) [⟨key, key, ()⟩]) := hRC
              simp only [List.length_cons, List.length_nil, Nat.zero_add, Nat.zero_mul] at e0 e1 ⊢
              have hNC := hNB.keep hbC
              have hBC := below_go hBB hbC
              clear hC hNB hBB hbC hRC hiC hdc
              have hC := equal_any wC (some ⟨W.heap.size, 0, none⟩) (some ⟨wz.heap.size, 0, none⟩) L N (hM2.keep (below_go HB.out hBC)).pm hNC.pm (by rw [HNL.out]; omega) (by omega) false (by
                constructor
                · intro h
                  cases h
                · intro h
                  have := (HT.out.nil_iff hgd hgS).2 h
                  cases this)
              go_wp2_with (fail)
              refine hC.mono ?_
              rintro e wD ⟨rfl, hbD⟩
              have hND := hNC.keep hbD
              have hBD := below_go hBC hbD
              have g0 : wD.cell? ⟨gd, 0, none⟩ = some (.int .u64 key) := ((bcell hbD).1 gd _ hgdl).trans e0
              have g1 : wD.cell? ⟨gd, 1, none⟩ = some (.int .u64 key) := ((bcell hbD).1 gd _ hgdl).trans e1
              have HRD : Hid (Lm wD wB.heap.size (.slice (some ⟨gd, 0, none⟩) 1 dc) [⟨key, key, ()⟩]) := row_keep HRC.out hbD
              clear hC hNC hBC hbD HRC e0 e1
              have hC := diff_any wD (some ⟨wz.heap.size, 0, none⟩) (some ⟨W.heap.size, 0, none⟩) N L hND.pm (hM2.keep (below_go HB.out hBD)).pm (by rw [HNL.out]; omega)
              go_wp2_with (fail)
              refine hC.mono ?_
              rintro e wE ⟨vx, rfl, ⟨RE, hRE, hiE, _⟩, hbE⟩
              obtain rfl : RE = [⟨key, key, ()⟩] := hiE.comm.uniq HT.out
              have hBE := below_go hBD hbE
              have hC2 := rooms_any wE _ _ vx (.slice (some ⟨gd, 0, none⟩) 1 dc) [⟨key, key, ()⟩] hRE (row_keep HRD.out hbE) (by simp)
              obtain ⟨xa, xc, rfl⟩ := slice_form hRE
              clear hC hND hBD hbE HRD hRE hiE
              simp only [List.length_cons, List.length_nil, Nat.zero_add] at hC2 ⊢
              go_wp2_with (fail)
              refine hC2.mono ?_
              rintro e wF ⟨rfl, hbF⟩
              have hBF := below_go (below_go (below_go hB2 HB.out) hBE) hbF
              clear hC2 hBE hbF
              go_wp2
              go_ret
              exact ⟨rfl, hBF⟩
      · obtain rfl : i = no := by omega
        have hiz : ¬ ((i : Int) < (i : Int)) := by omega
        clear hgo
        generalize wr = wz at *
        obtain ⟨l, hl1, hl2, hl3⟩ := HL.out
        have HP : Hid (layP l = L) := layP_all hgd hl2
        have hlm : ∀ s ∈ l, 0 ≤ s.lo ∧ s.lo ≤ s.hi ∧ s.hi ≤ 18446744073709551615 := fun s hs => good_lo hgd s ((hl2 s).1 hs)
        have HLM : Hid (∀ s ∈ l, 0 ≤ s.lo ∧ s.lo ≤ s.hi ∧ s.hi ≤ 18446744073709551615) := hlm
        have HI : Hid (∀ q, q ≤ nl → Good 0 none (layP (l.take q))) := fun q hq => (layP_inv hgd (fun s hs => (hl2 s).1 hs) q (by rw [hl3]; exact hq)).1
        have HLs : Hid (Ls wz w2.heap.size (.slice la nl lc) l ∧ l.length = nl) := ⟨hl1, hl3⟩
        have hM0 := MapAt.new wz wz.heap.size (Nat.le_refl _)
        have hB0 := below_alloc (Below.refl wz.heap.size wz) (.cells #[.slice none 0 0] 84)
        clear HL hl1 hl2 hl3 hlm
        go_wp2_with (go_at_call 9; refine (new_any _).mono ?_; rintro e w' ⟨rfl, rfl⟩)
        go_loopw [12] (fun si wr => ∃ (k : Nat), k ≤ nl ∧ si = .int .i64 k ∧ Hid (∃ v', MapAt wr wz.heap.size wz.heap.size v' (layP (l.take k)) ∧ (layP (l.take k)).length ≤ 2 * k) ∧ Hid (Below wz.heap.size wz wr)) (fun si _ => nl - (intOf si).toNat)
        case atStart => exact ⟨0, Nat.zero_le _, rfl, ⟨_, hM0, Nat.zero_le _⟩, hB0⟩
        case round =>
          obtain ⟨k, hk, rfl, HM, HS⟩ := hrel
          clear hM0 hB0
          by_cases hkl : k < nl
          · obtain ⟨s, hs⟩ : ∃ s, l[k]? = some s := ⟨_, List.getElem?_eq_getElem (by rw [HLs.out.2]; exact hkl)⟩
            obtain ⟨b1, b2, b3⟩ := HLM.out s (List.mem_of_getElem? hs)
            obtain ⟨v', hMn, hMl⟩ := HM.out
            have HT : Hid (layP (l.take (k + 1)) = setR (layP (l.take k)) s.lo s.hi s.val) := layP_take_succ l k s hs
            have hgk := HI.out k (by omega)
            have hcs : ∃ g, la = some ⟨g, 0, none⟩ ∧ g < wz.heap.size ∧ wz.cell? ⟨g, k * 3, none⟩ = some (.int .u64 s.lo) ∧ wz.cell? ⟨g, k * 3 + 1, none⟩ = some (.int .u64 s.hi) ∧ wz.cell? ⟨g, k * 3 + 2, none⟩ = some (.int .i64 s.val) := by
              rcases HLs.out.1.view with ⟨h1, h2⟩ | ⟨g, cap, h1, h2, h3, h4, h5, h6⟩
              · exfalso
                have := HLs.out.2
                rw [h2] at this
                simp at this
                omega
              · cases h1
                have q0 := h6 k s hs 0 (by omega)
                have q1 := h6 k s hs 1 (by omega)
                have q2 := h6 k s hs 2 (by omega)
                simp only [encS, Nat.add_zero, List.getElem?_cons_zero, List.getElem?_cons_succ] at q0 q1 q2
                exact ⟨g, rfl, h3, q0, q1, q2⟩
            obtain ⟨g, rfl, hgl, y0, y1, y2⟩ := hcs
            generalize layP (l.take k) = M at *
            have hsl := setR_len hgk b1 b3 s.val
            have hMd : MapAt wr.drew wz.heap.size wz.heap.size v' M := hMn.drewN 1
            have hC := set_at wz wr.drew HS.out.drew _ _ v' M s.lo s.hi s.val hMd (Nat.le_refl _) (by omega) b1 b3
            have f0 : wr.cell? ⟨g, k * 3, none⟩ = some (.int .u64 s.lo) := ((bcell HS.out).1 g _ hgl).trans y0
            have f1 : wr.cell? ⟨g, k * 3 + 1, none⟩ = some (.int .u64 s.hi) := ((bcell HS.out).1 g _ hgl).trans y1
            have f2 : wr.cell? ⟨g, k * 3 + 2, none⟩ = some (.int .i64 s.val) := ((bcell HS.out).1 g _ hgl).trans y2
            have hkz : (k : Int) < (nl : Int) := by omega
            have hk0 : (0 : Int) ≤ (k : Int) := by omega
            clear hs hgk HM hMn hMd
            go_wp2_with (fail)
            go_region_held3 (fun w' => w'.cell? ⟨g, k * 3, none⟩ = some (.int .u64 s.lo) ∧ w'.cell? ⟨g, k * 3 + 1, none⟩ = some (.int .u64 s.hi) ∧ w'.cell? ⟨g, k * 3 + 2, none⟩ = some (.int .i64 s.val)) (first | go_keep | exact ⟨z0, z1, z2⟩)
              ((go_at_call 11; refine hC.mono ?_; rintro e w5 ⟨rfl, v5, hM5, hB5⟩; have z0 : w5.cell? ⟨g, k * 3, none⟩ = some (.int .u64 s.lo) := (bcell hB5).1 g _ hgl |>.trans y0; have z1 : w5.cell? ⟨g, k * 3 + 1, none⟩ = some (.int .u64 s.hi) := (bcell hB5).1 g _ hgl |>.trans y1; have z2 : w5.cell? ⟨g, k * 3 + 2, none⟩ = some (.int .i64 s.val) := (bcell hB5).1 g _ hgl |>.trans y2))
            go_wp2
            go_roundw
            case rel => exact ⟨k + 1, by omega, by go_num, ⟨v5, by rw [HT.out]; exact hM5, by rw [HT.out]; omega⟩, hB5⟩
            case measure => simp [intOf]; omega
          · obtain rfl : k = nl := by omega
            have HN : Hid (∃ v', MapAt wr wz.heap.size wz.heap.size v' L) := by
              obtain ⟨v', h, _⟩ := HM.out
              rw [show l.take k = l by rw [← HLs.out.2]; exact List.take_length, HP.out] at h
              exact ⟨v', h⟩
            obtain ⟨v5, hN⟩ := HN.out
            clear HM HN HLs HP HI HLM
            have hBs := HS.out
            clear HS
            have hkl : ¬ ((k : Int) < (k : Int)) := by omega
            have hC := equal_any wr (some ⟨W.heap.size, 0, none⟩) (some ⟨wz.heap.size, 0, none⟩) L L (hM2.keep (below_go HB.out hBs)).pm hN.pm (by rw [HNL.out]; omega) (by rw [HNL.out]; omega) true (by simp)
            go_wp2_with (fail)
            refine hC.mono ?_
            rintro e w6 ⟨rfl, hb6⟩
            have hN6 := hN.keep hb6
            have hB6 := below_go hBs hb6
            clear hC hN hBs hb6
            have hC := equal_any w6 (some ⟨wz.heap.size, 0, none⟩) (some ⟨W.heap.size, 0, none⟩) L L hN6.pm (hM2.keep (below_go HB.out hB6)).pm (by rw [HNL.out]; omega) (by rw [HNL.out]; omega) true (by simp)
            go_wp2_with (fail)
            refine hC.mono ?_
            rintro e w7 ⟨rfl, hb7⟩
            have hN7 := hN6.keep hb7
            have hB7 := below_go hB6 hb7
            clear hC hN6 hB6 hb7
            have hC := diff_any w7 (some ⟨W.heap.size, 0, none⟩) (some ⟨wz.heap.size, 0, none⟩) L L (hM2.keep (below_go HB.out hB7)).pm hN7.pm (by rw [HNL.out]; omega)
            go_wp2_with (fail)
            refine hC.mono ?_
            rintro e w8 ⟨vx, rfl, ⟨R8, hR8, hi8, _⟩, hb8⟩
            obtain rfl : R8 = [] := (hi8.nil_iff hgd hgd).2 rfl
            obtain ⟨xa, xc, rfl⟩ := slice_form hR8
            simp only [List.length_nil]
            have hN8 := hN7.keep hb8
            have hB8 := below_go hB7 hb8
            clear hC hN7 hB7 hb8 hR8 hi8
            have hC := len_any w8 _ _ _ L hN8
            rw [HNL.out] at hC
            go_wp2_with (fail)
            refine hC.mono ?_
            rintro e w9 ⟨rfl, rfl⟩
            clear hC
            have hC := get_any w8 _ wz.heap.size v5 L key hN8 (by rw [HNL.out]; omega)
            cases hgk : get L key with
            | none =>
              rw [hgk] at hC
              simp only [getV] at hC
              have HK5 : Hid (get L key ≠ some 5) := by
                show get L key ≠ some 5
                rw [hgk]
                simp
              clear hgk
              have hS : ∀ w, Below wz.heap.size wz w → MapAt w wz.heap.size wz.heap.size v5 L → Calls Try.prog 11 #[.pointer (some ⟨wz.heap.size, 0, none⟩), .int .u64 key, .int .u64 key, .int .i64 5] w fun e W' => e = .returned (.int .i64 (errC key key)) ∧ ∃ v', MapAt W' wz.heap.size wz.heap.size v' (setR L key key 5) ∧ Below wz.heap.size wz W' := fun w hw hm => set_at wz w hw _ _ v5 L key key 5 hm (Nat.le_refl _) (by rw [HNL.out]; omega) k0 k1
              go_wp2_with (fail)
              refine hC.mono ?_
              rintro e wA ⟨rfl, hbA⟩
              have hNA := hN8.keep hbA
              have hBA := below_go hB8 hbA
              clear hC hN8 hB8 hbA
              go_wp2_with (fail)
              refine (hS _ hBA hNA).mono ?_
              rintro e wB ⟨rfl, v6, hNB, hBB⟩
              have HT : Hid (DiffIs L (setR L key key 5) [⟨key, key, ()⟩]) := turned hgd k0 k1 HK5.out
              have hsl := setR_len hgd k0 k1 5
              rw [HNL.out] at hsl
              have hgS := hNB.good
              generalize setR L key key 5 = N at *
              clear hNA hBA hS HK5
              have hC := diff_any wB (some ⟨W.heap.size, 0, none⟩) (some ⟨wz.heap.size, 0, none⟩) L N (hM2.keep (below_go HB.out hBB)).pm hNB.pm (by rw [HNL.out]; omega)
              go_wp2_with (fail)
              refine hC.mono ?_
              rintro e wC ⟨vd, rfl, ⟨RC, hRC, hiC, _⟩, hbC⟩
              obtain rfl : RC = [⟨key, key, ()⟩] := hiC.uniq HT.out
              obtain ⟨da, dc, hdv, hdc⟩ := Lm.view hRC
              obtain ⟨gd, rfl, _, hgdl, e0, e1, _⟩ := hdc 0 ⟨key, key, ()⟩ rfl
              subst hdv
              have HRC : Hid (Lm wC wB.heap.size (.slice (some ⟨gd, 0, none⟩) 1 dc) [⟨key, key, ()⟩]) := hRC
              simp only [List.length_cons, List.length_nil, Nat.zero_add, Nat.zero_mul] at e0 e1 ⊢
              have hNC := hNB.keep hbC
              have hBC := below_go hBB hbC
              clear hC hNB hBB hbC hRC hiC hdc
              have hC := equal_any wC (some ⟨W.heap.size, 0, none⟩) (some ⟨wz.heap.size, 0, none⟩) L N (hM2.keep (below_go HB.out hBC)).pm hNC.pm (by rw [HNL.out]; omega) (by omega) false (by
                constructor
                · intro h
                  cases h
                · intro h
                  have := (HT.out.nil_iff hgd hgS).2 h
                  cases this)
              go_wp2_with (fail)
              refine hC.mono ?_
              rintro e wD ⟨rfl, hbD⟩
              have hND := hNC.keep hbD
              have hBD := below_go hBC hbD
              have g0 : wD.cell? ⟨gd, 0, none⟩ = some (.int .u64 key) := ((bcell hbD).1 gd _ hgdl).trans e0
              have g1 : wD.cell? ⟨gd, 1, none⟩ = some (.int .u64 key) := ((bcell hbD).1 gd _ hgdl).trans e1
              have HRD : Hid (Lm wD wB.heap.size (.slice (some ⟨gd, 0, none⟩) 1 dc) [⟨key, key, ()⟩]) := row_keep HRC.out hbD
              clear hC hNC hBC hbD HRC e0 e1
              have hC := diff_any wD (some ⟨wz.heap.size, 0, none⟩) (some ⟨W.heap.size, 0, none⟩) N L hND.pm (hM2.keep (below_go HB.out hBD)).pm (by rw [HNL.out]; omega)
              go_wp2_with (fail)
              refine hC.mono ?_
              rintro e wE ⟨vx, rfl, ⟨RE, hRE, hiE, _⟩, hbE⟩
              obtain rfl : RE = [⟨key, key, ()⟩] := hiE.comm.uniq HT.out
              have hBE := below_go hBD hbE
              have hC2 := rooms_any wE _ _ vx (.slice (some ⟨gd, 0, none⟩) 1 dc) [⟨key, key, ()⟩] hRE (row_keep HRD.out hbE) (by simp)
              obtain ⟨xa, xc, rfl⟩ := slice_form hRE
              clear hC hND hBD hbE HRD hRE hiE
              simp only [List.length_cons, List.length_nil, Nat.zero_add] at hC2 ⊢
              go_wp2_with (fail)
              refine hC2.mono ?_
              rintro e wF ⟨rfl, hbF⟩
              have hBF := below_go (below_go (below_go hB2 HB.out) hBE) hbF
              clear hC2 hBE hbF
              go_wp2
              go_ret
              exact ⟨rfl, hBF⟩
            | some y =>
              rw [hgk] at hC
              simp only [getV] at hC
              have HK5 : Hid (get L key ≠ some (wrap64 (y + 1))) := by
                show get L key ≠ some (wrap64 (y + 1))
                rw [hgk]
                intro h; exact wrap_ne y (Option.some.inj h).symm
              clear hgk
              have hS : ∀ w, Below wz.heap.size wz w → MapAt w wz.heap.size wz.heap.size v5 L → Calls Try.prog 11 #[.pointer (some ⟨wz.heap.size, 0, none⟩), .int .u64 key, .int .u64 key, .int .i64 (wrap64 (y + 1))] w fun e W' => e = .returned (.int .i64 (errC key key)) ∧ ∃ v', MapAt W' wz.heap.size wz.heap.size v' (setR L key key (wrap64 (y + 1))) ∧ Below wz.heap.size wz W' := fun w hw hm => set_at wz w hw _ _ v5 L key key (wrap64 (y + 1)) hm (Nat.le_refl _) (by rw [HNL.out]; omega) k0 k1
              go_wp2_with (fail)
              refine hC.mono ?_
              rintro e wA ⟨rfl, hbA⟩
              have hNA := hN8.keep hbA
              have hBA := below_go hB8 hbA
              clear hC hN8 hB8 hbA
              go_wp2_with (fail)
              refine (hS _ hBA hNA).mono ?_
              rintro e wB ⟨rfl, v6, hNB, hBB⟩
              have HT : Hid (DiffIs L (setR L key key (wrap64 (y + 1))) [⟨key, key, ()⟩]) := turned hgd k0 k1 HK5.out
              have hsl := setR_len hgd k0 k1 (wrap64 (y + 1))
              rw [HNL.out] at hsl
              have hgS := hNB.good
              generalize setR L key key (wrap64 (y + 1)) = N at *
              clear hNA hBA hS HK5
              have hC := diff_any wB (some ⟨W.heap.size, 0, none⟩) (some ⟨wz.heap.size, 0, none⟩) L N (hM2.keep (below_go HB.out hBB)).pm hNB.pm (by rw [HNL.out]; omega)
              go_wp2_with (fail)
              refine hC.mono ?_
              rintro e wC ⟨vd, rfl, ⟨RC, hRC, hiC, _⟩, hbC⟩
              obtain rfl : RC = [⟨key, key, ()⟩] := hiC.uniq HT.out
              obtain ⟨da, dc, hdv, hdc⟩ := Lm.view hRC
              obtain ⟨gd, rfl, _, hgdl, e0, e1, _⟩ := hdc 0 ⟨key, key, ()⟩ rfl
              subst hdv
              have HRC : Hid (Lm wC wB.heap.size (.slice (some ⟨gd, 0, none⟩) 1 dc) [⟨key, key, ()⟩]) := hRC
              simp only [List.length_cons, List.length_nil, Nat.zero_add, Nat.zero_mul] at e0 e1 ⊢
              have hNC := hNB.keep hbC
              have hBC := below_go hBB hbC
              clear hC hNB hBB hbC hRC hiC hdc
              have hC := equal_any wC (some ⟨W.heap.size, 0, none⟩) (some ⟨wz.heap.size, 0, none⟩) L N (hM2.keep (below_go HB.out hBC)).pm hNC.pm (by rw [HNL.out]; omega) (by omega) false (by
                constructor
                · intro h
                  cases h
                · intro h
                  have := (HT.out.nil_iff hgd hgS).2 h
                  cases this)
              go_wp2_with (fail)
              refine hC.mono ?_
              rintro e wD ⟨rfl, hbD⟩
              have hND := hNC.keep hbD
              have hBD := below_go hBC hbD
              have g0 : wD.cell? ⟨gd, 0, none⟩ = some (.int .u64 key) := ((bcell hbD).1 gd _ hgdl).trans e0
              have g1 : wD.cell? ⟨gd, 1, none⟩ = some (.int .u64 key) := ((bcell hbD).1 gd _ hgdl).trans e1
              have HRD : Hid (Lm wD wB.heap.size (.slice (some ⟨gd, 0, none⟩) 1 dc) [⟨key, key, ()⟩]) := row_keep HRC.out hbD
              clear hC hNC hBC hbD HRC e0 e1
              have hC := diff_any wD (some ⟨wz.heap.size, 0, none⟩) (some ⟨W.heap.size, 0, none⟩) N L hND.pm (hM2.keep (below_go HB.out hBD)).pm (by rw [HNL.out]; omega)
              go_wp2_with (fail)
              refine hC.mono ?_
              rintro e wE ⟨vx, rfl, ⟨RE, hRE, hiE, _⟩, hbE⟩
              obtain rfl : RE = [⟨key, key, ()⟩] := hiE.comm.uniq HT.out
              have hBE := below_go hBD hbE
              have hC2 := rooms_any wE _ _ vx (.slice (some ⟨gd, 0, none⟩) 1 dc) [⟨key, key, ()⟩] hRE (row_keep HRD.out hbE) (by simp)
              obtain ⟨xa, xc, rfl⟩ := slice_form hRE
              clear hC hND hBD hbE HRD hRE hiE
              simp only [List.length_cons, List.length_nil, Nat.zero_add] at hC2 ⊢
              go_wp2_with (fail)
              refine hC2.mono ?_
              rintro e wF ⟨rfl, hbF⟩
              have hBF := below_go (below_go (below_go hB2 HB.out) hBE) hbF
              clear hC2 hBE hbF
              go_wp2
              go_ret
              exact ⟨rfl, hBF⟩
end Go.Proofs.Ytliiblaodhcjhaa
