import Derived.Test.YtcpcmjmgiagnoabDoorLk1
import Derived.Test.YtcpcmjmgiagnoabDoorLk2
import Derived.Test.YtcpcmjmgiagnoabDoorLk3
import Derived.Test.YtcpcmjmgiagnoabDoorLk4
import Derived.Test.YtcpcmjmgiagnoabDoorLk5
import Derived.Test.YtcpcmjmgiagnoabDoorFp
namespace Go.Proofs.YtcpcmjmgiagnoabDoor
open Go.RowKit
set_option linter.unusedVariables false
set_option linter.unusedSimpArgs false
theorem and15 (n : Int) : bits BinOp.and IntKind.i64 n 15 = n % 16 := by
  have key : (BitVec.ofInt 64 n &&& BitVec.ofInt 64 15).toNat = (n % ((2 ^ 64 : Nat) : Int)).toNat % 2 ^ 4 := by
    rw [BitVec.toNat_and, BitVec.toNat_ofInt, show (BitVec.ofInt 64 15).toNat = 2 ^ 4 - 1 by decide, Nat.and_two_pow_sub_one_eq_mod]
  show IntKind.i64.wrap ((BitVec.ofInt 64 n &&& BitVec.ofInt 64 15).toNat : Nat) = n % 16
  rw [key, IntKind.wrap_i64]
  omega
/-- The block of an address, and of its neighbours. -/
theorem blk (B v o : Int) (hB : B = 4096 ∨ B = 65536 ∨ B = 1048576 ∨ B = 16777216) (hv : 0 ≤ v ∧ v < 4294967296) (ho : 0 ≤ o ∧ o < 4294967296) :
    0 ≤ v / B * B ∧ v / B * B ≤ v ∧ v - v / B * B < B ∧ v / B * B + B ≤ 4294967296 ∧ (v / B * B + o % B) / B * B = v / B * B ∧ v / B * B / B * B = v / B * B ∧ 0 ≤ o % B ∧ o % B < B ∧
      (B ≤ (o - v / B * B) % 18446744073709551616 → o / B * B ≠ v / B * B) := by
  rcases hB with rfl | rfl | rfl | rfl <;> (refine ⟨?_, ?_, ?_, ?_, ?_, ?_, ?_, ?_, ?_⟩ <;> omega)
theorem block_fin (x dom va other : Int) (second : Bool) (e : Ent) (W : World) (ht : TR W) (hx : 0 ≤ x ∧ x < 4294967296) (hva : 0 ≤ va ∧ va < 4294967296) (hot : 0 ≤ other ∧ other < 4294967296)
    (he : e = if second then D2 x else D1 x) (hO : Ok e) (hk : e.kind = 2 ∨ e.kind = 3 ∨ e.kind = 4 ∨ e.kind = 5) (sz B dm : Int) (hsz : szK e.kind = sz) (hby : byN sz = B) (hB : B = 4096 ∨ B = 65536 ∨ B = 1048576 ∨ B = 16777216)
    (hkd : kdS sz = e.kind) (hs14 : 1 ≤ sz ∧ sz ≤ 4) (hD : domOf e (dom % 16) = dm) (hdm : 0 ≤ dm ∧ dm ≤ 15) (hsb : sb e = true) (hen : (if sz = 3 then dm else 0) = e.dom)
    (hsb2 : sb ⟨e.kind, e.base, e.dom, false, e.ap, e.bits, e.ng, e.xn⟩ = true) (hD2 : domOf ⟨e.kind, e.base, e.dom, false, e.ap, e.bits, e.ng, e.xn⟩ dm = dm) (hd : dm = if second then dom % 16 else e.dom) :
    Calls Tryd.prog 4 #[.int .u32 x, .bool second, .int .i64 dom, .int .u32 va, .int .u32 other] W fun r w' => r = .returned (.bool true) ∧ Below W.heap.size W w' := by
  obtain ⟨b1, b2, b3, b4, b5, b6, b7, b8, b9⟩ := blk B va other hB hva hot
  have tr : ∀ v, trF e (dom % 16) v = ⟨sz, v / B * B, e.base, dm, e.ap, e.bits, e.ng, e.xn⟩ := by
    intro v
    unfold trF
    rw [hD, if_pos ⟨hsb, hdm.1, hdm.2⟩, hsz, hby]
  have en : enF ⟨sz, va / B * B, e.base, dm, e.ap, e.bits, e.ng, e.xn⟩ = ⟨e.kind, e.base, e.dom, false, e.ap, e.bits, e.ng, e.xn⟩ := by
    unfold enF
    simp only [hkd, hen]
  have ri : riF ⟨sz, va / B * B, e.base, dm, e.ap, e.bits, e.ng, e.xn⟩ = true := by
    unfold riF
    rw [en]
    have : trF ⟨e.kind, e.base, e.dom, false, e.ap, e.bits, e.ng, e.xn⟩ dm (va / B * B) = ⟨sz, va / B * B, e.base, dm, e.ap, e.bits, e.ng, e.xn⟩ := by
      unfold trF
      rw [hD2, if_pos ⟨hsb2, hdm.1, hdm.2⟩]
      simp only [hsz, hby, b6]
    simp only [this, Tra.same_self]
    simp [hs14]
  have hv0 : 0 ≤ va / B * B ∧ va / B * B < 4294967296 := by omega
  have hyr : 0 ≤ va / B * B + other % B ∧ va / B * B + other % B < 4294967296 := by omega
  have HD1 := fun ww (hh : TR ww) => Decode1_any x ww hh.toTD hx
  have HD2 := fun ww (hh : TR ww) => Decode2_any x ww hh.toTD hx
  have HT1 := fun ww (hh : TR ww) => trans_any e (dom % 16) va ww hh.toTT hO hva
  have HT2 := fun ww (hh : TR ww) => trans_any e (dom % 16) (va / B * B + other % B) ww hh.toTT hO hyr
  have HT3 := fun ww (hh : TR ww) => trans_any e (dom % 16) other ww hh.toTT hO hot
  rw [tr] at HT1 HT2 HT3
  rw [b5] at HT2
  have HY := fun ww (hh : TR ww) => bytes_any sz ww hh.tb
  rw [hby] at HY
  have HR := fun ww (hh : TR ww) => right_any ⟨sz, va / B * B, e.base, dm, e.ap, e.bits, e.ng, e.xn⟩ ww hh hv0 hO
  have HE := fun ww (hh : TR ww) => entry_any ⟨sz, va / B * B, e.base, dm, e.ap, e.bits, e.ng, e.xn⟩ ww hh hv0 hO
  rw [ri] at HR HE
  rw [en] at HE
  have q1 := eqT ⟨sz, va / B * B, e.base, dm, e.ap, e.bits, e.ng, e.xn⟩ ⟨sz, va / B * B, e.base, dm, e.ap, e.bits, e.ng, e.xn⟩
  rw [Tra.same_self] at q1
  have q3 := eqE e e
  rw [Ent.same_self] at q3
  have q4 := eqL e.ap e.bits e.ng e.xn e.ap e.bits e.ng e.xn
  rw [show sameL e.ap e.bits e.ng e.xn e.ap e.bits e.ng e.xn = true from (sameL_iff _ _ _ _ _ _ _ _).2 ⟨rfl, rfl, rfl, rfl⟩] at q4
  have hk0 : (e.kind == 0) = false := by simp; omega
  have hk1 : (e.kind == 1) = false := by simp; omega
  have c1 : decide (B < 4096) = false := decide_eq_false (by omega)
  have c2 : decide (B ≤ va - va / B * B) = false := decide_eq_false (by omega)
  have c3 : decide (va < va / B * B) = false := decide_eq_false (by omega)
  have hBn : ¬ (B = 0) := by omega
  have w1 : IntKind.u64.wrap other = other := by rw [IntKind.wrap_u64]; omega
  have w2 : IntKind.u64.wrap (va / B * B) = va / B * B := by rw [IntKind.wrap_u64]; omega
  have w3 : IntKind.u32.wrap (other.tmod B) = other % B := by rw [Int.tmod_eq_emod_of_nonneg hot.1, IntKind.wrap_u32]; omega
  have w4 : IntKind.u32.wrap (va / B * B + other % B) = va / B * B + other % B := by rw [IntKind.wrap_u32]; omega
  have w5 : IntKind.u64.wrap (other - va / B * B) = (other - va / B * B) % 18446744073709551616 := IntKind.wrap_u64 _
  by_cases hb : B ≤ (other - va / B * B) % 18446744073709551616
  · have q2 := eqT ⟨sz, other / B * B, e.base, dm, e.ap, e.bits, e.ng, e.xn⟩ ⟨sz, va / B * B, e.base, dm, e.ap, e.bits, e.ng, e.xn⟩
    have hne : Tra.same ⟨sz, other / B * B, e.base, dm, e.ap, e.bits, e.ng, e.xn⟩ ⟨sz, va / B * B, e.base, dm, e.ap, e.bits, e.ng, e.xn⟩ = false := by
      cases hs : Tra.same ⟨sz, other / B * B, e.base, dm, e.ap, e.bits, e.ng, e.xn⟩ ⟨sz, va / B * B, e.base, dm, e.ap, e.bits, e.ng, e.xn⟩ with
      | false => rfl
      | true => exact absurd (congrArg Tra.va ((Tra.same_iff _ _).1 hs)) (b9 hb)
    rw [hne] at q2
    cases second with
    | false =>
      simp only [Bool.false_eq_true, if_false] at he hd
      rw [← he] at HD1
      subst hd
      exact block_fy x dom _ va other sz (va / B * B) B _ _ e e ⟨sz, other / B * B, e.base, e.dom, e.ap, e.bits, e.ng, e.xn⟩ W ht hk0 hk1 (and15 dom) c1 (by omega) (by omega) (by omega) (by omega) c2 c3 hBn _ w1 w2 w3 w4 w5 (decide_eq_true hb) HD1 HT1 HT2 HT3 q1 q2 q3 q4 HY HR HE
    | true =>
      simp only [if_true] at he hd
      rw [← he] at HD2
      subst hd
      exact block_sy x dom _ va other sz (va / B * B) B _ _ e (D1 x) ⟨sz, other / B * B, e.base, (dom % 16), e.ap, e.bits, e.ng, e.xn⟩ W ht hk0 hk1 (and15 dom) c1 (by omega) (by omega) (by omega) (by omega) c2 c3 hBn _ w1 w2 w3 w4 w5 (decide_eq_true hb) HD1 HD2 HT1 HT2 HT3 q1 q2 q3 q4 HY HR HE
  · cases second with
    | false =>
      simp only [Bool.false_eq_true, if_false] at he hd
      rw [← he] at HD1
      subst hd
      exact block_fn x dom _ va other sz (va / B * B) B _ _ e e W ht hk0 hk1 (and15 dom) c1 (by omega) (by omega) (by omega) (by omega) c2 c3 hBn _ w1 w2 w3 w4 w5 (decide_eq_false hb) HD1 HT1 HT2 q1 q3 q4 HY HR HE
    | true =>
      simp only [if_true] at he hd
      rw [← he] at HD2
      subst hd
      exact block_sn x dom _ va other sz (va / B * B) B _ _ e (D1 x) W ht hk0 hk1 (and15 dom) c1 (by omega) (by omega) (by omega) (by omega) c2 c3 hBn _ w1 w2 w3 w4 w5 (decide_eq_false hb) HD1 HD2 HT1 HT2 q1 q3 q4 HY HR HE
theorem law_block (x : Int) (second : Bool) (dom va other : Int) (W : World) (ht : TR W) (hx : 0 ≤ x ∧ x < 4294967296) (hw : (Lit.int .i64 dom).wf = true) (hva : 0 ≤ va ∧ va < 4294967296) (hot : 0 ≤ other ∧ other < 4294967296) :
    Calls Tryd.prog 4 #[.int .u32 x, .bool second, .int .i64 dom, .int .u32 va, .int .u32 other] W fun r w' => r = .returned (.bool true) ∧ Below W.heap.size W w' := by
  have hO : Ok (if second then D2 x else D1 x) := by
    cases second
    · exact (ok_D1 x hx).1
    · exact (ok_D2 x hx).1
  by_cases hk : (if second then D2 x else D1 x).kind = 2 ∨ (if second then D2 x else D1 x).kind = 3 ∨ (if second then D2 x else D1 x).kind = 4 ∨ (if second then D2 x else D1 x).kind = 5
  · cases second with
    | false =>
      simp only [Bool.false_eq_true, if_false] at hk hO
      have hS := (ok_D1 x hx).2
      have hK := D1_kind x
      have hsb : sb (D1 x) = true := by
        unfold sb
        rw [if_pos (by omega), DED1 x hx, Ent.same_self]
      generalize hg : D1 x = e at *
      have hdm : 0 ≤ e.dom ∧ e.dom ≤ 15 := by
        rcases hS with g | ⟨g, _⟩ | ⟨_, _, g, _⟩ | ⟨_, _, g, _⟩
        · have := dZ_kind g; omega
        · omega
        · exact g
        · omega
      have hD : domOf e (dom % 16) = e.dom := by unfold domOf; rw [if_pos (by omega)]
      have hS2 : Says1 ⟨e.kind, e.base, e.dom, false, e.ap, e.bits, e.ng, e.xn⟩ := by
        rcases hS with g | g | g | g
        · have := dZ_kind g; omega
        · exact .inr (.inl g)
        · exact .inr (.inr (.inl g))
        · exact .inr (.inr (.inr g))
      have hsb2 : sb ⟨e.kind, e.base, e.dom, false, e.ap, e.bits, e.ng, e.xn⟩ = true := by
        unfold sb
        rw [if_pos (by show e.kind = 2 ∨ e.kind = 3; omega), (says1_iff ⟨e.kind, e.base, e.dom, false, e.ap, e.bits, e.ng, e.xn⟩ hO).2 hS2, Ent.same_self]
      have hD2 : domOf ⟨e.kind, e.base, e.dom, false, e.ap, e.bits, e.ng, e.xn⟩ e.dom = e.dom := by unfold domOf; rw [if_pos (by show e.kind = 2 ∨ e.kind = 3; omega)]
      rcases (show e.kind = 2 ∨ e.kind = 3 by omega) with h | h
      · exact block_fin x dom va other false e W ht hx hva hot (by simp [hg]) hO hk 3 1048576 e.dom (by rw [h]; rfl) rfl (by omega) (by rw [h]; rfl) (by omega) hD hdm hsb (by rw [if_pos rfl]) hsb2 hD2 (by simp)
      · have hz : e.dom = 0 := by
          rcases hS with g | ⟨g, _⟩ | ⟨g, _⟩ | ⟨_, _, g, _⟩
          · have := dZ_kind g; omega
          · omega
          · omega
          · exact g
        exact block_fin x dom va other false e W ht hx hva hot (by simp [hg]) hO hk 4 16777216 e.dom (by rw [h]; rfl) rfl (by omega) (by rw [h]; rfl) (by omega) hD hdm hsb (by rw [if_neg (by decide), hz]) hsb2 hD2 (by simp)
    | true =>
      simp only [if_true] at hk hO
      have hS := (ok_D2 x hx).2
      have hK := D2_kind x
      have hsb : sb (D2 x) = true := by
        unfold sb
        rw [if_neg (by omega), if_pos (by omega), DED2 x hx, Ent.same_self]
      generalize hg : D2 x = e at *
      have hz : e.dom = 0 ∧ e.ns = false := by
        rcases hS with g | ⟨_, _, g, g2, _⟩ | ⟨_, _, g, g2, _⟩
        · have := dZ_kind g; omega
        · exact ⟨g, g2⟩
        · exact ⟨g, g2⟩
      have hD : domOf e (dom % 16) = dom % 16 := by unfold domOf; rw [if_neg (by omega)]
      have hee : (⟨e.kind, e.base, e.dom, false, e.ap, e.bits, e.ng, e.xn⟩ : Ent) = e := by rw [← hz.2]
      have hD2 : domOf ⟨e.kind, e.base, e.dom, false, e.ap, e.bits, e.ng, e.xn⟩ (dom % 16) = dom % 16 := by rw [hee]; exact hD
      rcases (show e.kind = 4 ∨ e.kind = 5 by omega) with h | h
      · exact block_fin x dom va other true e W ht hx hva hot (by simp [hg]) hO hk 2 65536 (dom % 16) (by rw [h]; rfl) rfl (by omega) (by rw [h]; rfl) (by omega) hD (by omega) hsb (by rw [if_neg (by decide), hz.1]) (by rw [hee]; exact hsb) hD2 (by simp)
      · exact block_fin x dom va other true e W ht hx hva hot (by simp [hg]) hO hk 1 4096 (dom % 16) (by rw [h]; rfl) rfl (by omega) (by rw [h]; rfl) (by omega) hD (by omega) hsb (by rw [if_neg (by decide), hz.1]) (by rw [hee]; exact hsb) hD2 (by simp)
  · have HD1 := fun ww (hh : TR ww) => Decode1_any x ww hh.toTD hx
    have HD2 := fun ww (hh : TR ww) => Decode2_any x ww hh.toTD hx
    have q := eqT tZ tZ
    rw [Tra.same_self] at q
    generalize hg : (if second then D2 x else D1 x) = e at *
    have HT := fun ww (hh : TR ww) => trans_any e (dom % 16) va ww hh.toTT hO hva
    have hsb : sb e = false := by unfold sb; rw [if_neg (by omega), if_neg (by omega)]
    rw [show trF e (dom % 16) va = tZ by unfold trF; rw [if_neg (by rw [hsb]; simp)]] at HT
    have hk01 : e.kind = 0 ∨ e.kind = 1 := by
      cases second with
      | false => have := D1_kind x; simp at hg; rw [hg] at this; omega
      | true => have := D2_kind x; simp at hg; rw [hg] at this; omega
    cases second with
    | false =>
      simp only [Bool.false_eq_true, if_false] at hg
      rw [hg] at HD1
      rcases hk01 with h | h
      · exact block_zf0 x dom _ va other e e W ht (by simp [h]) (and15 dom) HD1 HT q
      · exact block_zf1 x dom _ va other e e W ht (by simp [h]) (by simp [h]) (and15 dom) HD1 HT q
    | true =>
      simp only [if_true] at hg
      rw [hg] at HD2
      rcases hk01 with h | h
      · exact block_zs0 x dom _ va other e (D1 x) W ht (by simp [h]) (and15 dom) HD1 HD2 HT q
      · exact block_zs1 x dom _ va other e (D1 x) W ht (by simp [h]) (by simp [h]) (and15 dom) HD1 HD2 HT q
end Go.Proofs.YtcpcmjmgiagnoabDoor
