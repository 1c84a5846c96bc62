import Derived.Test.YtmodcbdgnmjkoabDoorMQ7
import Derived.Test.YtmodcbdgnmjkoabDoorMQ0
import Derived.Sort.Grow
import Derived.Shelf.SlSortCmp.NoneTotal
import Derived.Ground.SlsfProg
import Derived.Test.YtmodcbdgnmjkoabDoorProg
import Derived.RangeFuncNested
import Derived.RangeFuncBound
import Derived.RangeFuncCalls
import Derived.RangeFuncLeaves
import Derived.RangeFuncBox
import Derived.Shelf.Abstract
import Derived.Shelf.RegionOpen
import Derived.WalkKit
import Derived.OwnWalkIn
import Derived.TacticsInMore
import Derived.LoopNIn
import Derived.LoopIn
import Derived.ControlIn
namespace Go.Proofs.YtmodcbdgnmjkoabDoor
open Go.RowKit Go.Sort
set_option linter.unusedVariables false
set_option linter.unusedSimpArgs false
theorem or8_any (W : World) (ty : TypeId) (v1 v2 v3 v4 v5 v6 v7 v8 : Int) :
    Calls Tryd.prog 76 #[.slice (some ⟨W.heap.size, 0, none⟩) 8 8] (W.alloc (.cells #[.int .i64 v1, .int .i64 v2, .int .i64 v3, .int .i64 v4, .int .i64 v5, .int .i64 v6, .int .i64 v7, .int .i64 v8] ty)).drew fun e w' => e = .returned (.int .i64 (orL [v1, v2, v3, v4, v5, v6, v7, v8])) ∧ (W.alloc (.cells #[.int .i64 v1, .int .i64 v2, .int .i64 v3, .int .i64 v4, .int .i64 v5, .int .i64 v6, .int .i64 v7, .int .i64 v8] ty)).drew = w' := by
  have h := (Bl.new W ty [.int .i64 v1, .int .i64 v2, .int .i64 v3, .int .i64 v4, .int .i64 v5, .int .i64 v6, .int .i64 v7, .int .i64 v8]).drew.cell
  refine or_any [v1, v2, v3, v4, v5, v6, v7, v8] W.heap.size 0 8 _ (by simp) (fun j x hx => ?_)
  have hj := (List.getElem?_eq_some_iff.1 hx).1
  have e := h j
  rw [Nat.zero_add]
  rcases (show j = 0 ∨ j = 1 ∨ j = 2 ∨ j = 3 ∨ j = 4 ∨ j = 5 ∨ j = 6 ∨ j = 7 by simp at hj; omega) with rfl | rfl | rfl | rfl | rfl | rfl | rfl | rfl <;> (simp at hx; subst hx; exact e)
set_option maxRecDepth 100000 in
set_option maxHeartbeats 4000000 in
theorem compare_any (a b : Tra) (w : World) : Calls Tryd.prog 50 #[.agg #[.int .i64 a.size, .int .u32 a.va, .int .u64 a.pa, .int .i64 a.dom, .int .i64 a.ap, .int .u32 a.bits, .bool a.ng, .bool a.xn], .agg #[.int .i64 b.size, .int .u32 b.va, .int .u64 b.pa, .int .i64 b.dom, .int .i64 b.ap, .int .u32 b.bits, .bool b.ng, .bool b.xn]] w fun e w' => e = .returned (.int .i64 (cmT a b)) ∧ ∃ o1 o2 o3, w' = (((w.alloc o1).alloc o2).alloc o3).drew := by
  have HW := hidW cmpW_any
  have HI := hidW cmpI_any
  have HU := hidW cmpU_any
  have HBB := hidW cmpB_any
  have HO := hidW or8_any
  have HX : Hid (Bl ((w.alloc (.cells #[.int .i64 a.size, .int .u32 a.va, .int .u64 a.pa, .int .i64 a.dom, .int .i64 a.ap, .int .u32 a.bits, .bool a.ng, .bool a.xn] 49)).alloc (.cells #[.int .i64 b.size, .int .u32 b.va, .int .u64 b.pa, .int .i64 b.dom, .int .i64 b.ap, .int .u32 b.bits, .bool b.ng, .bool b.xn] 49)) w.heap.size 49 [.int .i64 a.size, .int .u32 a.va, .int .u64 a.pa, .int .i64 a.dom, .int .i64 a.ap, .int .u32 a.bits, .bool a.ng, .bool a.xn]) := (Bl.new _ _ _).below (below_new _ _)
  have HY : Hid (Bl ((w.alloc (.cells #[.int .i64 a.size, .int .u32 a.va, .int .u64 a.pa, .int .i64 a.dom, .int .i64 a.ap, .int .u32 a.bits, .bool a.ng, .bool a.xn] 49)).alloc (.cells #[.int .i64 b.size, .int .u32 b.va, .int .u64 b.pa, .int .i64 b.dom, .int .i64 b.ap, .int .u32 b.bits, .bool b.ng, .bool b.xn] 49)) (w.heap.size + 1) 49 [.int .i64 b.size, .int .u32 b.va, .int .u64 b.pa, .int .i64 b.dom, .int .i64 b.ap, .int .u32 b.bits, .bool b.ng, .bool b.xn]) := Bl.new1 _ _ _ _
  have HL : Hid (orL [Lib.compareInt a.va b.va, Lib.compareInt a.size b.size, Lib.compareInt a.pa b.pa, Lib.compareInt a.dom b.dom, Lib.compareInt a.ap b.ap, Lib.compareInt a.bits b.bits, Lib.compareInt (bI a.ng) (bI b.ng), Lib.compareInt (bI a.xn) (bI b.xn)] = cmT a b) := hidW (orL_lex _ _ _ _ _ _ _ _ _ _ _ _ _ _ _ _)
  go_enter Tryd.func50, Tryd.ntmps50
  go_wp2_with fail
  have HE : Hid (∀ o, ∃ o1 o2 o3, (((w.alloc (.cells #[.int .i64 a.size, .int .u32 a.va, .int .u64 a.pa, .int .i64 a.dom, .int .i64 a.ap, .int .u32 a.bits, .bool a.ng, .bool a.xn] 49)).alloc (.cells #[.int .i64 b.size, .int .u32 b.va, .int .u64 b.pa, .int .i64 b.dom, .int .i64 b.ap, .int .u32 b.bits, .bool b.ng, .bool b.xn] 49)).alloc o).drew = (((w.alloc o1).alloc o2).alloc o3).drew) := hidW (fun o => ⟨_, _, _, rfl⟩)
  generalize (w.alloc (.cells #[.int .i64 a.size, .int .u32 a.va, .int .u64 a.pa, .int .i64 a.dom, .int .i64 a.ap, .int .u32 a.bits, .bool a.ng, .bool a.xn] 49)).alloc (.cells #[.int .i64 b.size, .int .u32 b.va, .int .u64 b.pa, .int .i64 b.dom, .int .i64 b.ap, .int .u32 b.bits, .bool b.ng, .bool b.xn] 49) = wr at *
  generalize w.heap.size + 1 = y at *
  generalize w.heap.size = x at *
  have hS : ∀ w', Below wr.heap.size wr w' → (w'.cell? ⟨x, 0, none⟩ = some (.int .i64 a.size) ∧ w'.cell? ⟨x, 1, none⟩ = some (.int .u32 a.va) ∧ w'.cell? ⟨x, 2, none⟩ = some (.int .u64 a.pa) ∧ w'.cell? ⟨x, 3, none⟩ = some (.int .i64 a.dom) ∧ w'.cell? ⟨x, 4, none⟩ = some (.int .i64 a.ap) ∧ w'.cell? ⟨x, 5, none⟩ = some (.int .u32 a.bits) ∧ w'.cell? ⟨x, 6, none⟩ = some (.bool a.ng) ∧ w'.cell? ⟨x, 7, none⟩ = some (.bool a.xn) ∧ w'.cell? ⟨y, 0, none⟩ = some (.int .i64 b.size) ∧ w'.cell? ⟨y, 1, none⟩ = some (.int .u32 b.va) ∧ w'.cell? ⟨y, 2, none⟩ = some (.int .u64 b.pa) ∧ w'.cell? ⟨y, 3, none⟩ = some (.int .i64 b.dom) ∧ w'.cell? ⟨y, 4, none⟩ = some (.int .i64 b.ap) ∧ w'.cell? ⟨y, 5, none⟩ = some (.int .u32 b.bits) ∧ w'.cell? ⟨y, 6, none⟩ = some (.bool b.ng) ∧ w'.cell? ⟨y, 7, none⟩ = some (.bool b.xn)) := fun w' h => ⟨(HX.out.below h).cell 0, (HX.out.below h).cell 1, (HX.out.below h).cell 2, (HX.out.below h).cell 3, (HX.out.below h).cell 4, (HX.out.below h).cell 5, (HX.out.below h).cell 6, (HX.out.below h).cell 7, (HY.out.below h).cell 0, (HY.out.below h).cell 1, (HY.out.below h).cell 2, (HY.out.below h).cell 3, (HY.out.below h).cell 4, (HY.out.below h).cell 5, (HY.out.below h).cell 6, (HY.out.below h).cell 7⟩
  have HB1 := hidW (Below.refl wr.heap.size wr)
  have hs1 := HB1.out.size
  go_region_held3 (fun w' => w'.cell? ⟨x, 0, none⟩ = some (.int .i64 a.size) ∧ w'.cell? ⟨x, 1, none⟩ = some (.int .u32 a.va) ∧ w'.cell? ⟨x, 2, none⟩ = some (.int .u64 a.pa) ∧ w'.cell? ⟨x, 3, none⟩ = some (.int .i64 a.dom) ∧ w'.cell? ⟨x, 4, none⟩ = some (.int .i64 a.ap) ∧ w'.cell? ⟨x, 5, none⟩ = some (.int .u32 a.bits) ∧ w'.cell? ⟨x, 6, none⟩ = some (.bool a.ng) ∧ w'.cell? ⟨x, 7, none⟩ = some (.bool a.xn) ∧ w'.cell? ⟨y, 0, none⟩ = some (.int .i64 b.size) ∧ w'.cell? ⟨y, 1, none⟩ = some (.int .u32 b.va) ∧ w'.cell? ⟨y, 2, none⟩ = some (.int .u64 b.pa) ∧ w'.cell? ⟨y, 3, none⟩ = some (.int .i64 b.dom) ∧ w'.cell? ⟨y, 4, none⟩ = some (.int .i64 b.ap) ∧ w'.cell? ⟨y, 5, none⟩ = some (.int .u32 b.bits) ∧ w'.cell? ⟨y, 6, none⟩ = some (.bool b.ng) ∧ w'.cell? ⟨y, 7, none⟩ = some (.bool b.xn)) (exact hS _ (by ((repeat (first | (with_reducible refine Below.setCell ?_ (by first | exact Nat.le_refl _ | (dsimp only; omega)) _) | (with_reducible refine Below.alloc ?_ (by first | omega | (simp; omega) | simp) _) | (with_reducible refine below_drew ?_))); (first | (with_reducible exact HB1.out) | (with_reducible exact Below.refl _ _))))) (first | (go_at_call 77; refine (HW.out _ _ _).mono ?_; rintro e w1 ⟨rfl, rfl⟩) | (go_at_call 78; refine (HI.out _ _ _).mono ?_; rintro e w1 ⟨rfl, rfl⟩) | (go_at_call 79; refine (HU.out _ _ _).mono ?_; rintro e w1 ⟨rfl, rfl⟩) | (go_at_call 80; refine (HBB.out _ _ _).mono ?_; rintro e w1 ⟨rfl, rfl⟩) | (go_at_call 76; refine (HO.out _ _ _ _ _ _ _ _ _ _).mono ?_; rintro e w1 ⟨rfl, rfl⟩))
  all_goals
    go_wp2
    go_ret
    exact ⟨by rw [HL.out]; rfl, HE.out _⟩
end Go.Proofs.YtmodcbdgnmjkoabDoor
namespace Go.Proofs.YtmodcbdgnmjkoabDoor
open Go.Shelf
def Tryd.sortL_ren : Go.Shelf.Ren := ⟨fun | 6 => 49 | 15 => 75 | 14 => 74 | 28 => 98 | 29 => 99 | 20 => 90 | 21 => 91 | 22 => 92 | 23 => 93 | 24 => 94 | 25 => 95 | 26 => 96 | 27 => 97 | 46 => 108 | 47 => 109 | 48 => 110 | 49 => 111 | 50 => 112 | 57 => 113 | n => n, fun | 22 => 41 | 24 => 49 | 25 => 105 | 3 => 3 | 39 => 76 | 0 => 0 | 53 => 24 | 55 => 23 | 4 => 4 | 46 => 153 | 45 => 152 | 50 => 157 | 5 => 5 | 9 => 9 | 66 => 173 | 70 => 176 | 76 => 179 | 77 => 109 | n => n, fun | n => n⟩
theorem Tryd.sortL : Go.Proofs.SlLaysF0.n6 Tryd.prog Tryd.sortL_ren := {
  mixed := by kernel_rfl
  f6 := ⟨Tryd.f49.name, by decide, Tryd.func49.trans (congrArg some (by kernel_rfl))⟩
  f14 := ⟨Tryd.f74.name, by decide, Tryd.func74.trans (congrArg some (by kernel_rfl))⟩
  f15 := Tryd.func75.trans (congrArg some (by kernel_rfl))
  f20 := ⟨Tryd.f90.name, by decide, Tryd.func90.trans (congrArg some (by kernel_rfl))⟩
  f21 := ⟨Tryd.f91.name, by decide, Tryd.func91.trans (congrArg some (by kernel_rfl))⟩
  f22 := ⟨Tryd.f92.name, by decide, Tryd.func92.trans (congrArg some (by kernel_rfl))⟩
  f23 := ⟨Tryd.f93.name, by decide, Tryd.func93.trans (congrArg some (by kernel_rfl))⟩
  f24 := ⟨Tryd.f94.name, by decide, Tryd.func94.trans (congrArg some (by kernel_rfl))⟩
  f25 := ⟨Tryd.f95.name, by decide, Tryd.func95.trans (congrArg some (by kernel_rfl))⟩
  f26 := ⟨Tryd.f96.name, by decide, Tryd.func96.trans (congrArg some (by kernel_rfl))⟩
  f27 := ⟨Tryd.f97.name, by decide, Tryd.func97.trans (congrArg some (by kernel_rfl))⟩
  f28 := Tryd.func98.trans (congrArg some (by kernel_rfl))
  f29 := Tryd.func99.trans (congrArg some (by kernel_rfl))
  f46 := ⟨Tryd.f108.name, by decide, Tryd.func108.trans (congrArg some (by kernel_rfl))⟩
  f47 := Tryd.func109.trans (congrArg some (by kernel_rfl))
  f48 := Tryd.func110.trans (congrArg some (by kernel_rfl))
  f49 := ⟨Tryd.f111.name, by decide, Tryd.func111.trans (congrArg some (by kernel_rfl))⟩
  f50 := ⟨Tryd.f112.name, by decide, Tryd.func112.trans (congrArg some (by kernel_rfl))⟩
  f57 := ⟨Tryd.f113.name, by decide, Tryd.func113.trans (congrArg some (by kernel_rfl))⟩
  t0 := Tryd.underlying0
  a0 := Tryd.isAgg0
  z0 := Tryd.sizeOf0
  v0 := Tryd.zeroValue0
  t3 := Tryd.underlying3
  a3 := Tryd.isAgg3
  z3 := Tryd.sizeOf3
  v3 := Tryd.zeroValue3
  t4 := Tryd.underlying4
  a4 := Tryd.isAgg4
  z4 := Tryd.sizeOf4
  v4 := Tryd.zeroValue4
  t5 := Tryd.underlying5
  a5 := Tryd.isAgg5
  z5 := Tryd.sizeOf5
  v5 := Tryd.zeroValue5
  t9 := Tryd.underlying9
  a9 := Tryd.isAgg9
  z9 := Tryd.sizeOf9
  v9 := Tryd.zeroValue9
  t22 := Tryd.underlying41
  a22 := Tryd.isAgg41
  z22 := Tryd.sizeOf41
  v22 := Tryd.zeroValue41
  t25 := Tryd.underlying105
  a25 := Tryd.isAgg105
  z25 := Tryd.sizeOf105
  v25 := Tryd.zeroValue105
  t39 := Tryd.underlying76
  a39 := Tryd.isAgg76
  z39 := Tryd.sizeOf76
  v39 := Tryd.zeroValue76
  t45 := Tryd.underlying152
  a45 := Tryd.isAgg152
  z45 := Tryd.sizeOf152
  v45 := Tryd.zeroValue152
  t46 := Tryd.underlying153
  a46 := Tryd.isAgg153
  z46 := Tryd.sizeOf153
  v46 := Tryd.zeroValue153
  t50 := Tryd.underlying157
  a50 := Tryd.isAgg157
  z50 := Tryd.sizeOf157
  v50 := Tryd.zeroValue157
  t53 := Tryd.underlying24
  a53 := Tryd.isAgg24
  z53 := Tryd.sizeOf24
  v53 := Tryd.zeroValue24
  t55 := Tryd.underlying23
  a55 := Tryd.isAgg23
  z55 := Tryd.sizeOf23
  v55 := Tryd.zeroValue23
  t66 := Tryd.underlying173
  a66 := Tryd.isAgg173
  z66 := Tryd.sizeOf173
  v66 := Tryd.zeroValue173
  t70 := Tryd.underlying176
  a70 := Tryd.isAgg176
  z70 := Tryd.sizeOf176
  v70 := Tryd.zeroValue176
  t76 := Tryd.underlying179
  a76 := Tryd.isAgg179
  z76 := Tryd.sizeOf179
  v76 := Tryd.zeroValue179
  t77 := Tryd.underlying109
  a77 := Tryd.isAgg109
  z77 := Tryd.sizeOf109
  v77 := Tryd.zeroValue109 }
end Go.Proofs.YtmodcbdgnmjkoabDoor
namespace Go.Proofs.YtmodcbdgnmjkoabDoor
open Go.RowKit Go.Sort Go.Shelf Go.Lib
open Mm (Turn gr RowAt)
set_option linter.unusedVariables false
set_option linter.unusedSimpArgs false
theorem alloc_grow (w : World) (o : Obj) : w.alloc o = grow w #[o] := by
  unfold grow
  rw [Array.append_singleton]
  rfl
theorem cmpLays [Inhabited Tra] (blk off size : Nat) (w : World) : CmpLays Tryd.prog 50 #[] encT 8 cmT blk off size w := by
  intro m os dk hs x y
  generalize sortWorldK encT 8 w blk off m dk os = W
  refine (show Calls Tryd.prog 50 #[.agg #[.int .i64 x.size, .int .u32 x.va, .int .u64 x.pa, .int .i64 x.dom, .int .i64 x.ap, .int .u32 x.bits, .bool x.ng, .bool x.xn], .agg #[.int .i64 y.size, .int .u32 y.va, .int .u64 y.pa, .int .i64 y.dom, .int .i64 y.ap, .int .u32 y.bits, .bool y.ng, .bool y.xn]] W _ from (compare_any x y W)).mono ?_
  rintro e w' ⟨rfl, o1, o2, o3, rfl⟩
  refine ⟨rfl, 1, #[o1, o2, o3], ?_⟩
  rw [alloc_grow, alloc_grow, alloc_grow, grow_grow, grow_grow, drew_grow]
  rfl
theorem ltOf_cmT : ltOf cmT = ltT := rfl
theorem swoT : SWO (ltOf cmT) := ⟨ltT_irrefl, ltT_trans, ltT_ntrans⟩
theorem sort_some [Inhabited Tra] (blk off cap : Nat) (l : List Tra) (w : World) (hH : HoldsK encT 8 w blk off l.toArray) (hb : blk < w.heap.size) (hl : l.length < 4611686018427387904) :
    Calls Tryd.prog 49 #[.slice (some ⟨blk, off, none⟩) l.length cap, .func (.func 50) #[] #[]] w fun e w' =>
      e = .returned (.tuple #[]) ∧ ∃ n os, w' = sortWorldK encT 8 w blk off n (soT l).toArray os := by
  have eg : ∀ args w, (callFunc 50 args).run Tryd.prog w = .ok (.enter 50 args) w := enters_of Tryd.func50 (by kernel_rfl) rfl
  have h := AnyQ.slices_SortFunc_total Tryd.sortL 8 (fun w => by kernel_rfl) (fun w => by kernel_rfl) encT (fun x => rfl) (fun x v hv => by simp [encT] at hv; rcases hv with rfl | rfl | rfl | rfl | rfl | rfl | rfl | rfl <;> rfl) cmT swoT 50 #[] blk off cap l.toArray w eg (cmpLays blk off _ w) hH hb (by simpa using hl) ltT_tot
  exact h
theorem sort_none (p : Option Addr) (cap : Nat) (w : World) : Calls Tryd.prog 49 #[.slice p 0 cap, .func (.func 50) #[] #[]] w fun e w' => e = .returned (.tuple #[]) ∧ w' = w :=
  AnyF.slices_SortFunc_none (P := Tryd.prog) (ρ := Tryd.sortL_ren) { Tryd.sortL with } p cap _ w
theorem flat_row [Inhabited Tra] (l : List Tra) : flatK encT 8 l.toArray = (rowT l).toArray := by
  refine ext_get! (by rw [size_flatK]; simp [rowT_len]) fun t ht => ?_
  rw [size_flatK] at ht
  have ht' : t < l.length * 8 := by simpa using ht
  rw [get_flatK _ _ _ _ ht]
  have hi : t / 8 < l.length := by omega
  have h := rowT_at (l := l) (i := t / 8) (List.getElem?_eq_getElem hi) (t % 8) (by omega)
  rw [show t / 8 * 8 + t % 8 = t by omega] at h
  have e1 : l.toArray[t / 8]! = l[t / 8] := by rw [getElem!_pos _ _ (by simpa using hi)]; simp
  rw [e1, getElem!_pos _ t (by simpa [rowT_len] using ht'), List.getElem_toArray]
  have h8 : t % 8 < (encT l[t / 8]).length := by show t % 8 < 8; omega
  rw [getElem!_pos (encT l[t / 8]) (t % 8) h8]
  rw [List.getElem?_eq_getElem h8, List.getElem?_eq_getElem (by rw [rowT_len]; exact ht')] at h
  injection h with h
  exact h.symm
theorem put_row (a b r : List Value) (h : a.length = b.length) : putCells id 0 b.toArray (a ++ r).toArray = (b ++ r).toArray := by
  apply Array.ext_getElem?
  intro k
  simp only [putCells, Array.getElem?_mapIdx, List.getElem?_toArray, List.size_toArray, Nat.zero_le, true_and, Nat.zero_add, Nat.sub_zero]
  by_cases hk : k < b.length
  · rw [List.getElem?_append_left (by omega), List.getElem?_append_left hk, List.getElem?_eq_getElem (by omega), List.getElem?_eq_getElem hk]
    simp only [Option.map_some, if_pos hk, id_eq]
    rw [getElem!_pos _ _ (by simpa using hk)]
    simp
  · rw [List.getElem?_append_right (by omega), List.getElem?_append_right (by omega), h]
    cases r[k - b.length]? with
    | none => rfl
    | some y => simp only [Option.map_some, if_neg hk]
/-- The sort of a row. -/
theorem sort_row (w : World) (g cap : Nat) (l : List Tra) (rest : List Value) (hR : RowAt w g 49 (rowT l ++ rest)) (hl : l.length ≤ 1000000) :
    Calls Tryd.prog 49 #[.slice (some ⟨g, 0, none⟩) l.length cap, .func (.func 50) #[] #[]] w fun e w' => e = .returned (.tuple #[]) ∧ RowAt w' g 49 (rowT (soT l) ++ rest) ∧ Turn (fun x => x = g) w w' := by
  haveI : Inhabited Tra := ⟨tZ⟩
  have hH : HoldsK encT 8 w g 0 l.toArray := by
    intro j hj
    rw [flat_row] at hj ⊢
    have hj' : j < (rowT l).length := by simpa using hj
    rw [Nat.zero_add, hR.cell, List.getElem?_append_left hj', List.getElem?_eq_getElem hj', getElem!_pos (rowT l).toArray j hj]
    exact ⟨by simp, hR.frozen j⟩
  have hsl : (soT l).length = l.length := (soT_perm l).length_eq
  refine (sort_some g 0 cap l w hH hR.lt (by omega)).mono ?_
  rintro e w' ⟨rfl, n, os, rfl⟩
  have e1 : (sortWorldK encT 8 w g 0 n (soT l).toArray os).heap = (w.heap.modify g (onCells (putCells id 0 (flatK encT 8 (soT l).toArray)))) ++ os := rfl
  refine ⟨rfl, ?_, ⟨rfl, rfl, rfl, ?_, ?_⟩⟩
  · show (sortWorldK encT 8 w g 0 n (soT l).toArray os).heap[g]? = _
    rw [e1, Array.getElem?_append_left (by simpa using hR.lt), Array.getElem?_modify, if_pos rfl, show w.heap[g]? = _ from hR]
    simp only [Option.map_some, onCells]
    rw [flat_row, put_row _ _ _ (by rw [rowT_len, rowT_len, hsl])]
  · rw [e1]; simp
  · intro k hk hne
    rw [e1, Array.getElem?_append_left (by simpa using hk), Array.getElem?_modify, if_neg (fun h => hne h.symm)]
end Go.Proofs.YtmodcbdgnmjkoabDoor
namespace Go.Proofs.YtmodcbdgnmjkoabDoor
open Go.RowKit
open Mm (Turn gr RowAt)
set_option linter.unusedVariables false
set_option linter.unusedSimpArgs false
/-- A list of translations, in a block of its own. -/
def Lt (w : World) (lo : Nat) (v : Value) (L : List Tra) : Prop := ∃ a cap, v = .slice a L.length cap ∧ (L = [] ∨ ∃ g rest, a = some ⟨g, 0, none⟩ ∧ lo ≤ g ∧ RowAt w g 49 (rowT L ++ rest))
/-- Of what stands in a row: sorted, each once. -/
theorem tidy_any (w : World) (g n cap : Nat) (l : List Tra) (cur : List Value) (hR : RowAt w g 49 cur) (hn : l.length = n) (hcap : n ≤ cap) (hcm : cap ≤ maxLen) (hl : cur.length = cap * 8) (ht : cur.take (n * 8) = rowT l) (hb : n ≤ 1000000) :
    Calls Tryd.prog 49 #[.slice (some ⟨g, 0, none⟩) n cap, .func (.func 50) #[] #[]] w fun e w' => e = .returned (.tuple #[]) ∧ Turn (fun x => x = g) w w' ∧
      Calls Tryd.prog 51 #[.slice (some ⟨g, 0, none⟩) n cap] w' fun e w2 => e = .returned (.slice (some ⟨g, 0, none⟩) (nd (soT l)).length cap) ∧ (∃ rest', RowAt w2 g 49 (rowT (nd (soT l)) ++ rest')) ∧ Turn (fun x => x = g) w w2 := by
  subst hn
  have hc : cur = rowT l ++ cur.drop (l.length * 8) := by rw [← ht]; exact (List.take_append_drop _ _).symm
  have hr : (cur.drop (l.length * 8)).length = (cap - l.length) * 8 := by rw [List.length_drop, hl]; omega
  rw [hc] at hR
  generalize cur.drop (l.length * 8) = rest at *
  have hs : (soT l).length = l.length := (soT_perm l).length_eq
  refine (sort_row w g cap l rest hR hb).mono ?_
  rintro e w1 ⟨rfl, hR1, T1⟩
  refine ⟨rfl, T1, ?_⟩
  by_cases h2 : l.length < 2
  · refine (compact_short w1 (some ⟨g, 0, none⟩) l.length cap h2).mono ?_
    rintro e w2 ⟨rfl, rfl⟩
    rw [nd_short (by omega), hs]
    exact ⟨rfl, ⟨rest, hR1⟩, T1⟩
  · have h := compact_long w1 g cap l.length (soT l) rest hR1 hs hcap hcm hr hb h2
    refine h.mono ?_
    rintro e w2 ⟨rfl, hR2, T2⟩
    exact ⟨rfl, hR2, T1.trans T2 (fun x hx => .inl hx)⟩
set_option maxRecDepth 100000 in
set_option maxHeartbeats 2000000 in
theorem within_any {S : Nat → Prop} {iv : Value} {M : Mo} {w : World} (hm : MemP w S iv M) (ht : TW w) (c : Ctx) (va : Int) (hc : c.Ok) (hv : 0 ≤ va ∧ va < 4294967296) (hva : va % 16777216 = 0) :
    Calls Tryd.prog 24 #[iv, .agg #[.bool c.on, .bool c.tre, .bool c.afe, .int .i64 c.n, .bool c.pd0, .bool c.pd1, .int .u64 c.b0, .int .u64 c.b1, .int .u32 c.dacr, .int .u32 c.prrr, .int .u32 c.nmrr, .int .i64 c.asid], .int .u32 va] w fun e w' => ∃ v, e = .returned v ∧ Lt w' w.heap.size v (wiL M c va) ∧ Below w.heap.size w w' := by
  have hsz : (w.alloc (.cells #[.bool c.on, .bool c.tre, .bool c.afe, .int .i64 c.n, .bool c.pd0, .bool c.pd1, .int .u64 c.b0, .int .u64 c.b1, .int .u32 c.dacr, .int .u32 c.prrr, .int .u32 c.nmrr, .int .i64 c.asid] 26)).heap.size = w.heap.size + 1 := by simp
  have HG : Hid (Gs (w.heap.size + 1) S iv M (wiT M c va 0) (.slice none 0 0) (w.alloc (.cells #[.bool c.on, .bool c.tre, .bool c.afe, .int .i64 c.n, .bool c.pd0, .bool c.pd1, .int .u64 c.b0, .int .u64 c.b1, .int .u32 c.dacr, .int .u32 c.prrr, .int .u32 c.nmrr, .int .i64 c.asid] 26)) (w.alloc (.cells #[.bool c.on, .bool c.tre, .bool c.afe, .int .i64 c.n, .bool c.pd0, .bool c.pd1, .int .u64 c.b0, .int .u64 c.b1, .int .u32 c.dacr, .int .u32 c.prrr, .int .u32 c.nmrr, .int .i64 c.asid] 26))) :=
    hidW ⟨hm.below (below_new _ _), fun b hb => Nat.lt_succ_of_lt (hm.low b hb), ht.below (below_new _ _), fun b hb => Nat.lt_succ_of_lt (ht.low hb), World.ownsRow_nil _ _ _ _, Below.refl _ _, by omega⟩
  have HC : Hid (Bl (w.alloc (.cells #[.bool c.on, .bool c.tre, .bool c.afe, .int .i64 c.n, .bool c.pd0, .bool c.pd1, .int .u64 c.b0, .int .u64 c.b1, .int .u32 c.dacr, .int .u32 c.prrr, .int .u32 c.nmrr, .int .i64 c.asid] 26)) w.heap.size 26 [.bool c.on, .bool c.tre, .bool c.afe, .int .i64 c.n, .bool c.pd0, .bool c.pd1, .int .u64 c.b0, .int .u64 c.b1, .int .u32 c.dacr, .int .u32 c.prrr, .int .u32 c.nmrr, .int .i64 c.asid]) := hidW (Bl.new w 26 [.bool c.on, .bool c.tre, .bool c.afe, .int .i64 c.n, .bool c.pd0, .bool c.pd1, .int .u64 c.b0, .int .u64 c.b1, .int .u32 c.dacr, .int .u32 c.prrr, .int .u32 c.nmrr, .int .i64 c.asid])
  have HB : Hid (Below w.heap.size w (w.alloc (.cells #[.bool c.on, .bool c.tre, .bool c.afe, .int .i64 c.n, .bool c.pd0, .bool c.pd1, .int .u64 c.b0, .int .u64 c.b1, .int .u32 c.dacr, .int .u32 c.prrr, .int .u32 c.nmrr, .int .i64 c.asid] 26))) := hidW (below_new _ _)
  clear hm ht
  go_enter Tryd.func24, Tryd.ntmps24
  go_wp2
  generalize w.alloc (.cells #[.bool c.on, .bool c.tre, .bool c.afe, .int .i64 c.n, .bool c.pd0, .bool c.pd1, .int .u64 c.b0, .int .u64 c.b1, .int .u32 c.dacr, .int .u32 c.prrr, .int .u32 c.nmrr, .int .i64 c.asid] 26) = wa at *
  generalize hwb : w.heap.size = cb at *
  go_loopw [7, 9] (fun f i wr => ∃ k : Nat, k ≤ 16 ∧ i = .int .u32 k ∧ Hid (Gs (cb + 1) S iv M (wiT M c va k) f wa wr)) (fun _ i _ => 16 - (intOf i).toNat)
  case atStart => exact ⟨0, Nat.zero_le _, rfl, HG⟩
  case round =>
    obtain ⟨k, hk, rfl, HS⟩ := hrel
    have hwl := wiT_len M c va k
    by_cases hlt : k < 16
    · have HA := hidW (gather_any HS.out (by omega) c (va + k * 1048576) hc (by omega) (by omega))
      have HW := hidW (wiT_succ M c va k)
      have c1 : ∀ j, wr.cell? ⟨cb, j, none⟩ = [.bool c.on, .bool c.tre, .bool c.afe, .int .i64 c.n, .bool c.pd0, .bool c.pd1, .int .u64 c.b0, .int .u64 c.b1, .int .u32 c.dacr, .int .u32 c.prrr, .int .u32 c.nmrr, .int .i64 c.asid][j]? := fun j => (HS.out.bel.cell (p := ⟨cb, j, none⟩) (Nat.lt_succ_self _)).trans (HC.out.cell j)
      have hkz : (k : Int) < 16 := by omega
      have hk0 : (0 : Int) ≤ k := by omega
      have hkv : va + (k : Int) * 1048576 < 4294967296 := by omega
      clear HS
      go_wp2_with (go_at_call 48; refine HA.out.mono ?_; rintro e w2 ⟨v', rfl, hG⟩)
      rw [← HW.out] at hG
      have HG2 := hidW hG
      clear hG HA
      go_wp2
      go_roundw
      case rel => exact ⟨k + 1, by omega, by go_num, HG2⟩
      case measure => simp [intOf]; omega
    · obtain rfl : k = 16 := by omega
      have hG := HS.out
      rcases Mm.row_of_own hG.own with ⟨rfl, h1, _⟩ | ⟨g, cap, cur, rfl, a, b, cc, d, e1, f⟩
      · have hE : wiL M c va = [] := by unfold wiL; rw [List.eq_nil_of_length_eq_zero h1]; simp [soT, nd]
        have HL : Hid (Lt wr cb (.slice none 0 0) (wiL M c va) ∧ Below cb w wr) := hidW ⟨⟨none, 0, by rw [hE]; rfl, .inl hE⟩, HB.out.trans (hG.bel.mono (by omega))⟩
        clear hG HS h1 hE
        go_wp2_with (first
          | (go_at_call 49; refine (sort_none none 0 _).mono ?_; rintro e w2 ⟨rfl, rfl⟩)
          | (go_at_call 51; refine (compact_short _ none 0 0 (by omega)).mono ?_; rintro e w2 ⟨rfl, rfl⟩))
        go_ret
        rw [hwb]
        exact ⟨_, rfl, HL.out.1, HL.out.2⟩
      · have HT := hidW (tidy_any wr g (wiT M c va 16).length cap (wiT M c va 16) cur b rfl cc d e1 f (by omega))
        have HBL := hidW hG.bel
        have HLO := hidW a
        have hsw := HBL.out.size
        have HGL := hidW b.lt
        clear hG HS a b cc d e1 f
        have HQ : Hid (nd (soT (wiT M c va 16)) = wiL M c va) := hidW rfl
        generalize nd (soT (wiT M c va 16)) = R at *
        generalize (wiT M c va 16).length = nn at *
        go_wp2_with (first
          | (go_at_call 49; refine HT.out.mono ?_; rintro e w2 ⟨rfl, T1, hC⟩)
          | (go_at_call 51; refine hC.mono ?_; rintro e w3 ⟨rfl, ⟨rest', hR⟩, T2⟩))
        go_ret
        rw [hwb]
        refine ⟨_, rfl, ⟨_, _, by rw [← HQ.out]; rfl, .inr ⟨g, rest', rfl, by have := HLO.out; omega, by rw [← HQ.out]; exact hR⟩⟩, ?_⟩
        exact HB.out.trans ((HBL.out.mono (by omega)).trans (T2.to (fun x hx => by subst hx; have := HLO.out; omega) (by have := HGL.out; have := HLO.out; omega)))
end Go.Proofs.YtmodcbdgnmjkoabDoor
namespace Go.Proofs.YtmodcbdgnmjkoabDoor
open Go.RowKit
open Mm (Turn gr RowAt)
set_option linter.unusedVariables false
set_option linter.unusedSimpArgs false
/-- Cells, or a map. -/
def solid (w : World) (b : Nat) : Prop := ∃ o, w.heap[b]? = some o ∧ (o.isCells = true ∨ o.isWalk = true)
/-- What a round may turn: the blocks X, and what is neither cells nor a map. -/
def airy (X : Nat → Prop) (W : World) (b : Nat) : Prop := X b ∨ ∃ o, W.heap[b]? = some o ∧ o.isCells = false ∧ o.isWalk = false
def KpX (X : Nat → Prop) (W W' : World) : Prop := Turn (airy X W) W W'
theorem solid.lt {w : World} {b : Nat} (h : solid w b) : b < w.heap.size := by
  obtain ⟨o, ho, _⟩ := h
  exact (Array.getElem?_eq_some_iff.1 ho).1
theorem solid.not {X : Nat → Prop} {w : World} {b : Nat} (h : solid w b) (hX : ¬ X b) : ¬ airy X w b := by
  rintro (hx | ⟨o, ho, h1, h2⟩)
  · exact hX hx
  · obtain ⟨o', ho', h3⟩ := h
    rw [ho] at ho'
    cases ho'
    rw [h1, h2] at h3
    simp at h3
theorem solid.cell {w : World} {b o : Nat} {v : Value} (h : w.cell? ⟨b, o, none⟩ = some v) : solid w b := by
  unfold World.cell? at h
  split at h
  · rename_i c e f ho
    exact ⟨_, ho, .inl rfl⟩
  · cases h
theorem solid.row {w : World} {b : Nat} {t : TypeId} {l : List Value} (h : RowAt w b t l) : solid w b := ⟨_, h, .inl rfl⟩
theorem KpX.refl (X : Nat → Prop) (W : World) : KpX X W W := Turn.refl _ _
theorem KpX.trans {X : Nat → Prop} {A B C : World} (h : KpX X A B) (k : KpX X B C) : KpX X A C := by
  refine Turn.trans (S := airy X A) h k (fun x hx => ?_)
  by_cases hl : x < A.heap.size
  · refine .inl ?_
    by_cases ha : airy X A x
    · exact ha
    · have := Turn.block h x hl ha
      rcases hx with hx | ⟨o, ho, h1, h2⟩
      · exact .inl hx
      · exact .inr ⟨o, by rw [← this]; exact ho, h1, h2⟩
  · exact .inr (by omega)
theorem KpX.put {X : Nat → Prop} (W : World) (l : Nat) (o o' : Obj) (h : W.heap[l]? = some o) (h1 : o.isCells = false) (h2 : o.isWalk = false) : KpX X W (W.putObj l o') :=
  Turn.grown (grownBy_putObj' W l o') (fun k hk => by cases hk; exact .inl (.inr ⟨o, h, h1, h2⟩))
theorem KpX.of {X : Nat → Prop} {W W' : World} (h : Turn X W W') : KpX X W W' := h.mono (fun x _ hx => .inl hx)
theorem KpX.block {X : Nat → Prop} {W W' : World} (h : KpX X W W') {b : Nat} (hb : solid W b) (hX : ¬ X b) : W'.heap[b]? = W.heap[b]? := Turn.block h b hb.lt (hb.not hX)
theorem solid.of {w w' : World} {b : Nat} (h : solid w b) (e : w'.heap[b]? = w.heap[b]?) : solid w' b := by
  obtain ⟨o, ho, h1⟩ := h
  exact ⟨o, e.trans ho, h1⟩
/-- What the iterator leans on between two rounds. -/
structure It (X S : Nat → Prop) (iv : Value) (M : Mo) (c : Ctx) (bc bm : Nat) (w : World) : Prop where
  mem : MemP w S iv M
  tab : TW w
  sol : ∀ b, S b ∨ tbl b → solid w b ∧ ¬ X b
  hbc : Bl w bc 26 [.bool c.on, .bool c.tre, .bool c.afe, .int .i64 c.n, .bool c.pd0, .bool c.pd1, .int .u64 c.b0, .int .u64 c.b1, .int .u32 c.dacr, .int .u32 c.prrr, .int .u32 c.nmrr, .int .i64 c.asid]
  nbc : ¬ X bc
  hbm : Bl w bm 60 [iv]
  nbm : ¬ X bm
theorem It.below {X S : Nat → Prop} {iv : Value} {M : Mo} {c : Ctx} {bc bm : Nat} {w w' : World} (h : It X S iv M c bc bm w) (hb : Below w.heap.size w w') : It X S iv M c bc bm w' :=
  ⟨h.mem.below hb, h.tab.below hb, fun b hh => ⟨(h.sol b hh).1.of (hb.block b (h.sol b hh).1.lt), (h.sol b hh).2⟩, h.hbc.below hb, h.nbc, h.hbm.below hb, h.nbm⟩
theorem It.kept {X S : Nat → Prop} {iv : Value} {M : Mo} {c : Ctx} {bc bm : Nat} {w w' : World} (h : It X S iv M c bc bm w) (k : KpX X w w') : It X S iv M c bc bm w' :=
  ⟨h.mem.keep k (fun b hb => (h.sol b (.inl hb)).1.not (h.sol b (.inl hb)).2), h.tab.turn k (fun b hb => (h.sol b (.inr hb)).1.not (h.sol b (.inr hb)).2), fun b hh => ⟨(h.sol b hh).1.of (k.block (h.sol b hh).1 (h.sol b hh).2), (h.sol b hh).2⟩,
    (k.block ⟨_, h.hbc, .inl rfl⟩ h.nbc).trans h.hbc, h.nbc, (k.block ⟨_, h.hbm, .inl rfl⟩ h.nbm).trans h.hbm, h.nbm⟩
theorem row_kept {X : Nat → Prop} {w w' : World} {g : Nat} {t : TypeId} {l : List Value} (h : RowAt w g t l) (hX : ¬ X g) (k : KpX X w w') : RowAt w' g t l := (k.block (.row h) hX).trans h
/-- All that lies in the tables' blocks is cells. -/
theorem TW.solid {w : World} (h : TW w) {b : Nat} (hb : tbl b) : solid w b := by
  rcases hb with rfl | rfl | rfl | rfl | rfl | rfl
  · exact .cell (h.r.first 0 _ rfl)
  · exact .cell (h.r.second 0 _ rfl)
  · exact .cell (h.r.base 0 _ rfl)
  · exact .cell (h.r.leaf 0 _ rfl)
  · exact .cell (h.r.tags 0 _ rfl)
  · exact .cell (h.r.size 0 _ rfl)
end Go.Proofs.YtmodcbdgnmjkoabDoor
namespace Go.Proofs.YtmodcbdgnmjkoabDoor
open Go.RowKit Go.Shelf
open Mm (Turn gr RowAt)
set_option linter.unusedVariables false
set_option linter.unusedSimpArgs false
attribute [local go_sem] Oper.semAt_some
theorem below_grown {W W' : World} (hb : Below W.heap.size W W') : W.grownBy W' none := ⟨hb.os, hb.tape, hb.output, hb.size, fun k hk _ => hb.block k hk⟩
theorem blT_pre (M : Mo) (c : Ctx) (s n : Nat) (h : s ≤ n) : blT M c s <+: blT M c n := by
  induction n with
  | zero => rw [show s = 0 by omega]; exact List.prefix_refl _
  | succ n ih =>
    rcases (show s ≤ n ∨ s = n + 1 by omega) with h | rfl
    · rw [blT_succ]
      exact (ih h).trans (List.prefix_append _ _)
    · exact List.prefix_refl _
/-- What lies ahead in one list. -/
theorem bl_next {M : Mo} {c : Ctx} (hon : c.on = true) {s k : Nat} (hs : s < 256) (L : List Tra) (hL : wiL M c ((s : Int) * 16777216) = L) : blT M c s ++ L.take k <+: blL M c := by
  have h1 : blT M c s ++ L.take k <+: blT M c (s + 1) := by
    rw [blT_succ, hL]
    exact (List.prefix_append_right_inj _).2 (List.take_prefix _ _)
  have h2 : blL M c = blT M c 256 := by unfold blL; rw [if_pos hon]
  rw [h2]
  exact h1.trans (blT_pre M c (s + 1) 256 (by omega))
set_option maxRecDepth 100000 in
set_option maxHeartbeats 4000000 in
theorem blocks_off (n l bc bm : Nat) (X S : Nat → Prop) (iv : Value) (M : Mo) (c : Ctx) (J : List Tra → World → Prop) (W : World) (hI : It X S iv M c bc bm W) (hon : c.on = false) (h0 : J [] W) :
    CallsIn Fence.wide n Tryd.prog 23 #[.func (.yield l) #[] #[], .pointer (some ⟨bc, 0, none⟩), .pointer (some ⟨bm, 0, none⟩)] W fun e W' => (∃ v, e = .returned v) ∧ J [] W' := by
  refine callsIn_of_wp Tryd.func23 rfl trivial ?_ rfl
  simp only [Tryd.ntmps23, List.size_toArray, List.length_cons, List.length_nil, Nat.reduceAdd, Nat.reduceSub, Array.replicate_succ, Array.replicate_zero, List.push_toArray, List.append_toArray, List.nil_append, List.cons_append]
  have c0 : W.cell? ⟨bc, 0, none⟩ = some (.bool false) := by rw [hI.hbc.cell 0, hon]; rfl
  clear hI
  gi_wp2
  refine bodyPost_ret (results_none rfl _ _ _) rfl ?_
  exact ⟨⟨_, rfl⟩, h0⟩
set_option maxRecDepth 100000 in
set_option maxHeartbeats 4000000 in
theorem blocks_on (n l bc bm : Nat) (X S : Nat → Prop) (iv : Value) (M : Mo) (c : Ctx) (J Jx : List Tra → World → Prop) (W : World)
    (hY : ∀ pre x W1, J pre W1 → pre ++ [x] <+: blL M c → YieldAt Fence.wide (n - 1) Tryd.prog l #[.agg #[.int .i64 x.size, .int .u32 x.va, .int .u64 x.pa, .int .i64 x.dom, .int .i64 x.ap, .int .u32 x.bits, .bool x.ng, .bool x.xn]] W1 fun e W' =>
      (e = .returned (.bool true) ∧ J (pre ++ [x]) W' ∧ KpX X W1 W') ∨ (e = .returned (.bool false) ∧ Jx (pre ++ [x]) W'))
    (hJ : AbidesFrom W.heap.size J) (hI : It X S iv M c bc bm W) (hX : ∀ b, X b → b < W.heap.size) (hon : c.on = true) (hc : c.Ok) (h0 : J [] W) :
    CallsIn Fence.wide n Tryd.prog 23 #[.func (.yield l) #[] #[], .pointer (some ⟨bc, 0, none⟩), .pointer (some ⟨bm, 0, none⟩)] W fun e W' => (∃ v, e = .returned v) ∧
      ((∃ ys, ys = blL M c ∧ J ys W') ∨ (∃ pre, pre <+: blL M c ∧ Jx pre W')) := by
  refine callsIn_of_wp Tryd.func23 rfl trivial ?_ rfl
  simp only [Tryd.ntmps23, List.size_toArray, List.length_cons, List.length_nil, Nat.reduceAdd, Nat.reduceSub, Array.replicate_succ, Array.replicate_zero, List.push_toArray, List.append_toArray, List.nil_append, List.cons_append]
  have c0 : W.cell? ⟨bc, 0, none⟩ = some (.bool true) := by rw [hI.hbc.cell 0, hon]; rfl
  have HY := hidW hY
  have HJ := hidW hJ
  have HON := hidW hon
  have HX := hidW hX
  have HS : Hid (J (blT M c 0) W ∧ It X S iv M c bc bm W ∧ W.heap.size ≤ W.heap.size) := hidW ⟨h0, hI, Nat.le_refl _⟩
  clear hI hY hJ hon hX h0
  gi_wp2
  gi_loopw [10] (fun i wr => ∃ s : Nat, s ≤ 256 ∧ i = .int .u32 s ∧ Hid (J (blT M c s) wr ∧ It X S iv M c bc bm wr ∧ W.heap.size ≤ wr.heap.size)) (fun i _ => 256 - (intOf i).toNat)
  case atStart => exact ⟨0, Nat.zero_le _, rfl, HS⟩
  case round =>
    obtain ⟨s, hs, rfl, HS1⟩ := hrel
    clear HS c0
    by_cases hlt : s < 256
    · obtain ⟨hJs, hIs, hsz⟩ := HS1.out
      have HW := hidW (within_any hIs.mem hIs.tab c ((s : Int) * 16777216) hc (by omega) (by omega))
      have HB := hidW (fun k => bl_next (M := M) (c := c) HON.out (s := s) (k := k) hlt _ rfl)
      have HZ := hidW (blT_succ M c s)
      have hwl := wiL_len M c ((s : Int) * 16777216)
      have c1 := hIs.hbc.cell
      have c2 : wr.cell? ⟨bm, 0, none⟩ = some iv := hIs.hbm.cell 0
      generalize wiL M c ((s : Int) * 16777216) = L at *
      have HJs := hidW hJs
      have HIs := hidW hIs
      clear hJs hIs HS1
      gi_wp2_with fail
      refine ⟨trivial, fun h => by simp [Fence.wide] at h, (callsIn_wide.2 HW.out).mono ?_⟩
      rintro e w2 ⟨v, rfl, ⟨a, cap, rfl, hLt⟩, hb⟩
      have hsz2 := hb.size
      have HS2 : Hid (J (blT M c s ++ L.take 0) w2 ∧ It X S iv M c bc bm w2 ∧ W.heap.size ≤ w2.heap.size ∧ (L = [] ∨ ∃ g rest, a = some ⟨g, 0, none⟩ ∧ ¬ X g ∧ RowAt w2 g 49 (rowT L ++ rest))) := by
        refine hidW ⟨?_, HIs.out.below hb, by omega, ?_⟩
        · rw [List.take_zero, List.append_nil]
          exact HJ.out _ wr w2 none HJs.out (below_grown hb) (fun r e => by cases e)
        · rcases hLt with h | ⟨g, rest, h1, h2, h3⟩
          · exact .inl h
          · exact .inr ⟨g, rest, h1, fun h => by have := HX.out g h; omega, h3⟩
      clear hLt hb HW HJs HIs c1 c2
      gi_wp2
      gi_loopw [19] (fun i wq => ∃ k : Nat, k ≤ L.length ∧ i = .int .i64 k ∧ Hid (J (blT M c s ++ L.take k) wq ∧ It X S iv M c bc bm wq ∧ W.heap.size ≤ wq.heap.size ∧ (L = [] ∨ ∃ g rest, a = some ⟨g, 0, none⟩ ∧ ¬ X g ∧ RowAt wq g 49 (rowT L ++ rest)))) (fun i _ => L.length - (intOf i).toNat)
      case atStart => exact ⟨0, Nat.zero_le _, rfl, HS2⟩
      case round =>
        obtain ⟨k, hk, rfl, HS3⟩ := hrel
        clear HS2
        by_cases hlt2 : k < L.length
        · obtain ⟨x, hx⟩ : ∃ x, L[k]? = some x := ⟨_, List.getElem?_eq_getElem hlt2⟩
          obtain ⟨hJ3, hI3, hz3, hL3⟩ := HS3.out
          rcases hL3 with h | ⟨g, rest, rfl, hXg, hrow⟩
          · rw [h] at hlt2; simp at hlt2
          · obtain ⟨x0, x1, x2, x3, x4, x5, x6, x7⟩ := rowT_cells hrow hx
            have hby : Below wr.heap.size wr (wr.alloc (.cells #[.int .i64 x.size, .int .u32 x.va, .int .u64 x.pa, .int .i64 x.dom, .int .i64 x.ap, .int .u32 x.bits, .bool x.ng, .bool x.xn] 49)) := below_new _ _
            have hTk : L.take (k + 1) = L.take k ++ [x] := by rw [List.take_add_one, hx]; rfl
            have hJy := HJ.out _ wr _ none hJ3 (below_grown hby) (fun r e => by cases e)
            have hpl : (blT M c s ++ L.take k) ++ [x] <+: blL M c := by
              have h1 := HB.out (k + 1)
              rwa [hTk, ← List.append_assoc] at h1
            have HPL := hidW hpl
            obtain ⟨fn, tmps, assign, body, hy, hR⟩ := HY.out _ x _ hJy hpl
            have HIy := hidW (hI3.below hby)
            have HRy : Hid (RowAt (wr.alloc (.cells #[.int .i64 x.size, .int .u32 x.va, .int .u64 x.pa, .int .i64 x.dom, .int .i64 x.ap, .int .u32 x.bits, .bool x.ng, .bool x.xn] 49)) g 49 (rowT L ++ rest)) := hidW ((hby.block g hrow.lt).trans hrow)
            have HTk := hidW hTk
            have HXg := hidW hXg
            have hszy := hby.size
            have hkz : (k : Int) < (L.length : Int) := by omega
            have hk0 : (0 : Int) ≤ k := by omega
            clear hJ3 hI3 hrow hx HS3 hJy hpl hTk hXg hby
            gi_wp2
            refine ⟨fun h => by simp [Fence.wide] at h, hR.mono ?_⟩
            rintro e W3 (⟨rfl, hJ3, hk3⟩ | ⟨rfl, hJx3⟩)
            · have hs3 := Turn.size hk3
              have HS5 : Hid (J (blT M c s ++ L.take (k + 1)) W3 ∧ It X S iv M c bc bm W3 ∧ W.heap.size ≤ W3.heap.size ∧ (L = [] ∨ ∃ g' rest, (some ⟨g, 0, none⟩ : Option Addr) = some ⟨g', 0, none⟩ ∧ ¬ X g' ∧ RowAt W3 g' 49 (rowT L ++ rest))) := by
                refine hidW ⟨?_, HIy.out.kept hk3, by omega, .inr ⟨g, rest, rfl, HXg.out, row_kept HRy.out HXg.out hk3⟩⟩
                rw [HTk.out, ← List.append_assoc]
                exact hJ3
              clear hR hJ3 hk3 HIy HRy
              gi_wp2
              go_roundw
              case rel => exact ⟨k + 1, by omega, by go_num, HS5⟩
              case measure => simp [intOf]; omega
            · clear hR
              gi_wp2
              refine bodyPost_ret (results_none rfl _ _ _) rfl ?_
              exact ⟨⟨_, rfl⟩, .inr ⟨_, HPL.out, hJx3⟩⟩
        · obtain rfl : k = L.length := by omega
          have HS4 : Hid (J (blT M c (s + 1)) wr ∧ It X S iv M c bc bm wr ∧ W.heap.size ≤ wr.heap.size) := by
            obtain ⟨hJ3, hI3, hz3, hL3⟩ := HS3.out
            rw [List.take_length, ← HZ.out] at hJ3
            exact hidW ⟨hJ3, hI3, hz3⟩
          clear HS3
          gi_wp2
          go_roundw
          case rel => exact ⟨s + 1, by omega, by go_num, HS4⟩
          case measure => simp [intOf]; omega
    · obtain rfl : s = 256 := by omega
      gi_wp2
      go_end0
      refine ⟨⟨_, rfl⟩, .inl ⟨_, rfl, ?_⟩⟩
      have h2 : blL M c = blT M c 256 := by unfold blL; rw [if_pos HON.out]
      rw [h2]
      exact HS1.out.1
/-- The iterator's contract. -/
theorem blocks_stops (n bc bm : Nat) (X S : Nat → Prop) (iv : Value) (M : Mo) (c : Ctx) (w : World) (hI : It X S iv M c bc bm w) (hX : ∀ b, X b → b < w.heap.size) (hc : c.Ok) :
    SeqStopsK Fence.wide n Tryd.prog 23 #[.pointer (some ⟨bc, 0, none⟩), .pointer (some ⟨bm, 0, none⟩)] (fun x : { x : Tra // x ∈ blL M c } => #[.agg #[.int .i64 (x.1).size, .int .u32 (x.1).va, .int .u64 (x.1).pa, .int .i64 (x.1).dom, .int .i64 (x.1).ap, .int .u32 (x.1).bits, .bool (x.1).ng, .bool (x.1).xn]]) (KpX X) (fun ys => ys.map (·.1) = blL M c) (fun pre => pre.map (·.1) <+: blL M c) (blL M c).length w := by
  intro l J Jx W hW hJ hJx hY h0
  have hIW := hI.below hW
  have hXW : ∀ b, X b → b < W.heap.size := fun b hb => Nat.lt_of_lt_of_le (hX b hb) hW.size
  show CallsIn Fence.wide n Tryd.prog 23 #[.func (.yield l) #[] #[], .pointer (some ⟨bc, 0, none⟩), .pointer (some ⟨bm, 0, none⟩)] W _
  cases hon : c.on with
  | false =>
    refine (blocks_off n l bc bm X S iv M c (fun pre W => ∃ q : List { x : Tra // x ∈ blL M c }, q.map (·.1) = pre ∧ J q W) W hIW hon ⟨[], rfl, h0⟩).mono ?_
    rintro e W' ⟨he, q, hq, hj⟩
    exact ⟨he, .inl ⟨q, hq.trans (by unfold blL; rw [hon]; rfl), hj⟩⟩
  | true =>
    refine (blocks_on n l bc bm X S iv M c (fun pre W => ∃ q : List { x : Tra // x ∈ blL M c }, q.map (·.1) = pre ∧ J q W) (fun pre W => ∃ q : List { x : Tra // x ∈ blL M c }, q.map (·.1) = pre ∧ Jx q W) W ?_ ?_ hIW hXW hon hc ⟨[], rfl, h0⟩).mono ?_
    · rintro pre x W1 ⟨q, rfl, hj⟩ hp
      have hx : x ∈ blL M c := hp.subset (List.mem_append_right _ (.head _))
      have hl : q.length < (blL M c).length := by
        have := hp.length_le
        rw [List.length_append, List.length_map] at this
        simp at this
        omega
      obtain ⟨fn, tmps, assign, body, hy, hR⟩ := hY q ⟨x, hx⟩ W1 hj hl
      refine ⟨fn, tmps, assign, body, hy, hR.mono ?_⟩
      rintro e W' (⟨rfl, h1, h2⟩ | ⟨rfl, h1⟩)
      · exact .inl ⟨rfl, ⟨_, by simp, h1⟩, h2⟩
      · exact .inr ⟨rfl, _, by simp, h1⟩
    · rintro s A B row ⟨q, hq, hj⟩ hg hr
      exact ⟨q, hq, hJ q A B row hj hg hr⟩
    · rintro e W' ⟨he, ⟨ys, rfl, q, hq, hj⟩ | ⟨pre, hp, q, rfl, hj⟩⟩
      · exact ⟨he, .inl ⟨q, hq, hj⟩⟩
      · exact ⟨he, .inr ⟨q, hp, hj⟩⟩
set_option maxHeartbeats 1000000 in
/-- Blocks hands out a function. -/
theorem blocks_any (iv : Value) (hiv : (∃ T u, iv = .iface T u) ∨ iv = .nilIface) (c : Ctx) (w : World) :
    Calls Tryd.prog 9 #[iv, .agg #[.bool c.on, .bool c.tre, .bool c.afe, .int .i64 c.n, .bool c.pd0, .bool c.pd1, .int .u64 c.b0, .int .u64 c.b1, .int .u32 c.dacr, .int .u32 c.prrr, .int .u32 c.nmrr, .int .i64 c.asid]] w fun e w' => e = .returned (.func (.func 23) #[] #[.pointer (some ⟨w.heap.size + 1, 0, none⟩), .pointer (some ⟨w.heap.size, 0, none⟩)]) ∧ w' = (w.alloc (.cells #[iv] 60)).alloc (.cells #[.bool c.on, .bool c.tre, .bool c.afe, .int .i64 c.n, .bool c.pd0, .bool c.pd1, .int .u64 c.b0, .int .u64 c.b1, .int .u32 c.dacr, .int .u32 c.prrr, .int .u32 c.nmrr, .int .i64 c.asid] 26) := by
  have hmf : ∀ (fn : Fn) (first cap : Array Value) (w : World), (Instr.makeFunc fn first cap).run Tryd.prog w = .ok (.func fn first cap) w := fun _ _ _ _ => rfl
  rcases hiv with ⟨T, u, rfl⟩ | rfl
  all_goals
    go_enter Tryd.func9, Tryd.ntmps9
    go_wp2
    go_ret
    exact ⟨rfl, rfl⟩
theorem MemP.form {w : World} {S : Nat → Prop} {iv : Value} {M : Mo} (h : MemP w S iv M) : (∃ T u, iv = .iface T u) ∨ iv = .nilIface := by
  rcases h with h | ⟨rfl, _⟩
  · first
      | exact h.elim
      | (obtain ⟨p, N, m, rfl, _⟩ := h; exact .inl ⟨_, _, rfl⟩)
  · exact .inr rfl
end Go.Proofs.YtmodcbdgnmjkoabDoor
namespace Go.Proofs.YtmodcbdgnmjkoabDoor
open Go.RowKit
open Mm (Turn gr RowAt PM)
set_option linter.unusedVariables false
set_option linter.unusedSimpArgs false
/-- A memory's blocks may be taken to be cells and maps alone. -/
theorem PM.tight {w : World} {S : Nat → Prop} {p N : Nat} {m : Nat → Int} (h : PM w S p N m) : PM w (fun b => S b ∧ solid w b) p N m := by
  obtain ⟨mb, D, g, h⟩ := h
  refine ⟨mb, D, g, ⟨h.box, h.own, h.view, fun n fb hf => ?_, h.out, h.inj, ⟨h.Sp, ⟨_, h.box, .inl rfl⟩⟩, ⟨h.Sm, ?_⟩, h.byts, h.n1, h.n2, fun b hb => h.low b hb.1⟩⟩
  · obtain ⟨h1, h2, h3⟩ := h.frm n fb hf
    exact ⟨h1, h2, h3, .row h1⟩
  · obtain ⟨es, clock, hh, _⟩ := h.own
    exact ⟨_, hh, .inr rfl⟩
theorem MemP.tight {w : World} {S : Nat → Prop} {iv : Value} {M : Mo} (h : MemP w S iv M) : MemP w (fun b => S b ∧ solid w b) iv M := by
  rcases h with ⟨p, N, m, rfl, rfl, h⟩ | ⟨h1, h2, h3⟩
  · exact .inl ⟨p, N, m, rfl, rfl, PM.tight h⟩
  · exact .inr ⟨h1, h2, fun b hb => h3 b hb.1⟩
end Go.Proofs.YtmodcbdgnmjkoabDoor
