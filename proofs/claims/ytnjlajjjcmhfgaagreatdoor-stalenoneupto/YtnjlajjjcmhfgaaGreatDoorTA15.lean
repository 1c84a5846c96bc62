import Derived.Test.YtnjlajjjcmhfgaaGreatDoorTA14
import Derived.Test.YtnjlajjjcmhfgaaGreatDoorTA13
import Derived.Sort.Grow
namespace Go.Proofs.YtnjlajjjcmhfgaaGreatDoor
open Go.RowKit Go.Sort
set_option linter.unusedVariables false
set_option linter.unusedSimpArgs false
theorem or8_any (W:World) (ty:TypeId) (v1 v2 v3 v4 v5 v6 v7 v8:Int) :
    Calls Tryz.prog 85 #[.slice (some ⟨W.heap.size,0,none⟩) 8 8] (W.alloc (.cells #[.int .i64 v1,.int .i64 v2,.int .i64 v3,.int .i64 v4,.int .i64 v5,.int .i64 v6,.int .i64 v7,.int .i64 v8] ty)).drew fun e w'=>e= .returned (.int .i64 (orL [v1,v2,v3,v4,v5,v6,v7,v8]))∧(W.alloc (.cells #[.int .i64 v1,.int .i64 v2,.int .i64 v3,.int .i64 v4,.int .i64 v5,.int .i64 v6,.int .i64 v7,.int .i64 v8] ty)).drew=w':=by
  have h:=(Bl.new W ty [.int .i64 v1,.int .i64 v2,.int .i64 v3,.int .i64 v4,.int .i64 v5,.int .i64 v6,.int .i64 v7,.int .i64 v8]).drew.cell
  refine or_any [v1,v2,v3,v4,v5,v6,v7,v8] W.heap.size 0 8 _ (by simp) (fun j x hx=> ?_)
  have hj:=(List.getElem?_eq_some_iff.1 hx).1
  have e:=h j
  rw [Nat.zero_add]
  rcases (show j=0∨j=1∨j=2∨j=3∨j=4∨j=5∨j=6∨j=7 by simp at hj; omega) with rfl|rfl|rfl|rfl|rfl|rfl|rfl|rfl <;>(simp at hx; subst hx; exact e)
set_option maxRecDepth 100000 in
set_option maxHeartbeats 4000000 in
theorem compare_any (a b:Tra) (w:World):Calls Tryz.prog 89 #[.agg #[.int .i64 a.size,.int .u32 a.va,.int .u64 a.pa,.int .i64 a.dom,.int .i64 a.ap,.int .u32 a.bits,.bool a.ng,.bool a.xn],.agg #[.int .i64 b.size,.int .u32 b.va,.int .u64 b.pa,.int .i64 b.dom,.int .i64 b.ap,.int .u32 b.bits,.bool b.ng,.bool b.xn]] w fun e w'=>e= .returned (.int .i64 (cmT a b))∧∃o1 o2 o3,w'=(((w.alloc o1).alloc o2).alloc o3).drew:=by
  have HW:=hidW cmpW_any
  have HI:=hidW cmpI_any
  have HU:=hidW cmpU_any
  have HBB:=hidW cmpB_any
  have HO:=hidW or8_any
  have HX:Hid (Bl ((w.alloc (.cells #[.int .i64 a.size,.int .u32 a.va,.int .u64 a.pa,.int .i64 a.dom,.int .i64 a.ap,.int .u32 a.bits,.bool a.ng,.bool a.xn] 43)).alloc (.cells #[.int .i64 b.size,.int .u32 b.va,.int .u64 b.pa,.int .i64 b.dom,.int .i64 b.ap,.int .u32 b.bits,.bool b.ng,.bool b.xn] 43)) w.heap.size 43 [.int .i64 a.size,.int .u32 a.va,.int .u64 a.pa,.int .i64 a.dom,.int .i64 a.ap,.int .u32 a.bits,.bool a.ng,.bool a.xn]):=(Bl.new _ _ _).below (below_new _ _)
  have HY:Hid (Bl ((w.alloc (.cells #[.int .i64 a.size,.int .u32 a.va,.int .u64 a.pa,.int .i64 a.dom,.int .i64 a.ap,.int .u32 a.bits,.bool a.ng,.bool a.xn] 43)).alloc (.cells #[.int .i64 b.size,.int .u32 b.va,.int .u64 b.pa,.int .i64 b.dom,.int .i64 b.ap,.int .u32 b.bits,.bool b.ng,.bool b.xn] 43)) (w.heap.size+1) 43 [.int .i64 b.size,.int .u32 b.va,.int .u64 b.pa,.int .i64 b.dom,.int .i64 b.ap,.int .u32 b.bits,.bool b.ng,.bool b.xn]):=Bl.new1 _ _ _ _
  have HL:Hid (orL [Lib.compareInt a.va b.va,Lib.compareInt a.size b.size,Lib.compareInt a.pa b.pa,Lib.compareInt a.dom b.dom,Lib.compareInt a.ap b.ap,Lib.compareInt a.bits b.bits,Lib.compareInt (bI a.ng) (bI b.ng),Lib.compareInt (bI a.xn) (bI b.xn)]=cmT a b):=hidW (orL_lex _ _ _ _ _ _ _ _ _ _ _ _ _ _ _ _)
  go_enter Tryz.func89,Tryz.ntmps89
  go_wp2_with fail
  have HE:Hid (∀o,∃o1 o2 o3,(((w.alloc (.cells #[.int .i64 a.size,.int .u32 a.va,.int .u64 a.pa,.int .i64 a.dom,.int .i64 a.ap,.int .u32 a.bits,.bool a.ng,.bool a.xn] 43)).alloc (.cells #[.int .i64 b.size,.int .u32 b.va,.int .u64 b.pa,.int .i64 b.dom,.int .i64 b.ap,.int .u32 b.bits,.bool b.ng,.bool b.xn] 43)).alloc o).drew=(((w.alloc o1).alloc o2).alloc o3).drew):=hidW (fun o=>⟨_,_,_,rfl⟩)
  generalize (w.alloc (.cells #[.int .i64 a.size,.int .u32 a.va,.int .u64 a.pa,.int .i64 a.dom,.int .i64 a.ap,.int .u32 a.bits,.bool a.ng,.bool a.xn] 43)).alloc (.cells #[.int .i64 b.size,.int .u32 b.va,.int .u64 b.pa,.int .i64 b.dom,.int .i64 b.ap,.int .u32 b.bits,.bool b.ng,.bool b.xn] 43)=wr at *
  generalize w.heap.size+1=y at *
  generalize w.heap.size=x at *
  have hS:∀w',Below wr.heap.size wr w'→(w'.cell? ⟨x,0,none⟩=some (.int .i64 a.size)∧w'.cell? ⟨x,1,none⟩=some (.int .u32 a.va)∧w'.cell? ⟨x,2,none⟩=some (.int .u64 a.pa)∧w'.cell? ⟨x,3,none⟩=some (.int .i64 a.dom)∧w'.cell? ⟨x,4,none⟩=some (.int .i64 a.ap)∧w'.cell? ⟨x,5,none⟩=some (.int .u32 a.bits)∧w'.cell? ⟨x,6,none⟩=some (.bool a.ng)∧w'.cell? ⟨x,7,none⟩=some (.bool a.xn)∧w'.cell? ⟨y,0,none⟩=some (.int .i64 b.size)∧w'.cell? ⟨y,1,none⟩=some (.int .u32 b.va)∧w'.cell? ⟨y,2,none⟩=some (.int .u64 b.pa)∧w'.cell? ⟨y,3,none⟩=some (.int .i64 b.dom)∧w'.cell? ⟨y,4,none⟩=some (.int .i64 b.ap)∧w'.cell? ⟨y,5,none⟩=some (.int .u32 b.bits)∧w'.cell? ⟨y,6,none⟩=some (.bool b.ng)∧w'.cell? ⟨y,7,none⟩=some (.bool b.xn)):=fun w' h=>⟨(HX.out.below h).cell 0,(HX.out.below h).cell 1,(HX.out.below h).cell 2,(HX.out.below h).cell 3,(HX.out.below h).cell 4,(HX.out.below h).cell 5,(HX.out.below h).cell 6,(HX.out.below h).cell 7,(HY.out.below h).cell 0,(HY.out.below h).cell 1,(HY.out.below h).cell 2,(HY.out.below h).cell 3,(HY.out.below h).cell 4,(HY.out.below h).cell 5,(HY.out.below h).cell 6,(HY.out.below h).cell 7⟩
  have HB1:=hidW (Below.refl wr.heap.size wr)
  have hs1:=HB1.out.size
  go_region_held3 (fun w'=>w'.cell? ⟨x,0,none⟩=some (.int .i64 a.size)∧w'.cell? ⟨x,1,none⟩=some (.int .u32 a.va)∧w'.cell? ⟨x,2,none⟩=some (.int .u64 a.pa)∧w'.cell? ⟨x,3,none⟩=some (.int .i64 a.dom)∧w'.cell? ⟨x,4,none⟩=some (.int .i64 a.ap)∧w'.cell? ⟨x,5,none⟩=some (.int .u32 a.bits)∧w'.cell? ⟨x,6,none⟩=some (.bool a.ng)∧w'.cell? ⟨x,7,none⟩=some (.bool a.xn)∧w'.cell? ⟨y,0,none⟩=some (.int .i64 b.size)∧w'.cell? ⟨y,1,none⟩=some (.int .u32 b.va)∧w'.cell? ⟨y,2,none⟩=some (.int .u64 b.pa)∧w'.cell? ⟨y,3,none⟩=some (.int .i64 b.dom)∧w'.cell? ⟨y,4,none⟩=some (.int .i64 b.ap)∧w'.cell? ⟨y,5,none⟩=some (.int .u32 b.bits)∧w'.cell? ⟨y,6,none⟩=some (.bool b.ng)∧w'.cell? ⟨y,7,none⟩=some (.bool b.xn)) (exact hS _ (by ((repeat (first|(with_reducible refine Below.setCell ?_ (by first|exact Nat.le_refl _|(dsimp only; omega)) _)|(with_reducible refine Below.alloc ?_ (by first|omega|(simp; omega)|simp) _)|(with_reducible refine below_drew ?_))); (first|(with_reducible exact HB1.out)|(with_reducible exact Below.refl _ _))))) (first|(go_at_call 94; refine (HW.out _ _ _).mono ?_; rintro e w1 ⟨rfl,rfl⟩)|(go_at_call 86; refine (HI.out _ _ _).mono ?_; rintro e w1 ⟨rfl,rfl⟩)|(go_at_call 95; refine (HU.out _ _ _).mono ?_; rintro e w1 ⟨rfl,rfl⟩)|(go_at_call 127; refine (HBB.out _ _ _).mono ?_; rintro e w1 ⟨rfl,rfl⟩)|(go_at_call 85; refine (HO.out _ _ _ _ _ _ _ _ _ _).mono ?_; rintro e w1 ⟨rfl,rfl⟩))
  all_goals
    go_wp2
    go_ret
    exact ⟨by rw [HL.out]; rfl,HE.out _⟩
end Go.Proofs.YtnjlajjjcmhfgaaGreatDoor
