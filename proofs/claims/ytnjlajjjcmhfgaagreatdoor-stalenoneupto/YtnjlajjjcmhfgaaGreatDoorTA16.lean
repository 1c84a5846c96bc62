import Derived.Test.YtnjlajjjcmhfgaaGreatDoorTA24
import Derived.Test.YtnjlajjjcmhfgaaGreatDoorTA14
import Derived.Test.YtnjlajjjcmhfgaaGreatDoorTA13
import Derived.Sort.Grow
import Derived.Deep.CutRange
import Derived.Deep.RegionHeld3
namespace Go.Proofs.YtnjlajjjcmhfgaaGreatDoor
open Go.RowKit Go.Sort
set_option linter.unusedVariables false
set_option linter.unusedSimpArgs false
theorem rank_any (b:Bool) (w:World):Calls Tryz.prog 96 #[.bool b] w fun e w'=>e= .returned (.int .i64 (bI b))∧w=w':=by
  cases b
  all_goals
    go_enter Tryz.func96,Tryz.ntmps96
    go_wp2
    go_ret
    exact ⟨rfl,rfl⟩
theorem or9_any (W:World) (ty:TypeId) (v1 v2 v3 v4 v5 v6 v7 v8 v9:Int) :
    Calls Tryz.prog 85 #[.slice (some ⟨W.heap.size,0,none⟩) 9 9] (W.alloc (.cells #[.int .i64 v1,.int .i64 v2,.int .i64 v3,.int .i64 v4,.int .i64 v5,.int .i64 v6,.int .i64 v7,.int .i64 v8,.int .i64 v9] ty)).drew fun e w'=>e= .returned (.int .i64 (orL [v1,v2,v3,v4,v5,v6,v7,v8,v9]))∧(W.alloc (.cells #[.int .i64 v1,.int .i64 v2,.int .i64 v3,.int .i64 v4,.int .i64 v5,.int .i64 v6,.int .i64 v7,.int .i64 v8,.int .i64 v9] ty)).drew=w':=by
  have h:=(Bl.new W ty [.int .i64 v1,.int .i64 v2,.int .i64 v3,.int .i64 v4,.int .i64 v5,.int .i64 v6,.int .i64 v7,.int .i64 v8,.int .i64 v9]).drew.cell
  refine or_any [v1,v2,v3,v4,v5,v6,v7,v8,v9] W.heap.size 0 9 _ (by simp) (fun j x hx=> ?_)
  have hj:=(List.getElem?_eq_some_iff.1 hx).1
  have e:=h j
  rw [Nat.zero_add]
  rcases (show j=0∨j=1∨j=2∨j=3∨j=4∨j=5∨j=6∨j=7∨j=8 by simp at hj; omega) with rfl|rfl|rfl|rfl|rfl|rfl|rfl|rfl|rfl <;>(simp at hx; subst hx; exact e)
structure Tw (w wx:World) (x y:Nat) (u v:Tra):Prop where
  bel:Below w.heap.size w wx
  U:Bl wx x 43 ([.int .i64 u.size,.int .u32 u.va,.int .u64 u.pa,.int .i64 u.dom,.int .i64 u.ap,.int .u32 u.bits,.bool u.ng,.bool u.xn])
  V:Bl wx y 43 ([.int .i64 v.size,.int .u32 v.va,.int .u64 v.pa,.int .i64 v.dom,.int .i64 v.ap,.int .u32 v.bits,.bool v.ng,.bool v.xn])
  dr:w.drawn≤wx.drawn
theorem tw1 (w:World) (u v:Tra):Tw w ((w.alloc (.cells ([.int .i64 u.size,.int .u32 u.va,.int .u64 u.pa,.int .i64 u.dom,.int .i64 u.ap,.int .u32 u.bits,.bool u.ng,.bool u.xn]).toArray 43)).alloc (.cells ([.int .i64 v.size,.int .u32 v.va,.int .u64 v.pa,.int .i64 v.dom,.int .i64 v.ap,.int .u32 v.bits,.bool v.ng,.bool v.xn]).toArray 43)).drew w.heap.size (w.heap.size+1) u v :=
  ⟨below_drew (Below.step (below_new _ _) (below_new _ _)),((Bl.new w _ _).below (below_new _ _)).drew,(Bl.new1 _ _ _ _).drew,Nat.le_succ _⟩
theorem tw2 (w:World) (u v:Tra):Tw w ((w.alloc (.cells ([.int .i64 v.size,.int .u32 v.va,.int .u64 v.pa,.int .i64 v.dom,.int .i64 v.ap,.int .u32 v.bits,.bool v.ng,.bool v.xn]).toArray 43)).alloc (.cells ([.int .i64 u.size,.int .u32 u.va,.int .u64 u.pa,.int .i64 u.dom,.int .i64 u.ap,.int .u32 u.bits,.bool u.ng,.bool u.xn]).toArray 43)).drew (w.heap.size+1) w.heap.size u v :=
  ⟨below_drew (Below.step (below_new _ _) (below_new _ _)),(Bl.new1 _ _ _ _).drew,((Bl.new w _ _).below (below_new _ _)).drew,Nat.le_succ _⟩
set_option maxRecDepth 100000 in
set_option maxHeartbeats 4000000 in
theorem compareB_any (a b:Blo) (w:World):Calls Tryz.prog 55 #[.agg #[.int .i64 a.asid,.int .i64 a.t.size,.int .u32 a.t.va,.int .u64 a.t.pa,.int .i64 a.t.dom,.int .i64 a.t.ap,.int .u32 a.t.bits,.bool a.t.ng,.bool a.t.xn],.agg #[.int .i64 b.asid,.int .i64 b.t.size,.int .u32 b.t.va,.int .u64 b.t.pa,.int .i64 b.t.dom,.int .i64 b.t.ap,.int .u32 b.t.bits,.bool b.t.ng,.bool b.t.xn]] w fun e w'=>e= .returned (.int .i64 (cmB a b))∧Below w.heap.size w w'∧w.drawn≤w'.drawn:=by
  have HW:=hidW cmpW_any
  have HI:=hidW cmpI_any
  have HU:=hidW cmpU_any
  have HBB:=hidW rank_any
  have HO:=hidW or9_any
  have HX:Hid (Bl ((w.alloc (.cells ([.int .i64 a.asid,.int .i64 a.t.size,.int .u32 a.t.va,.int .u64 a.t.pa,.int .i64 a.t.dom,.int .i64 a.t.ap,.int .u32 a.t.bits,.bool a.t.ng,.bool a.t.xn]).toArray 45)).alloc (.cells ([.int .i64 b.asid,.int .i64 b.t.size,.int .u32 b.t.va,.int .u64 b.t.pa,.int .i64 b.t.dom,.int .i64 b.t.ap,.int .u32 b.t.bits,.bool b.t.ng,.bool b.t.xn]).toArray 45)) w.heap.size 45 ([.int .i64 a.asid,.int .i64 a.t.size,.int .u32 a.t.va,.int .u64 a.t.pa,.int .i64 a.t.dom,.int .i64 a.t.ap,.int .u32 a.t.bits,.bool a.t.ng,.bool a.t.xn])):=(Bl.new _ _ _).below (below_new _ _)
  have HY:Hid (Bl ((w.alloc (.cells ([.int .i64 a.asid,.int .i64 a.t.size,.int .u32 a.t.va,.int .u64 a.t.pa,.int .i64 a.t.dom,.int .i64 a.t.ap,.int .u32 a.t.bits,.bool a.t.ng,.bool a.t.xn]).toArray 45)).alloc (.cells ([.int .i64 b.asid,.int .i64 b.t.size,.int .u32 b.t.va,.int .u64 b.t.pa,.int .i64 b.t.dom,.int .i64 b.t.ap,.int .u32 b.t.bits,.bool b.t.ng,.bool b.t.xn]).toArray 45)) (w.heap.size+1) 45 ([.int .i64 b.asid,.int .i64 b.t.size,.int .u32 b.t.va,.int .u64 b.t.pa,.int .i64 b.t.dom,.int .i64 b.t.ap,.int .u32 b.t.bits,.bool b.t.ng,.bool b.t.xn])):=Bl.new1 _ _ _ _
  have HZ:Hid (Below w.heap.size w ((w.alloc (.cells ([.int .i64 a.asid,.int .i64 a.t.size,.int .u32 a.t.va,.int .u64 a.t.pa,.int .i64 a.t.dom,.int .i64 a.t.ap,.int .u32 a.t.bits,.bool a.t.ng,.bool a.t.xn]).toArray 45)).alloc (.cells ([.int .i64 b.asid,.int .i64 b.t.size,.int .u32 b.t.va,.int .u64 b.t.pa,.int .i64 b.t.dom,.int .i64 b.t.ap,.int .u32 b.t.bits,.bool b.t.ng,.bool b.t.xn]).toArray 45))∧w.drawn≤((w.alloc (.cells ([.int .i64 a.asid,.int .i64 a.t.size,.int .u32 a.t.va,.int .u64 a.t.pa,.int .i64 a.t.dom,.int .i64 a.t.ap,.int .u32 a.t.bits,.bool a.t.ng,.bool a.t.xn]).toArray 45)).alloc (.cells ([.int .i64 b.asid,.int .i64 b.t.size,.int .u32 b.t.va,.int .u64 b.t.pa,.int .i64 b.t.dom,.int .i64 b.t.ap,.int .u32 b.t.bits,.bool b.t.ng,.bool b.t.xn]).toArray 45)).drawn):=⟨Below.step (below_new _ _) (below_new _ _),Nat.le_refl _⟩
  have HL:Hid (orL [Lib.compareInt a.asid b.asid,Lib.compareInt a.t.size b.t.size,Lib.compareInt a.t.va b.t.va,Lib.compareInt a.t.pa b.t.pa,Lib.compareInt a.t.dom b.t.dom,Lib.compareInt a.t.ap b.t.ap,Lib.compareInt a.t.bits b.t.bits,Lib.compareInt (bI a.t.ng) (bI b.t.ng),Lib.compareInt (bI a.t.xn) (bI b.t.xn)]=cmB a b):=hidW rfl
  go_enter Tryz.func55,Tryz.ntmps55
  go_wp2_with fail
  generalize (w.alloc (.cells ([.int .i64 a.asid,.int .i64 a.t.size,.int .u32 a.t.va,.int .u64 a.t.pa,.int .i64 a.t.dom,.int .i64 a.t.ap,.int .u32 a.t.bits,.bool a.t.ng,.bool a.t.xn]).toArray 45)).alloc (.cells ([.int .i64 b.asid,.int .i64 b.t.size,.int .u32 b.t.va,.int .u64 b.t.pa,.int .i64 b.t.dom,.int .i64 b.t.ap,.int .u32 b.t.bits,.bool b.t.ng,.bool b.t.xn]).toArray 45)=wr at *
  generalize w.heap.size+1=y at *
  generalize hxx:w.heap.size=x at *
  have hS:∀w',Below wr.heap.size wr w'→(w'.cell? ⟨x,0,none⟩=some (.int .i64 a.asid)∧w'.cell? ⟨x,1,none⟩=some (.int .i64 a.t.size)∧w'.cell? ⟨x,2,none⟩=some (.int .u32 a.t.va)∧w'.cell? ⟨x,3,none⟩=some (.int .u64 a.t.pa)∧w'.cell? ⟨x,4,none⟩=some (.int .i64 a.t.dom)∧w'.cell? ⟨x,5,none⟩=some (.int .i64 a.t.ap)∧w'.cell? ⟨x,6,none⟩=some (.int .u32 a.t.bits)∧w'.cell? ⟨x,7,none⟩=some (.bool a.t.ng)∧w'.cell? ⟨x,8,none⟩=some (.bool a.t.xn)∧w'.cell? ⟨y,0,none⟩=some (.int .i64 b.asid)∧w'.cell? ⟨y,1,none⟩=some (.int .i64 b.t.size)∧w'.cell? ⟨y,2,none⟩=some (.int .u32 b.t.va)∧w'.cell? ⟨y,3,none⟩=some (.int .u64 b.t.pa)∧w'.cell? ⟨y,4,none⟩=some (.int .i64 b.t.dom)∧w'.cell? ⟨y,5,none⟩=some (.int .i64 b.t.ap)∧w'.cell? ⟨y,6,none⟩=some (.int .u32 b.t.bits)∧w'.cell? ⟨y,7,none⟩=some (.bool b.t.ng)∧w'.cell? ⟨y,8,none⟩=some (.bool b.t.xn)):=fun w' h=>⟨(HX.out.below h).cell 0,(HX.out.below h).cell 1,(HX.out.below h).cell 2,(HX.out.below h).cell 3,(HX.out.below h).cell 4,(HX.out.below h).cell 5,(HX.out.below h).cell 6,(HX.out.below h).cell 7,(HX.out.below h).cell 8,(HY.out.below h).cell 0,(HY.out.below h).cell 1,(HY.out.below h).cell 2,(HY.out.below h).cell 3,(HY.out.below h).cell 4,(HY.out.below h).cell 5,(HY.out.below h).cell 6,(HY.out.below h).cell 7,(HY.out.below h).cell 8⟩
  have HB1:=hidW (Below.refl wr.heap.size wr)
  have hs1:=HB1.out.size
  go_cut [5,6] from 7 to 10 (fun s1 s2 wx=>∃b1 b2,s1= .pointer (some ⟨b1,0,none⟩)∧s2= .pointer (some ⟨b2,0,none⟩)∧Hid (Tw wr wx b1 b2 a.t b.t))
  case first =>
    go_region_held3 (fun w'=>w'.cell? ⟨x,0,none⟩=some (.int .i64 a.asid)∧w'.cell? ⟨x,1,none⟩=some (.int .i64 a.t.size)∧w'.cell? ⟨x,2,none⟩=some (.int .u32 a.t.va)∧w'.cell? ⟨x,3,none⟩=some (.int .u64 a.t.pa)∧w'.cell? ⟨x,4,none⟩=some (.int .i64 a.t.dom)∧w'.cell? ⟨x,5,none⟩=some (.int .i64 a.t.ap)∧w'.cell? ⟨x,6,none⟩=some (.int .u32 a.t.bits)∧w'.cell? ⟨x,7,none⟩=some (.bool a.t.ng)∧w'.cell? ⟨x,8,none⟩=some (.bool a.t.xn)∧w'.cell? ⟨y,0,none⟩=some (.int .i64 b.asid)∧w'.cell? ⟨y,1,none⟩=some (.int .i64 b.t.size)∧w'.cell? ⟨y,2,none⟩=some (.int .u32 b.t.va)∧w'.cell? ⟨y,3,none⟩=some (.int .u64 b.t.pa)∧w'.cell? ⟨y,4,none⟩=some (.int .i64 b.t.dom)∧w'.cell? ⟨y,5,none⟩=some (.int .i64 b.t.ap)∧w'.cell? ⟨y,6,none⟩=some (.int .u32 b.t.bits)∧w'.cell? ⟨y,7,none⟩=some (.bool b.t.ng)∧w'.cell? ⟨y,8,none⟩=some (.bool b.t.xn)) (exact hS _ (by ((repeat (first|(with_reducible refine Below.setCell ?_ (by first|exact Nat.le_refl _|(dsimp only; omega)) _)|(with_reducible refine Below.alloc ?_ (by first|omega|(simp; omega)|simp) _)|(with_reducible refine below_drew ?_))); (first|(with_reducible exact HB1.out)|(with_reducible exact Below.refl _ _))))) (fail)
    all_goals
      go_wp2_with fail
      go_meet
      first
        | exact ⟨_,_,rfl,rfl,hidW (tw1 _ _ _)⟩
        | exact ⟨_,_,rfl,rfl,hidW (tw2 _ _ _)⟩
  case rest =>
    obtain ⟨b1,b2,rfl,rfl,HG⟩:=hcut
    have hx0:wc.cell? ⟨x,0,none⟩=some (.int .i64 a.asid):=(HX.out.below HG.out.bel).cell 0
    have hy0:wc.cell? ⟨y,0,none⟩=some (.int .i64 b.asid):=(HY.out.below HG.out.bel).cell 0
    have HX2:=hidW (HX.out.below HG.out.bel)
    have HY2:=hidW (HY.out.below HG.out.bel)
    have HZ2:Hid (Below w.heap.size w wc∧w.drawn≤wc.drawn):=⟨Below.step (hxx.symm▸HZ.out.1) HG.out.bel,Nat.le_trans HZ.out.2 HG.out.dr⟩
    clear hS HB1 hs1 HX HY HZ hx0 hy0
    have hS:∀w',Below wc.heap.size wc w'→(w'.cell? ⟨x,0,none⟩=some (.int .i64 a.asid)∧w'.cell? ⟨y,0,none⟩=some (.int .i64 b.asid)∧w'.cell? ⟨b1,0,none⟩=some (.int .i64 a.t.size)∧w'.cell? ⟨b1,1,none⟩=some (.int .u32 a.t.va)∧w'.cell? ⟨b1,2,none⟩=some (.int .u64 a.t.pa)∧w'.cell? ⟨b1,3,none⟩=some (.int .i64 a.t.dom)∧w'.cell? ⟨b1,4,none⟩=some (.int .i64 a.t.ap)∧w'.cell? ⟨b1,5,none⟩=some (.int .u32 a.t.bits)∧w'.cell? ⟨b1,6,none⟩=some (.bool a.t.ng)∧w'.cell? ⟨b1,7,none⟩=some (.bool a.t.xn)∧w'.cell? ⟨b2,0,none⟩=some (.int .i64 b.t.size)∧w'.cell? ⟨b2,1,none⟩=some (.int .u32 b.t.va)∧w'.cell? ⟨b2,2,none⟩=some (.int .u64 b.t.pa)∧w'.cell? ⟨b2,3,none⟩=some (.int .i64 b.t.dom)∧w'.cell? ⟨b2,4,none⟩=some (.int .i64 b.t.ap)∧w'.cell? ⟨b2,5,none⟩=some (.int .u32 b.t.bits)∧w'.cell? ⟨b2,6,none⟩=some (.bool b.t.ng)∧w'.cell? ⟨b2,7,none⟩=some (.bool b.t.xn)):=fun w' h=>⟨(HX2.out.below h).cell 0,(HY2.out.below h).cell 0,(HG.out.U.below h).cell 0,(HG.out.U.below h).cell 1,(HG.out.U.below h).cell 2,(HG.out.U.below h).cell 3,(HG.out.U.below h).cell 4,(HG.out.U.below h).cell 5,(HG.out.U.below h).cell 6,(HG.out.U.below h).cell 7,(HG.out.V.below h).cell 0,(HG.out.V.below h).cell 1,(HG.out.V.below h).cell 2,(HG.out.V.below h).cell 3,(HG.out.V.below h).cell 4,(HG.out.V.below h).cell 5,(HG.out.V.below h).cell 6,(HG.out.V.below h).cell 7⟩
    have HB1:=hidW (Below.refl wc.heap.size wc)
    have hs1:=HB1.out.size
    go_wp2_with fail
    go_region_held3 (fun w'=>w'.cell? ⟨x,0,none⟩=some (.int .i64 a.asid)∧w'.cell? ⟨y,0,none⟩=some (.int .i64 b.asid)∧w'.cell? ⟨b1,0,none⟩=some (.int .i64 a.t.size)∧w'.cell? ⟨b1,1,none⟩=some (.int .u32 a.t.va)∧w'.cell? ⟨b1,2,none⟩=some (.int .u64 a.t.pa)∧w'.cell? ⟨b1,3,none⟩=some (.int .i64 a.t.dom)∧w'.cell? ⟨b1,4,none⟩=some (.int .i64 a.t.ap)∧w'.cell? ⟨b1,5,none⟩=some (.int .u32 a.t.bits)∧w'.cell? ⟨b1,6,none⟩=some (.bool a.t.ng)∧w'.cell? ⟨b1,7,none⟩=some (.bool a.t.xn)∧w'.cell? ⟨b2,0,none⟩=some (.int .i64 b.t.size)∧w'.cell? ⟨b2,1,none⟩=some (.int .u32 b.t.va)∧w'.cell? ⟨b2,2,none⟩=some (.int .u64 b.t.pa)∧w'.cell? ⟨b2,3,none⟩=some (.int .i64 b.t.dom)∧w'.cell? ⟨b2,4,none⟩=some (.int .i64 b.t.ap)∧w'.cell? ⟨b2,5,none⟩=some (.int .u32 b.t.bits)∧w'.cell? ⟨b2,6,none⟩=some (.bool b.t.ng)∧w'.cell? ⟨b2,7,none⟩=some (.bool b.t.xn)) (exact hS _ (by ((repeat (first|(with_reducible refine Below.setCell ?_ (by first|exact Nat.le_refl _|(dsimp only; omega)) _)|(with_reducible refine Below.alloc ?_ (by first|omega|(simp; omega)|simp) _)|(with_reducible refine below_drew ?_))); (first|(with_reducible exact HB1.out)|(with_reducible exact Below.refl _ _))))) (first|(go_at_call 94; refine (HW.out _ _ _).mono ?_; rintro e w1 ⟨rfl,rfl⟩)|(go_at_call 86; refine (HI.out _ _ _).mono ?_; rintro e w1 ⟨rfl,rfl⟩)|(go_at_call 95; refine (HU.out _ _ _).mono ?_; rintro e w1 ⟨rfl,rfl⟩)|(go_at_call 96; refine (HBB.out _ _).mono ?_; rintro e w1 ⟨rfl,rfl⟩)|(go_at_call 85; refine (HO.out _ _ _ _ _ _ _ _ _ _ _).mono ?_; rintro e w1 ⟨rfl,rfl⟩))
    all_goals
      go_wp2
      go_ret
      refine ⟨by rw [←HL.out]; rfl,below_drew (HZ2.out.1.alloc HZ2.out.1.size _),Nat.le_succ_of_le HZ2.out.2⟩
end Go.Proofs.YtnjlajjjcmhfgaaGreatDoor
