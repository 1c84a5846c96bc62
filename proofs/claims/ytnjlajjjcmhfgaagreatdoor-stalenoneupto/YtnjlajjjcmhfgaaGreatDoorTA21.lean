import Derived.Test.YtnjlajjjcmhfgaaGreatDoorTA16
import Derived.Shelf.SlSortCmp.NoneTotal
import Derived.Ground.SlsfProg
import Derived.Test.YtnjlajjjcmhfgaaGreatDoorProg
import Derived.Test.YtnjlajjjcmhfgaaGreatDoorTA20
namespace Go.Proofs.YtnjlajjjcmhfgaaGreatDoor
open Go.RowKit Go.Sort
set_option linter.unusedVariables false
set_option linter.unusedSimpArgs false
def encB (b:Blo):List Value:=[.int .i64 b.asid,.int .i64 b.t.size,.int .u32 b.t.va,.int .u64 b.t.pa,.int .i64 b.t.dom,.int .i64 b.t.ap,.int .u32 b.t.bits,.bool b.t.ng,.bool b.t.xn]
def encD (d:Dir):List Value:= .int .i64 d.asid::encB d.b
theorem or2_any (W:World) (ty:TypeId) (v1 v2:Int) :
    Calls Tryz.prog 85 #[.slice (some ⟨W.heap.size,0,none⟩) 2 2] (W.alloc (.cells #[.int .i64 v1,.int .i64 v2] ty)).drew fun e w'=>e= .returned (.int .i64 (orL [v1,v2]))∧(W.alloc (.cells #[.int .i64 v1,.int .i64 v2] ty)).drew=w':=by
  have h:=(Bl.new W ty [.int .i64 v1,.int .i64 v2]).drew.cell
  refine or_any [v1,v2] W.heap.size 0 2 _ (by simp) (fun j x hx=> ?_)
  have hj:=(List.getElem?_eq_some_iff.1 hx).1
  have e:=h j
  rw [Nat.zero_add]
  rcases (show j=0∨j=1 by simp at hj; omega) with rfl|rfl <;>(simp at hx; subst hx; exact e)
theorem or2_plain (W:World) (ty:TypeId) (v1 v2:Int) :
    Calls Tryz.prog 85 #[.slice (some ⟨W.heap.size,0,none⟩) 2 2] (W.alloc (.cells #[.int .i64 v1,.int .i64 v2] ty)) fun e w'=>e= .returned (.int .i64 (orL [v1,v2]))∧(W.alloc (.cells #[.int .i64 v1,.int .i64 v2] ty))=w':=by
  have h:=(Bl.new W ty [.int .i64 v1,.int .i64 v2]).cell
  refine or_any [v1,v2] W.heap.size 0 2 _ (by simp) (fun j x hx=> ?_)
  have hj:=(List.getElem?_eq_some_iff.1 hx).1
  have e:=h j
  rw [Nat.zero_add]
  rcases (show j=0∨j=1 by simp at hj; omega) with rfl|rfl <;>(simp at hx; subst hx; exact e)
set_option maxRecDepth 100000 in
set_option maxHeartbeats 4000000 in
theorem compareD_any (a b:Dir) (w:World):Calls Tryz.prog 48 #[.agg (encD a).toArray,.agg (encD b).toArray] w fun e w'=>e= .returned (.int .i64 (cmD a b))∧Below w.heap.size w w'∧w.drawn≤w'.drawn:=by
  simp only [encD,encB]
  have HI:=hidW cmpI_any
  have HC:=hidW compareB_any
  have HO:=hidW or2_any
  have HO2:=hidW or2_plain
  have HX:Hid (Bl ((w.alloc (.cells (encD a).toArray 74)).alloc (.cells (encD b).toArray 74)) w.heap.size 74 (encD a)):=(Bl.new _ _ _).below (below_new _ _)
  have HY:Hid (Bl ((w.alloc (.cells (encD a).toArray 74)).alloc (.cells (encD b).toArray 74)) (w.heap.size+1) 74 (encD b)):=Bl.new1 _ _ _ _
  have HZ:Hid (Below w.heap.size w ((w.alloc (.cells (encD a).toArray 74)).alloc (.cells (encD b).toArray 74))∧w.drawn≤((w.alloc (.cells (encD a).toArray 74)).alloc (.cells (encD b).toArray 74)).drawn):=⟨Below.step (below_new _ _) (below_new _ _),Nat.le_refl _⟩
  have HL:Hid (orL [Lib.compareInt a.asid b.asid,cmB a.b b.b]=cmD a b):=by
    show (if Lib.compareInt a.asid b.asid=0 then (if cmB a.b b.b=0 then 0 else cmB a.b b.b) else _)=(if Lib.compareInt a.asid b.asid=0 then cmB a.b b.b else _)
    split
    · split
      · rename_i h; exact h.symm
      · rfl
    · rfl
  simp only [encD,encB] at HX HY HZ
  go_enter Tryz.func48,Tryz.ntmps48
  go_wp2_with fail
  generalize (w.alloc (.cells #[.int .i64 a.asid,.int .i64 a.b.asid,.int .i64 a.b.t.size,.int .u32 a.b.t.va,.int .u64 a.b.t.pa,.int .i64 a.b.t.dom,.int .i64 a.b.t.ap,.int .u32 a.b.t.bits,.bool a.b.t.ng,.bool a.b.t.xn] 74)).alloc (.cells #[.int .i64 b.asid,.int .i64 b.b.asid,.int .i64 b.b.t.size,.int .u32 b.b.t.va,.int .u64 b.b.t.pa,.int .i64 b.b.t.dom,.int .i64 b.b.t.ap,.int .u32 b.b.t.bits,.bool b.b.t.ng,.bool b.b.t.xn] 74)=wr at *
  generalize w.heap.size+1=y at *
  generalize hxx:w.heap.size=x at *
  have hS:∀w',Below wr.heap.size wr w'→(w'.cell? ⟨x,0,none⟩=some (.int .i64 a.asid)∧w'.cell? ⟨x,1,none⟩=some (.int .i64 a.b.asid)∧w'.cell? ⟨x,2,none⟩=some (.int .i64 a.b.t.size)∧w'.cell? ⟨x,3,none⟩=some (.int .u32 a.b.t.va)∧w'.cell? ⟨x,4,none⟩=some (.int .u64 a.b.t.pa)∧w'.cell? ⟨x,5,none⟩=some (.int .i64 a.b.t.dom)∧w'.cell? ⟨x,6,none⟩=some (.int .i64 a.b.t.ap)∧w'.cell? ⟨x,7,none⟩=some (.int .u32 a.b.t.bits)∧w'.cell? ⟨x,8,none⟩=some (.bool a.b.t.ng)∧w'.cell? ⟨x,9,none⟩=some (.bool a.b.t.xn)∧w'.cell? ⟨y,0,none⟩=some (.int .i64 b.asid)∧w'.cell? ⟨y,1,none⟩=some (.int .i64 b.b.asid)∧w'.cell? ⟨y,2,none⟩=some (.int .i64 b.b.t.size)∧w'.cell? ⟨y,3,none⟩=some (.int .u32 b.b.t.va)∧w'.cell? ⟨y,4,none⟩=some (.int .u64 b.b.t.pa)∧w'.cell? ⟨y,5,none⟩=some (.int .i64 b.b.t.dom)∧w'.cell? ⟨y,6,none⟩=some (.int .i64 b.b.t.ap)∧w'.cell? ⟨y,7,none⟩=some (.int .u32 b.b.t.bits)∧w'.cell? ⟨y,8,none⟩=some (.bool b.b.t.ng)∧w'.cell? ⟨y,9,none⟩=some (.bool b.b.t.xn)):=fun w' h=>⟨(HX.out.below h).cell 0,(HX.out.below h).cell 1,(HX.out.below h).cell 2,(HX.out.below h).cell 3,(HX.out.below h).cell 4,(HX.out.below h).cell 5,(HX.out.below h).cell 6,(HX.out.below h).cell 7,(HX.out.below h).cell 8,(HX.out.below h).cell 9,(HY.out.below h).cell 0,(HY.out.below h).cell 1,(HY.out.below h).cell 2,(HY.out.below h).cell 3,(HY.out.below h).cell 4,(HY.out.below h).cell 5,(HY.out.below h).cell 6,(HY.out.below h).cell 7,(HY.out.below h).cell 8,(HY.out.below h).cell 9⟩
  have HB1:=hidW (Below.refl wr.heap.size wr)
  have hs1:=HB1.out.size
  have HDR:Hid (wr.drawn≤wr.drawn):=Nat.le_refl _
  go_region_held3 (fun w'=>w'.cell? ⟨x,0,none⟩=some (.int .i64 a.asid)∧w'.cell? ⟨x,1,none⟩=some (.int .i64 a.b.asid)∧w'.cell? ⟨x,2,none⟩=some (.int .i64 a.b.t.size)∧w'.cell? ⟨x,3,none⟩=some (.int .u32 a.b.t.va)∧w'.cell? ⟨x,4,none⟩=some (.int .u64 a.b.t.pa)∧w'.cell? ⟨x,5,none⟩=some (.int .i64 a.b.t.dom)∧w'.cell? ⟨x,6,none⟩=some (.int .i64 a.b.t.ap)∧w'.cell? ⟨x,7,none⟩=some (.int .u32 a.b.t.bits)∧w'.cell? ⟨x,8,none⟩=some (.bool a.b.t.ng)∧w'.cell? ⟨x,9,none⟩=some (.bool a.b.t.xn)∧w'.cell? ⟨y,0,none⟩=some (.int .i64 b.asid)∧w'.cell? ⟨y,1,none⟩=some (.int .i64 b.b.asid)∧w'.cell? ⟨y,2,none⟩=some (.int .i64 b.b.t.size)∧w'.cell? ⟨y,3,none⟩=some (.int .u32 b.b.t.va)∧w'.cell? ⟨y,4,none⟩=some (.int .u64 b.b.t.pa)∧w'.cell? ⟨y,5,none⟩=some (.int .i64 b.b.t.dom)∧w'.cell? ⟨y,6,none⟩=some (.int .i64 b.b.t.ap)∧w'.cell? ⟨y,7,none⟩=some (.int .u32 b.b.t.bits)∧w'.cell? ⟨y,8,none⟩=some (.bool b.b.t.ng)∧w'.cell? ⟨y,9,none⟩=some (.bool b.b.t.xn)) (exact hS _ (by ((repeat (first|(with_reducible refine Below.setCell ?_ (by first|exact Nat.le_refl _|(dsimp only; omega)) _)|(with_reducible refine Below.alloc ?_ (by first|omega|(simp; omega)|simp) _)|(with_reducible refine below_drew ?_))); (first|(with_reducible exact HB1.out)|(with_reducible exact Below.refl _ _))))) (first|(go_at_call 86; refine (HI.out _ _ _).mono ?_; rintro e w1 ⟨rfl,rfl⟩)|(go_at_call 55; refine (HC.out _ _ _).mono ?_; rintro e w1 ⟨rfl,hb,hd⟩; have HB2:Hid (Below wr.heap.size wr w1):=Below.step (by ((repeat (first|(with_reducible refine Below.setCell ?_ (by first|exact Nat.le_refl _|(dsimp only; omega)) _)|(with_reducible refine Below.alloc ?_ (by first|omega|(simp; omega)|simp) _)|(with_reducible refine below_drew ?_))); (first|(with_reducible exact HB1.out)|(with_reducible exact Below.refl _ _)))) hb; have HB1:=HB2; have hs1:=HB1.out.size; have HDR2:Hid (wr.drawn≤w1.drawn):=Nat.le_trans HDR.out (Nat.le_trans (Nat.le_succ _) hd); have HDR:=HDR2; clear hb hd)|(go_at_call 85; refine (HO.out _ _ _ _).mono ?_; rintro e w1 ⟨rfl,rfl⟩)|(go_at_call 85; refine (HO2.out _ _ _ _).mono ?_; rintro e w1 ⟨rfl,rfl⟩))
  all_goals
    go_wp2
    go_ret
    have hB:=Below.step (hxx.symm▸HZ.out.1) HB1.out
    exact ⟨by rw [←HL.out]; rfl,hB.alloc hB.size _,Nat.le_trans HZ.out.2 HDR.out⟩
end Go.Proofs.YtnjlajjjcmhfgaaGreatDoor
namespace Go.Proofs.YtnjlajjjcmhfgaaGreatDoor
open Go.Shelf
def Tryz.sortLB_ren:Go.Shelf.Ren:=⟨fun|6=>54|15=>84|14=>93|28=>123|29=>124|20=>128|21=>129|22=>130|23=>131|24=>132|25=>133|26=>134|27=>135|46=>177|47=>165|48=>166|49=>178|50=>179|57=>216|n=>n,fun|22=>31|24=>45|25=>129|3=>3|39=>125|0=>0|53=>32|55=>35|4=>4|46=>201|45=>200|50=>205|5=>5|9=>9|66=>247|70=>250|76=>282|77=>283|n=>n,fun|n=>n⟩
theorem Tryz.sortLB:Go.Proofs.SlLaysF0.n6 Tryz.prog Tryz.sortLB_ren:={
  mixed:=by kernel_rfl
  f6:=⟨Tryz.f54.name,by decide,Tryz.func54.trans (congrArg some (by kernel_rfl))⟩
  f14:=⟨Tryz.f93.name,by decide,Tryz.func93.trans (congrArg some (by kernel_rfl))⟩
  f15:=Tryz.func84.trans (congrArg some (by kernel_rfl))
  f20:=⟨Tryz.f128.name,by decide,Tryz.func128.trans (congrArg some (by kernel_rfl))⟩
  f21:=⟨Tryz.f129.name,by decide,Tryz.func129.trans (congrArg some (by kernel_rfl))⟩
  f22:=⟨Tryz.f130.name,by decide,Tryz.func130.trans (congrArg some (by kernel_rfl))⟩
  f23:=⟨Tryz.f131.name,by decide,Tryz.func131.trans (congrArg some (by kernel_rfl))⟩
  f24:=⟨Tryz.f132.name,by decide,Tryz.func132.trans (congrArg some (by kernel_rfl))⟩
  f25:=⟨Tryz.f133.name,by decide,Tryz.func133.trans (congrArg some (by kernel_rfl))⟩
  f26:=⟨Tryz.f134.name,by decide,Tryz.func134.trans (congrArg some (by kernel_rfl))⟩
  f27:=⟨Tryz.f135.name,by decide,Tryz.func135.trans (congrArg some (by kernel_rfl))⟩
  f28:=Tryz.func123.trans (congrArg some (by kernel_rfl))
  f29:=Tryz.func124.trans (congrArg some (by kernel_rfl))
  f46:=⟨Tryz.f177.name,by decide,Tryz.func177.trans (congrArg some (by kernel_rfl))⟩
  f47:=Tryz.func165.trans (congrArg some (by kernel_rfl))
  f48:=Tryz.func166.trans (congrArg some (by kernel_rfl))
  f49:=⟨Tryz.f178.name,by decide,Tryz.func178.trans (congrArg some (by kernel_rfl))⟩
  f50:=⟨Tryz.f179.name,by decide,Tryz.func179.trans (congrArg some (by kernel_rfl))⟩
  f57:=⟨Tryz.f216.name,by decide,Tryz.func216.trans (congrArg some (by kernel_rfl))⟩
  t0:=Tryz.underlying0
  a0:=Tryz.isAgg0
  z0:=Tryz.sizeOf0
  v0:=Tryz.zeroValue0
  t3:=Tryz.underlying3
  a3:=Tryz.isAgg3
  z3:=Tryz.sizeOf3
  v3:=Tryz.zeroValue3
  t4:=Tryz.underlying4
  a4:=Tryz.isAgg4
  z4:=Tryz.sizeOf4
  v4:=Tryz.zeroValue4
  t5:=Tryz.underlying5
  a5:=Tryz.isAgg5
  z5:=Tryz.sizeOf5
  v5:=Tryz.zeroValue5
  t9:=Tryz.underlying9
  a9:=Tryz.isAgg9
  z9:=Tryz.sizeOf9
  v9:=Tryz.zeroValue9
  t22:=Tryz.underlying31
  a22:=Tryz.isAgg31
  z22:=Tryz.sizeOf31
  v22:=Tryz.zeroValue31
  t25:=Tryz.underlying129
  a25:=Tryz.isAgg129
  z25:=Tryz.sizeOf129
  v25:=Tryz.zeroValue129
  t39:=Tryz.underlying125
  a39:=Tryz.isAgg125
  z39:=Tryz.sizeOf125
  v39:=Tryz.zeroValue125
  t45:=Tryz.underlying200
  a45:=Tryz.isAgg200
  z45:=Tryz.sizeOf200
  v45:=Tryz.zeroValue200
  t46:=Tryz.underlying201
  a46:=Tryz.isAgg201
  z46:=Tryz.sizeOf201
  v46:=Tryz.zeroValue201
  t50:=Tryz.underlying205
  a50:=Tryz.isAgg205
  z50:=Tryz.sizeOf205
  v50:=Tryz.zeroValue205
  t53:=Tryz.underlying32
  a53:=Tryz.isAgg32
  z53:=Tryz.sizeOf32
  v53:=Tryz.zeroValue32
  t55:=Tryz.underlying35
  a55:=Tryz.isAgg35
  z55:=Tryz.sizeOf35
  v55:=Tryz.zeroValue35
  t66:=Tryz.underlying247
  a66:=Tryz.isAgg247
  z66:=Tryz.sizeOf247
  v66:=Tryz.zeroValue247
  t70:=Tryz.underlying250
  a70:=Tryz.isAgg250
  z70:=Tryz.sizeOf250
  v70:=Tryz.zeroValue250
  t76:=Tryz.underlying282
  a76:=Tryz.isAgg282
  z76:=Tryz.sizeOf282
  v76:=Tryz.zeroValue282
  t77:=Tryz.underlying283
  a77:=Tryz.isAgg283
  z77:=Tryz.sizeOf283
  v77:=Tryz.zeroValue283 }
end Go.Proofs.YtnjlajjjcmhfgaaGreatDoor
namespace Go.Proofs.YtnjlajjjcmhfgaaGreatDoor
open Go.Shelf
def Tryz.sortLD_ren:Go.Shelf.Ren:=⟨fun|6=>47|15=>84|14=>83|28=>123|29=>124|20=>115|21=>116|22=>117|23=>118|24=>119|25=>120|26=>121|27=>122|46=>164|47=>165|48=>166|49=>167|50=>168|57=>212|n=>n,fun|22=>48|24=>74|25=>121|3=>3|39=>125|0=>0|53=>32|55=>35|4=>4|46=>201|45=>200|50=>205|5=>5|9=>9|66=>247|70=>250|76=>282|77=>283|n=>n,fun|n=>n⟩
theorem Tryz.sortLD:Go.Proofs.SlLaysF0.n6 Tryz.prog Tryz.sortLD_ren:={
  mixed:=by kernel_rfl
  f6:=⟨Tryz.f47.name,by decide,Tryz.func47.trans (congrArg some (by kernel_rfl))⟩
  f14:=⟨Tryz.f83.name,by decide,Tryz.func83.trans (congrArg some (by kernel_rfl))⟩
  f15:=Tryz.func84.trans (congrArg some (by kernel_rfl))
  f20:=⟨Tryz.f115.name,by decide,Tryz.func115.trans (congrArg some (by kernel_rfl))⟩
  f21:=⟨Tryz.f116.name,by decide,Tryz.func116.trans (congrArg some (by kernel_rfl))⟩
  f22:=⟨Tryz.f117.name,by decide,Tryz.func117.trans (congrArg some (by kernel_rfl))⟩
  f23:=⟨Tryz.f118.name,by decide,Tryz.func118.trans (congrArg some (by kernel_rfl))⟩
  f24:=⟨Tryz.f119.name,by decide,Tryz.func119.trans (congrArg some (by kernel_rfl))⟩
  f25:=⟨Tryz.f120.name,by decide,Tryz.func120.trans (congrArg some (by kernel_rfl))⟩
  f26:=⟨Tryz.f121.name,by decide,Tryz.func121.trans (congrArg some (by kernel_rfl))⟩
  f27:=⟨Tryz.f122.name,by decide,Tryz.func122.trans (congrArg some (by kernel_rfl))⟩
  f28:=Tryz.func123.trans (congrArg some (by kernel_rfl))
  f29:=Tryz.func124.trans (congrArg some (by kernel_rfl))
  f46:=⟨Tryz.f164.name,by decide,Tryz.func164.trans (congrArg some (by kernel_rfl))⟩
  f47:=Tryz.func165.trans (congrArg some (by kernel_rfl))
  f48:=Tryz.func166.trans (congrArg some (by kernel_rfl))
  f49:=⟨Tryz.f167.name,by decide,Tryz.func167.trans (congrArg some (by kernel_rfl))⟩
  f50:=⟨Tryz.f168.name,by decide,Tryz.func168.trans (congrArg some (by kernel_rfl))⟩
  f57:=⟨Tryz.f212.name,by decide,Tryz.func212.trans (congrArg some (by kernel_rfl))⟩
  t0:=Tryz.underlying0
  a0:=Tryz.isAgg0
  z0:=Tryz.sizeOf0
  v0:=Tryz.zeroValue0
  t3:=Tryz.underlying3
  a3:=Tryz.isAgg3
  z3:=Tryz.sizeOf3
  v3:=Tryz.zeroValue3
  t4:=Tryz.underlying4
  a4:=Tryz.isAgg4
  z4:=Tryz.sizeOf4
  v4:=Tryz.zeroValue4
  t5:=Tryz.underlying5
  a5:=Tryz.isAgg5
  z5:=Tryz.sizeOf5
  v5:=Tryz.zeroValue5
  t9:=Tryz.underlying9
  a9:=Tryz.isAgg9
  z9:=Tryz.sizeOf9
  v9:=Tryz.zeroValue9
  t22:=Tryz.underlying48
  a22:=Tryz.isAgg48
  z22:=Tryz.sizeOf48
  v22:=Tryz.zeroValue48
  t25:=Tryz.underlying121
  a25:=Tryz.isAgg121
  z25:=Tryz.sizeOf121
  v25:=Tryz.zeroValue121
  t39:=Tryz.underlying125
  a39:=Tryz.isAgg125
  z39:=Tryz.sizeOf125
  v39:=Tryz.zeroValue125
  t45:=Tryz.underlying200
  a45:=Tryz.isAgg200
  z45:=Tryz.sizeOf200
  v45:=Tryz.zeroValue200
  t46:=Tryz.underlying201
  a46:=Tryz.isAgg201
  z46:=Tryz.sizeOf201
  v46:=Tryz.zeroValue201
  t50:=Tryz.underlying205
  a50:=Tryz.isAgg205
  z50:=Tryz.sizeOf205
  v50:=Tryz.zeroValue205
  t53:=Tryz.underlying32
  a53:=Tryz.isAgg32
  z53:=Tryz.sizeOf32
  v53:=Tryz.zeroValue32
  t55:=Tryz.underlying35
  a55:=Tryz.isAgg35
  z55:=Tryz.sizeOf35
  v55:=Tryz.zeroValue35
  t66:=Tryz.underlying247
  a66:=Tryz.isAgg247
  z66:=Tryz.sizeOf247
  v66:=Tryz.zeroValue247
  t70:=Tryz.underlying250
  a70:=Tryz.isAgg250
  z70:=Tryz.sizeOf250
  v70:=Tryz.zeroValue250
  t76:=Tryz.underlying282
  a76:=Tryz.isAgg282
  z76:=Tryz.sizeOf282
  v76:=Tryz.zeroValue282
  t77:=Tryz.underlying283
  a77:=Tryz.isAgg283
  z77:=Tryz.sizeOf283
  v77:=Tryz.zeroValue283 }
end Go.Proofs.YtnjlajjjcmhfgaaGreatDoor
namespace Go.Proofs.YtnjlajjjcmhfgaaGreatDoor
open Go.RowKit Go.Sort Go.Shelf Go.Lib
open Mm (Turn gr RowAt)
set_option linter.unusedVariables false
set_option linter.unusedSimpArgs false
theorem encB_len (b:Blo):(encB b).length=9:=rfl
theorem encD_len (d:Dir):(encD d).length=10:=rfl
theorem encB_one (b:Blo):∀v∈encB b,v.oneCell'=true:=by
  intro v hv
  simp only [encB,List.mem_cons,List.not_mem_nil,or_false] at hv
  rcases hv with rfl|rfl|rfl|rfl|rfl|rfl|rfl|rfl|rfl <;>rfl
theorem encD_one (d:Dir):∀v∈encD d,v.oneCell'=true:=by
  intro v hv
  rcases List.mem_cons.1 hv with rfl|hv
  · rfl
  · exact encB_one d.b v hv
theorem cmpLaysB [Inhabited Blo] (blk off size:Nat) (w:World):CmpLays Tryz.prog 55 #[] encB 9 cmB blk off size w:=by
  intro m os dk hs x y
  generalize sortWorldK encB 9 w blk off m dk os=W
  refine (show Calls Tryz.prog 55 #[.agg #[.int .i64 x.asid,.int .i64 x.t.size,.int .u32 x.t.va,.int .u64 x.t.pa,.int .i64 x.t.dom,.int .i64 x.t.ap,.int .u32 x.t.bits,.bool x.t.ng,.bool x.t.xn],.agg #[.int .i64 y.asid,.int .i64 y.t.size,.int .u32 y.t.va,.int .u64 y.t.pa,.int .i64 y.t.dom,.int .i64 y.t.ap,.int .u32 y.t.bits,.bool y.t.ng,.bool y.t.xn]] W _ from (compareB_any x y W)).mono ?_
  rintro e w' ⟨rfl,hb,hd⟩
  exact ⟨rfl,grow_of hb hd⟩
theorem cmpLaysD [Inhabited Dir] (blk off size:Nat) (w:World):CmpLays Tryz.prog 48 #[] encD 10 cmD blk off size w:=by
  intro m os dk hs x y
  generalize sortWorldK encD 10 w blk off m dk os=W
  refine (show Calls Tryz.prog 48 #[.agg (encD x).toArray,.agg (encD y).toArray] W _ from (compareD_any x y W)).mono ?_
  rintro e w' ⟨rfl,hb,hd⟩
  exact ⟨rfl,grow_of hb hd⟩
theorem swoB:SWO (ltOf cmB):=⟨ltB_irrefl,ltB_trans,ltB_ntrans⟩
theorem swoD:SWO (ltOf cmD):=⟨ltD_irrefl,ltD_trans,ltD_ntrans⟩
theorem sortB_none (p:Option Addr) (cap:Nat) (w:World):Calls Tryz.prog 54 #[.slice p 0 cap,.func (.func 55) #[] #[]] w fun e w'=>e= .returned (.tuple #[])∧w'=w :=
  AnyF.slices_SortFunc_none (P:=Tryz.prog) (ρ:=Tryz.sortLB_ren) { Tryz.sortLB with } p cap _ w
theorem sortD_none (p:Option Addr) (cap:Nat) (w:World):Calls Tryz.prog 47 #[.slice p 0 cap,.func (.func 48) #[] #[]] w fun e w'=>e= .returned (.tuple #[])∧w'=w :=
  AnyF.slices_SortFunc_none (P:=Tryz.prog) (ρ:=Tryz.sortLD_ren) { Tryz.sortLD with } p cap _ w
theorem sortB_row (w:World) (g cap:Nat) (l:List Blo) (rest:List Value) (hR:RowAt w g 45 (rowG encB l++rest)) (hl:l.length<4611686018427387904) :
    Calls Tryz.prog 54 #[.slice (some ⟨g,0,none⟩) l.length cap,.func (.func 55) #[] #[]] w fun e w'=>e= .returned (.tuple #[])∧RowAt w' g 45 (rowG encB (soB l)++rest)∧Turn (fun x=>x=g) w w':=by
  haveI:Inhabited Blo:=⟨bZ⟩
  have eg:∀args w,(callFunc 55 args).run Tryz.prog w= .ok (.enter 55 args) w:=enters_of Tryz.func55 (by kernel_rfl) rfl
  have h:=AnyQ.slices_SortFunc_total Tryz.sortLB 9 (fun w=>by kernel_rfl) (fun w=>by kernel_rfl) encB encB_len encB_one cmB swoB 55 #[] g 0 cap l.toArray w eg (cmpLaysB g 0 _ w) (holdsG encB_len (by decide) hR) hR.lt (by simpa using hl) ltB_tot
  refine (show Calls Tryz.prog 54 #[.slice (some ⟨g,0,none⟩) l.length cap,.func (.func 55) #[] #[]] w _ from h).mono ?_
  rintro e w' ⟨rfl,n,os,rfl⟩
  have hs:=sortedG (m:=soB l) (n:=n) (os:=os) encB_len (by decide) hR (List.mergeSort_perm _ _).length_eq
  exact ⟨rfl,hs.1,hs.2⟩
theorem sortD_row (w:World) (g cap:Nat) (l:List Dir) (rest:List Value) (hR:RowAt w g 74 (rowG encD l++rest)) (hl:l.length<4611686018427387904) :
    Calls Tryz.prog 47 #[.slice (some ⟨g,0,none⟩) l.length cap,.func (.func 48) #[] #[]] w fun e w'=>e= .returned (.tuple #[])∧RowAt w' g 74 (rowG encD (soD l)++rest)∧Turn (fun x=>x=g) w w':=by
  haveI:Inhabited Dir:=⟨⟨0,bZ⟩⟩
  have eg:∀args w,(callFunc 48 args).run Tryz.prog w= .ok (.enter 48 args) w:=enters_of Tryz.func48 (by kernel_rfl) rfl
  have h:=AnyQ.slices_SortFunc_total Tryz.sortLD 10 (fun w=>by kernel_rfl) (fun w=>by kernel_rfl) encD encD_len encD_one cmD swoD 48 #[] g 0 cap l.toArray w eg (cmpLaysD g 0 _ w) (holdsG encD_len (by decide) hR) hR.lt (by simpa using hl) ltD_tot
  refine (show Calls Tryz.prog 47 #[.slice (some ⟨g,0,none⟩) l.length cap,.func (.func 48) #[] #[]] w _ from h).mono ?_
  rintro e w' ⟨rfl,n,os,rfl⟩
  have hs:=sortedG (m:=soD l) (n:=n) (os:=os) encD_len (by decide) hR (List.mergeSort_perm _ _).length_eq
  exact ⟨rfl,hs.1,hs.2⟩
theorem infoB:(Tryz.prog.info? 45).map (fun i=>(i.zero,i.size,i.bytes))=some (some (.agg (encB bZ).toArray),9,56):=by kernel_rfl
theorem infoD:(Tryz.prog.info? 74).map (fun i=>(i.zero,i.size,i.bytes))=some (some (.agg (encD ⟨0,bZ⟩).toArray),10,64):=by kernel_rfl
end Go.Proofs.YtnjlajjjcmhfgaaGreatDoor
namespace Go.Proofs.YtnjlajjjcmhfgaaGreatDoor
open Go.RowKit Go.Sort Go.Shelf Go.Lib
open Mm (Turn gr RowAt)
set_option linter.unusedVariables false
set_option linter.unusedSimpArgs false
theorem KM.len {w:World} {kb:Nat} {K:List Blo} (h:KM w kb K) (hn:K.Nodup) (hK:∀b∈K,KOk b) (ty:TypeId):(Builtin.len_ #[115] ty #[.map (some kb)]).run Tryz.prog w= .ok (.int .i64 (K.length:Nat)) w:=by
  obtain ⟨D,h1,_,h3⟩:=h.size hn hK
  rw [h1.len Tryz.underlying115 ty,h3]
theorem makeB (W:World) (n:Nat) (hn:n*56≤140737488355328):∃cur,(Instr.makeSlice 31 (.int .i64 0) (.int .i64 (n:Int))).run Tryz.prog W= .ok (.slice (some ⟨W.heap.size,0,none⟩) 0 n) (W.alloc (.cells cur 45))∧cur.size=n*9:=by
  obtain ⟨i,hi,hz,h1,h2⟩:=info_parts infoB
  have h:=run_make (P:=Tryz.prog) W 31 45 i _ Tryz.underlying31 hi hz .i64 .i64 0 n (by omega) (by omega) (by rw [h2]; omega) (by omega)
  refine ⟨_,h,?_⟩
  rw [size_madeCells,h1]
  simp
structure KnX (W wr:World) (p kb jb r:Nat) (K T L:List Blo) (v:Value):Prop where
  bel:Below W.heap.size W wr
  kr:KR wr kb r K T
  own:wr.ownsRow W.heap.size 45 9 v L.length (rowG encB L)
  nod:L.Nodup
  mem:∀b,b∈L↔b∈K∧b∉T
  sub:∀b∈T,b∈K
section
variable {W wr w':World} {p kb jb r:Nat} {K T L:List Blo} {v:Value}
theorem own_ne {w:World} {lo n k:Nat} {T:TypeId} {v:Value} {xs:List Value} (h:w.ownsRow lo T k v n xs) {g:Nat} (hg:v.ownBlock=some g):∃c e f,w.heap[g]? =some (.cells c e f):=by
  obtain ⟨_,⟨rfl,_⟩|⟨b,cap,cur,rfl,_,hb,_⟩⟩:=h
  · cases hg
  · cases hg
    exact ⟨_,_,_,hb⟩
end
theorem KR.own {w:World} {kb r:Nat} {K T:List Blo} (h:KR w kb r K T) {c:Array Value} {e:TypeId} {f:Nat×Nat} {g:Nat} (hg:w.heap[g]? =some (.cells c e f)):g≠kb∧g≠r:=by
  obtain ⟨n,D,left,cnt,⟨es,cl,since,seen,c0,hb,f,s,d,hi,rest⟩,h2⟩:=h
  constructor
  · rintro rfl
    rw [hb] at hg; cases hg
  · rintro rfl
    rw [hi] at hg; cases hg
structure KnY (W wr:World) (kb r bb:Nat) (K T L:List Blo) (v:Value) (b:Blo):Prop where
  bel:Below W.heap.size W wr
  kr:KR wr kb r K (rm T b)
  own:wr.ownsRow W.heap.size 45 9 v L.length (rowG encB L)
  nod:L.Nodup
  mem:∀b,b∈L↔b∈K∧b∉T
  sub:∀b∈T,b∈K
  hb:b∈T
  bb:Bl wr bb 45 (encB b)
theorem KnY.app {W wr:World} {p kb jb r bb:Nat} {K T L:List Blo} {v:Value} {b:Blo} (h:KnY W wr kb r bb K T L v b) (hK:K.Nodup) (hl:K.length*56≤140737488355328) :
    ∃v' w',(∀ty,(Builtin.append_ #[31,31] ty #[v,.slice (some ⟨wr.heap.size,0,none⟩) 1 1]).run Tryz.prog (wr.alloc (.cells (encB b).toArray 45))= .ok v' w')∧KnX W w' p kb jb r K (rm T b) (L++[b]) v'∧w'.rangeLeft kb r=wr.rangeLeft kb r:=by
  have hbK:=h.sub b h.hb
  have hbL:b∉L:=fun hx=>((h.mem b).1 hx).2 h.hb
  have hL:L.length+1≤K.length:=by
    have:(b::L).length≤K.length:=nodup_len (List.pairwise_cons.2 ⟨fun x hx e=>hbL (e▸hx),h.nod⟩) (fun x hx=>by
      rcases List.mem_cons.1 hx with rfl|hx
      · exact hbK
      · exact ((h.mem x).1 hx).1)
    simpa using this
  obtain ⟨v',w',hr,ho,T1,hg⟩:=appG (by':=56) encB_len encB_one Tryz.underlying31 infoB rfl wr W.heap.size v L b h.own h.bel.size (Nat.le_trans (Nat.mul_le_mul_right 56 hL) hl) (by omega)
  have hX:∀x,v.ownBlock=some x→W.heap.size≤x∧x≠kb∧x≠r:=fun x hx=>by
    obtain ⟨c,e,f,hc⟩:=own_ne h.own hx
    exact ⟨(World.ownsRow.lt h.own x hx).1,h.kr.own hc⟩
  have hkr:=h.kr.lt
  refine ⟨v',w',hr,⟨h.bel.trans (T1.to (fun x hx=>(hX x hx).1) h.bel.size),h.kr.turn T1 (fun hx=>(hX _ hx).2.1 rfl) (fun hx=>(hX _ hx).2.2 rfl),ho,?_,fun x=> ?_,fun x hx=>h.sub x (mem_rm.1 hx).1⟩,turn_left T1 hkr.2 hkr.1 (fun hx=>(hX _ hx).2.1 rfl) (fun hx=>(hX _ hx).2.2 rfl)⟩
  · exact List.pairwise_append.2 ⟨h.nod,by simp,fun x hx y hy e=>by
      rw [List.mem_singleton] at hy
      exact hbL (hy▸e▸hx)⟩
  · rw [List.mem_append,h.mem,List.mem_singleton,mem_rm]
    constructor
    · rintro (⟨h1,h2⟩|rfl)
      · exact ⟨h1,fun h3=>h2 h3.1⟩
      · exact ⟨hbK,fun h3=>h3.2 rfl⟩
    · rintro ⟨h1,h2⟩
      by_cases e:x=b
      · exact .inr e
      · exact .inl ⟨h1,fun h3=>h2 ⟨h3,e⟩⟩
set_option maxRecDepth 100000 in
set_option maxHeartbeats 4000000 in
theorem known_any (W:World) (p kb jb:Nat) (K:List Blo) (J:Jud) (h:PK W p kb jb K J) (hl:K.length*56≤140737488355328) :
    Calls Tryz.prog 20 #[.pointer (some ⟨p,0,none⟩)] W fun e w'=>∃v,e= .returned v∧LtG encB 45 w' W.heap.size v K∧Below W.heap.size W w':=by
  have hnd:=h.ok.ri.nodup
  have hlen:=fun ty=>h.km.len hnd h.ok.ok ty
  obtain ⟨cur,hmk,hcs⟩:=makeB W K.length hl
  have c0:=h.c0
  have hb0:=below_new W (.cells cur 45)
  have h0:=h.below hb0
  have d0:=h0.c0
  obtain ⟨w2,hr2,hk2,hg2,hs2⟩:=h0.km.range
  have T2:Turn (fun _=>False) (W.alloc (.cells cur 45)) w2:=Turn.grown hg2 (fun k e=>by cases e)
  have hB2:Below W.heap.size W w2:=((Turn.below (S:=fun _=>False) hb0).then T2).to (fun x hx=>hx.elim) (Nat.le_refl _)
  have hrow:Bl (W.alloc (.cells cur 45)) W.heap.size 45 cur.toList:=by
    have:=Bl.new W 45 cur.toList
    rwa [Array.toArray_toList] at this
  have HX:Hid (KnX W w2 p kb jb (W.alloc (.cells cur 45)).heap.size K K [] (.slice (some ⟨W.heap.size,0,none⟩) 0 K.length)):=by
    refine ⟨hB2,hk2,⟨rfl,.inr ⟨W.heap.size,K.length,cur,rfl,Nat.le_refl _,?_,Nat.zero_le _,by unfold maxLen; omega,hcs,rfl⟩⟩,.nil,fun b=>⟨(fun h=>by cases h),fun ⟨h1,h2⟩=>absurd h1 h2⟩,fun b hb=>hb⟩
    have:=hrow.turn T2 (fun h=>h)
    rwa [show Bl w2 W.heap.size 45 cur.toList=(w2.heap[W.heap.size]? =some (.cells cur.toList.toArray 45 (0,0))) from rfl,Array.toArray_toList] at this
  have HO:=hidW h.ok
  have HP:=hidW (h.below hb0)
  clear h h0 hk2 hg2 hb0 T2 hB2 hrow
  generalize hrr:(W.alloc (.cells cur 45)).heap.size=r at *
  have hrW:W.heap.size≤r:=by rw [←hrr]; simp
  go_enter Tryz.func20,Tryz.ntmps20
  go_wp2
  clear hr2 c0 d0 hs2 hrr hlen hmk hcs
  go_loopw [3] (fun s wr=>∃(T L:List Blo) (v:Value),v=s∧Hid (KnX W wr p kb jb r K T L v)) (fun _ wr=>wr.rangeLeft kb r)
  case atStart=>exact ⟨K,[],_,rfl,HX⟩
  case round =>
    obtain ⟨T,L,v,rfl,HX1⟩:=hrel
    clear HX
    have hTo:∀x∈T,KOk x:=fun x hx=>HO.out.ok x (HX1.out.sub x hx)
    rcases HX1.out.kr.next hTo 0 with ⟨rfl,hnx⟩|⟨b,w1,hb,hnx,hk1,hg1,hs1,hen,hlt⟩
    · have hx:=HX1.out
      have hLK:∀b,b∈L↔b∈K:=fun b=>by rw [hx.mem]; exact ⟨fun h=>h.1,fun h=>⟨h,by simp⟩⟩
      have hso:soB L=K:=soB_eq hx.nod HO.out.ri hLK
      have hll:L.length=K.length:=by rw [←hso]; exact (List.mergeSort_perm _ _).length_eq.symm
      rcases LtG.own encB_len hx.own with ⟨rfl,rfl⟩|⟨g,cap,rest,rfl,hg,hR⟩
      · have hK0:K=[]:=List.eq_nil_of_length_eq_zero hll.symm
        have HB:=hidW hx.bel
        clear hx HX1 hLK hso hll
        go_wp2_with (go_at_call 54; refine (sortB_none _ _ _).mono ?_; rintro e w3 ⟨rfl,rfl⟩)
        go_ret
        exact ⟨_,rfl,⟨none,0,by rw [hK0]; rfl,.inl hK0⟩,HB.out⟩
      · have HS:=hidW (sortB_row wr g cap L rest hR (by omega))
        rw [hso] at HS
        have HB:=hidW hx.bel
        have HG:=hidW hg
        have HLL:=hidW hll
        clear hx HX1 hLK hso hg hR hll
        go_wp2_with (go_at_call 54; refine HS.out.mono ?_; rintro e w3 ⟨rfl,hR3,T3⟩)
        go_ret
        exact ⟨_,rfl,⟨some ⟨g,0,none⟩,cap,by rw [←HLL.out]; rfl,.inr ⟨g,rest,rfl,HG.out,hR3⟩⟩,HB.out.trans (T3.to (fun x hx=>by subst hx; exact HG.out) HB.out.size)⟩
    · have T1:Turn (· =r) wr w1:=Turn.grown hg1 (fun k e=>by cases e; exact .inl rfl)
      have hx:=HX1.out
      have hbn:=below_new w1 (.cells (encB b).toArray 45)
      have hB1:Below W.heap.size W w1:=hx.bel.trans (T1.to (fun x hx=>by subst hx; exact hrW) hx.bel.size)
      have hO1:w1.ownsRow W.heap.size 45 9 v L.length (rowG encB L):=Mm.own_turn hx.own T1 (fun g hg e=>by
        obtain ⟨c,ee,f,hc⟩:=own_ne hx.own hg
        exact (hx.kr.own hc).2 e)
      have HY:Hid (KnY W (w1.alloc (.cells (encB b).toArray 45)) kb r w1.heap.size K T L v b) :=
        ⟨hB1.alloc hB1.size _,hk1.turn (X:=fun _=>False) (Turn.below hbn) (fun h=>h) (fun h=>h),Mm.own_turn hO1 (Turn.below (S:=fun _=>False) hbn) (fun _ _ h=>h),hx.nod,hx.mem,hx.sub,hb,Bl.new w1 _ _⟩
      obtain ⟨v',w4,happ,hx4,hl4⟩:=HY.out.app (p:=p) (jb:=jb) hnd hl
      have HL:Hid (w4.rangeLeft kb r<wr.rangeLeft kb r):=by
        have e1:(w1.alloc (.cells (encB b).toArray 45)).rangeLeft kb r=w1.rangeLeft kb r:=turn_left (X:=fun _=>False) (Turn.below hbn) hk1.lt.2 hk1.lt.1 (fun h=>h) (fun h=>h)
        show w4.rangeLeft kb r<wr.rangeLeft kb r
        omega
      have HX4:=hidW hx4
      have cB:=HY.out.bb.cell
      have hsz:(w1.alloc (.cells (encB b).toArray 45)).heap.size=w1.heap.size+1:=by simp
      rw [hsz] at happ
      simp only [encB] at happ cB
      clear HY hx4 hl4 hO1 hB1 hbn hx T1 HX1 hk1 hg1 hlt hTo hb hs1 hsz
      go_wp2_with (at_builtin; refine Lib.wpList_append_run _ rfl _ _ 31 31 rfl _ _ rfl rfl _ _ (happ _) ?_; clear happ)
      go_roundw
      case rel=>exact ⟨rm T b,L++[b],_,rfl,HX4⟩
      case measure=>exact HL.out
end Go.Proofs.YtnjlajjjcmhfgaaGreatDoor
