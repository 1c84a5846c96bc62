import Derived.Test.YtnjlajjjcmhfgaaGreatDoorTA07
import Derived.Test.YtnjlajjjcmhfgaaGreatDoorTA04
namespace Go.Proofs.YtnjlajjjcmhfgaaGreatDoor
open Go.RowKit
set_option linter.unusedVariables false
set_option linter.unusedSimpArgs false
def lfB (ap bt:Int):Bool:=decide (0≤ap) && (decide (ap≤7) && decide (bt≤63))
end Go.Proofs.YtnjlajjjcmhfgaaGreatDoor
namespace Go.Proofs.YtnjlajjjcmhfgaaGreatDoor
open Go.RowKit
set_option linter.unusedVariables false
set_option linter.unusedSimpArgs false
end Go.Proofs.YtnjlajjjcmhfgaaGreatDoor
namespace Go.Proofs.YtnjlajjjcmhfgaaGreatDoor
open Go.RowKit
set_option linter.unusedVariables false
set_option linter.unusedSimpArgs false
end Go.Proofs.YtnjlajjjcmhfgaaGreatDoor
namespace Go.Proofs.YtnjlajjjcmhfgaaGreatDoor
open Go.RowKit
set_option linter.unusedVariables false
set_option linter.unusedSimpArgs false
theorem nz {e:Ent} (h:e.kind≠0):¬e=dZ:=fun g=>h (dZ_kind g)
theorem lfB_iff (ap bt:Int):lfB ap bt=true↔0≤ap∧ap≤7∧bt≤63:=by simp [lfB]
theorem bool2 (e:Ent) (hO:Ok e) (h:e.kind=2):((decide (e.base%1048576=0) && decide (e.base<4294967296)) && ((decide (0≤e.dom) && decide (e.dom≤15)) && lfB e.ap e.bits))=(D1 (E e)).same e:=by
  apply Bool.eq_iff_iff.2
  rw [Ent.same_iff,says1_iff e hO]
  have:=nz (e:=e) (by omega)
  simp only [Bool.and_eq_true,decide_eq_true_eq,lfB_iff,Says1,leafOk,h,this,false_or,true_and]
  constructor
  · rintro ⟨⟨a,b⟩,⟨c,d⟩,f⟩
    exact .inr (.inl ⟨⟨a,b⟩,⟨c,d⟩,f⟩)
  · rintro (⟨g,_⟩|⟨⟨a,b⟩,⟨c,d⟩,f⟩|⟨g,_⟩)
    · exact absurd g (by decide)
    · exact ⟨⟨a,b⟩,⟨c,d⟩,f⟩
    · exact absurd g (by decide)
theorem bool3 (e:Ent) (hO:Ok e) (h:e.kind=3):((decide (e.base%16777216=0) && decide (e.base<1099511627776)) && ((e.dom == 0) && lfB e.ap e.bits))=(D1 (E e)).same e:=by
  apply Bool.eq_iff_iff.2
  rw [Ent.same_iff,says1_iff e hO]
  have:=nz (e:=e) (by omega)
  simp only [Bool.and_eq_true,decide_eq_true_eq,beq_iff_eq,lfB_iff,Says1,leafOk,h,this,false_or,true_and]
  constructor
  · rintro ⟨⟨a,b⟩,c,f⟩
    exact .inr (.inr ⟨⟨a,b⟩,c,f⟩)
  · rintro (⟨g,_⟩|⟨g,_⟩|⟨⟨a,b⟩,c,f⟩)
    · exact absurd g (by decide)
    · exact absurd g (by decide)
    · exact ⟨⟨a,b⟩,c,f⟩
theorem bool4 (e:Ent) (hO:Ok e) (h:e.kind=4):((decide (e.base%65536=0) && decide (e.base<4294967296)) && ((e.dom == 0) && (!e.ns && lfB e.ap e.bits)))=(D2 (E e)).same e:=by
  apply Bool.eq_iff_iff.2
  rw [Ent.same_iff,says2_iff e hO]
  have:=nz (e:=e) (by omega)
  simp only [Bool.and_eq_true,decide_eq_true_eq,beq_iff_eq,lfB_iff,Says2,leafOk,h,this,false_or,true_and,Bool.not_eq_true']
  constructor
  · rintro ⟨⟨a,b⟩,c,d,f⟩
    exact .inl ⟨⟨a,b⟩,c,d,f⟩
  · rintro (⟨⟨a,b⟩,c,d,f⟩|⟨g,_⟩)
    · exact ⟨⟨a,b⟩,c,d,f⟩
    · exact absurd g (by decide)
theorem bool5 (e:Ent) (hO:Ok e) (h:e.kind=5):((decide (e.base%4096=0) && decide (e.base<4294967296)) && ((e.dom == 0) && (!e.ns && lfB e.ap e.bits)))=(D2 (E e)).same e:=by
  apply Bool.eq_iff_iff.2
  rw [Ent.same_iff,says2_iff e hO]
  have:=nz (e:=e) (by omega)
  simp only [Bool.and_eq_true,decide_eq_true_eq,beq_iff_eq,lfB_iff,Says2,leafOk,h,this,false_or,true_and,Bool.not_eq_true']
  constructor
  · rintro ⟨⟨a,b⟩,c,d,f⟩
    exact .inr ⟨⟨a,b⟩,c,d,f⟩
  · rintro (⟨g,_⟩|⟨⟨a,b⟩,c,d,f⟩)
    · exact absurd g (by decide)
    · exact ⟨⟨a,b⟩,c,d,f⟩
end Go.Proofs.YtnjlajjjcmhfgaaGreatDoor
namespace Go.Proofs.YtnjlajjjcmhfgaaGreatDoor
open Go.RowKit
set_option linter.unusedVariables false
set_option linter.unusedSimpArgs false
theorem trF_eq (e:Ent) (t:Tra) (dm va:Int) (ht:1≤t.size):trF e dm va=t↔(sb e=true∧0≤domOf e dm∧domOf e dm≤15)∧szK e.kind=t.size∧va / byN (szK e.kind)*byN (szK e.kind)=t.va∧e.base=t.pa∧domOf e dm=t.dom∧e.ap=t.ap∧e.bits=t.bits∧e.ng=t.ng∧e.xn=t.xn:=by
  obtain ⟨t1,t2,t3,t4,t5,t6,t7,t8⟩:=t
  unfold trF
  split
  · rename_i h
    simp only [Tra.mk.injEq,h,true_and]
  · rename_i h
    constructor
    · intro g
      have:=congrArg Tra.size g
      simp only [tZ] at this ht
      omega
    · intro g
      exact absurd g.1 h
def RR (t:Tra):Prop:=t.va%byN t.size=0∧(0≤t.ap∧t.ap≤7∧t.bits≤63)∧(0≤t.dom∧t.dom≤15)∧(t.pa%byN t.size=0∧(if t.size=4 then t.pa<1099511627776∧t.dom=0 else t.pa<4294967296))
theorem ri_iff (t:Tra) (hO:Ok (enF t)) (hs:1≤t.size∧t.size≤4):riF t=true↔RR t:=by
  have q:(decide (1≤t.size) && decide (t.size≤4))=true:=by simp [hs]
  unfold riF
  rw [q,Bool.true_and,Tra.same_iff,trF_eq _ _ _ _ hs.1]
  obtain ⟨s,t2,t3,t4,t5,t6,t7,t8⟩:=t
  simp only at hs hO
  rcases (show s=1∨s=2∨s=3∨s=4 by omega) with rfl|rfl|rfl|rfl
  · have hb:sb (enF ⟨1,t2,t3,t4,t5,t6,t7,t8⟩)=(D2 (E (enF ⟨1,t2,t3,t4,t5,t6,t7,t8⟩))).same (enF ⟨1,t2,t3,t4,t5,t6,t7,t8⟩):=rfl
    rw [hb,←bool5 _ hO rfl]
    have e1:domOf (enF ⟨1,t2,t3,t4,t5,t6,t7,t8⟩) t4=t4:=rfl
    have e2:byN (szK (enF ⟨1,t2,t3,t4,t5,t6,t7,t8⟩).kind)=4096:=rfl
    have e3:szK (enF ⟨1,t2,t3,t4,t5,t6,t7,t8⟩).kind=1:=rfl
    have e4:byN 1=4096:=rfl
    simp only [e1,e3,e4]
    simp only [Bool.and_eq_true,decide_eq_true_eq,beq_iff_eq,lfB_iff,enF,RR,e4,Bool.not_eq_true',and_true,true_and,show ¬((1:Int)=3) from by decide,show ¬((1:Int)=4) from by decide,if_false]
    omega
  · have hb:sb (enF ⟨2,t2,t3,t4,t5,t6,t7,t8⟩)=(D2 (E (enF ⟨2,t2,t3,t4,t5,t6,t7,t8⟩))).same (enF ⟨2,t2,t3,t4,t5,t6,t7,t8⟩):=rfl
    rw [hb,←bool4 _ hO rfl]
    have e1:domOf (enF ⟨2,t2,t3,t4,t5,t6,t7,t8⟩) t4=t4:=rfl
    have e3:szK (enF ⟨2,t2,t3,t4,t5,t6,t7,t8⟩).kind=2:=rfl
    have e4:byN 2=65536:=rfl
    simp only [e1,e3,e4]
    simp only [Bool.and_eq_true,decide_eq_true_eq,beq_iff_eq,lfB_iff,enF,RR,e4,Bool.not_eq_true',and_true,true_and,show ¬((2:Int)=3) from by decide,show ¬((2:Int)=4) from by decide,if_false]
    omega
  · have hb:sb (enF ⟨3,t2,t3,t4,t5,t6,t7,t8⟩)=(D1 (E (enF ⟨3,t2,t3,t4,t5,t6,t7,t8⟩))).same (enF ⟨3,t2,t3,t4,t5,t6,t7,t8⟩):=rfl
    rw [hb,←bool2 _ hO rfl]
    have e1:domOf (enF ⟨3,t2,t3,t4,t5,t6,t7,t8⟩) t4=t4:=rfl
    have e3:szK (enF ⟨3,t2,t3,t4,t5,t6,t7,t8⟩).kind=3:=rfl
    have e4:byN 3=1048576:=rfl
    simp only [e1,e3,e4]
    simp only [Bool.and_eq_true,decide_eq_true_eq,beq_iff_eq,lfB_iff,enF,RR,e4,Bool.not_eq_true',and_true,true_and,show ¬((3:Int)=4) from by decide,if_false,if_true]
    omega
  · have hb:sb (enF ⟨4,t2,t3,t4,t5,t6,t7,t8⟩)=(D1 (E (enF ⟨4,t2,t3,t4,t5,t6,t7,t8⟩))).same (enF ⟨4,t2,t3,t4,t5,t6,t7,t8⟩):=rfl
    rw [hb,←bool3 _ hO rfl]
    have e1:domOf (enF ⟨4,t2,t3,t4,t5,t6,t7,t8⟩) t4=0:=rfl
    have e3:szK (enF ⟨4,t2,t3,t4,t5,t6,t7,t8⟩).kind=4:=rfl
    have e4:byN 4=16777216:=rfl
    simp only [e1,e3,e4]
    simp only [Bool.and_eq_true,decide_eq_true_eq,beq_iff_eq,lfB_iff,enF,RR,e4,Bool.not_eq_true',and_true,true_and,show ¬((4:Int)=3) from by decide,if_false,if_true]
    omega
end Go.Proofs.YtnjlajjjcmhfgaaGreatDoor
