import Derived.Test.YtkmgmmmpiallhaaDoorPi
namespace Go.Proofs.YtkmgmmmpiallhaaDoor
open Go.RowKit
set_option linter.unusedVariables false
set_option linter.unusedSimpArgs false
theorem if_i {a b:Int} {w:World} {B:Bool} {X:Result Bool} (h:X= .ok B w):(if a=b then X else .ok false w)= .ok (a == b && B) w:=by
  by_cases e:a=b
  · rw [if_pos e,h,beq_iff_eq.2 e]; rfl
  · rw [if_neg e,beq_eq_false_iff_ne.2 e]; rfl
theorem if_b {a b:Bool} {w:World} {B:Bool} {X:Result Bool} (h:X= .ok B w):(if a=b then X else .ok false w)= .ok (a == b && B) w:=by
  by_cases e:a=b
  · rw [if_pos e,h,beq_iff_eq.2 e]; rfl
  · rw [if_neg e,beq_eq_false_iff_ne.2 e]; rfl
theorem if_l {a b:Int} {w:World}:(if a=b then Result.ok true w else .ok false w)= .ok (a == b) w:=by
  by_cases e:a=b
  · rw [if_pos e,beq_iff_eq.2 e]
  · rw [if_neg e,beq_eq_false_iff_ne.2 e]
set_option maxRecDepth 100000 in
theorem eqI (i j:Ins) (w:World):(Op.equalIn 10000 28 (.agg (insA i)) (.agg (insA j))).run Tryd.prog w= .ok (i.same j) w:=by
  obtain ⟨a1,a2,a3,a4,a5,a6,a7,a8,a9,a10,a11,a12,a13,a14,a15,a16,a17,a18,a19,a20⟩:=i
  obtain ⟨b1,b2,b3,b4,b5,b6,b7,b8,b9,b10,b11,b12,b13,b14,b15,b16,b17,b18,b19,b20⟩:=j
  simp only [insA,insL,Ins.same]
  go_simp
  exact (if_i (if_i (if_b (if_i (if_i (if_i (if_i (if_i (if_i (if_i (if_i (if_i (if_b (if_b (if_b (if_i (if_i (if_i (if_i if_l)))))))))))))))))))
end Go.Proofs.YtkmgmmmpiallhaaDoor
