import Derived.Test.YtkmgmmmpiallhaaDoorQe
namespace Go.Proofs.YtkmgmmmpiallhaaDoor
set_option linter.unusedVariables false
theorem has_15 (q:RowJ) (w:Nat) (c:UInt8):(hasJ q c && ((fvP c w q.pat:Nat):Int) == 15)=(((fvP c w q.pat:Nat):Int) == 15):=by
  by_cases h:0<cnt c q.pat
  · rw [hasJ,decide_eq_true h,Bool.true_and]
  · rw [fv_none c q.pat w (by omega),hasJ,decide_eq_false h]; rfl
theorem any15_say (q:RowJ) (w:Nat):any15J q (sayJ q w)=((sayJ q w).rd == 15 || ((sayJ q w).rn == 15 || ((sayJ q w).rm == 15 || ((sayJ q w).rs == 15 || (sayJ q w).ra == 15)))):=by
  have a:=has_15 q w 100
  have b:=has_15 q w 110
  have c:=has_15 q w 109
  have d:=has_15 q w 114
  have e:=has_15 q w 97
  show ((hasJ q 100 && ((fvP 100 w q.pat:Nat):Int) == 15) || ((hasJ q 110 && ((fvP 110 w q.pat:Nat):Int) == 15) || ((hasJ q 109 && ((fvP 109 w q.pat:Nat):Int) == 15) || ((hasJ q 114 && ((fvP 114 w q.pat:Nat):Int) == 15) || (hasJ q 97 && ((fvP 97 w q.pat:Nat):Int) == 15)))))=_
  rw [a,b,c,d,e]
  rfl
def mayK (q:RowJ):Bool:=(q.form !=3 || (q.ops.all (fun o=>decide (o≤16)) && cnt 97 q.pat == 0)) && (q.ops.all (fun o=>decide (o<17) || (decide (30<o) || cnt 110 q.pat == 0)) && (q.form !=1 || cnt 109 q.pat == 0))
theorem may_plain (q:RowJ) (i:Ins) (hf:i.form=q.form) (ha:any15J q i=(i.rd == 15 || (i.rn == 15 || (i.rm == 15 || (i.rs == 15 || i.ra == 15))))) (h3:q.form=3→i.op≤16∧i.ra=0) (h17:17≤i.op→i.op≤30→i.rn=0) (h1:q.form=1→i.rm=0):mayP i=mayJ q i:=by
  unfold mayP mayJ
  by_cases hc:i.cond=15
  · rw [if_pos hc,if_pos (Or.inl hc)]
  rw [if_neg hc]
  by_cases hf3:q.form=3
  · obtain ⟨ho,hra⟩:=h3 hf3
    rw [if_pos (by rw [hf,hf3]),ha,hra]
    by_cases hany:(i.rd == 15 || (i.rn == 15 || (i.rm == 15 || (i.rs == 15 || (0:Int) == 15))))=true
    · rw [if_pos (Or.inr ⟨hf3,hany⟩)]
      have:(i.rd == 15 || (i.rn == 15 || (i.rm == 15 || i.rs == 15)))=true:=by
        rw [←hany]; simp
      rw [this]; rfl
    · have g2:¬(i.cond=15∨q.form=3∧(i.rd == 15 || (i.rn == 15 || (i.rm == 15 || (i.rs == 15 || (0:Int) == 15))))=true):=by
        rintro (h|⟨_,h⟩)
        · exact hc h
        · exact hany h
      rw [if_neg g2]
      have:(i.rd == 15 || (i.rn == 15 || (i.rm == 15 || i.rs == 15)))=false:=by
        rw [Bool.not_eq_true] at hany
        rw [←hany]; simp
      rw [this,if_neg (by omega),if_neg (by omega),if_neg (by omega),if_neg (by omega),if_neg (by omega),if_neg (by omega),if_neg (by omega)]; rfl
  · have g1:¬i.form=3:=by rw [hf]; exact hf3
    have g2:¬(i.cond=15∨q.form=3∧any15J q i=true):=by
      rintro (h|⟨h,_⟩)
      · exact hc h
      · exact hf3 h
    rw [if_neg g1,if_neg g2]
    by_cases h17':17≤i.op∧i.op≤30
    · rw [if_pos h17',if_pos h17',ha,h17 h17'.1 h17'.2]
      have:isLongP i.op= !(decide (i.op<21) || decide (24<i.op)):=by
        rw [isLongP]
        by_cases x:21≤i.op <;>by_cases y:i.op≤24 <;>simp [x,y] <;>omega
      rw [this,show ((0:Int) == 15)=false from rfl,Bool.false_or]
      congr 1
      simp only [bne]
      cases decide (i.op<21) <;>cases decide (24<i.op) <;>cases (i.rd == i.ra) <;>rfl
    rw [if_neg h17',if_neg h17']
    by_cases h31:31≤i.op∧i.op≤38
    · have:isOneP i.op=true:=by rw [isOneP]; simp [h31.1,h31.2]
      rw [if_pos this,if_pos h31,oneMayP,movesP,this]
      have hm:(!(i.rm == 15))=(q.form == 1 || i.rm !=15):=by
        by_cases e:q.form=1
        · rw [h1 e,e]; rfl
        · rw [beq_eq_false_iff_ne.2 e]; rfl
      rw [hm]
      cases i.write <;>cases i.pre <;>cases (i.rn == 15) <;>cases (i.rn == i.rd) <;>simp [bne]
    have:isOneP i.op=false:=by rw [isOneP]; by_cases x:31≤i.op <;>by_cases y:i.op≤38 <;>simp [x,y] <;>omega
    rw [if_neg (by rw [this]; decide),if_neg h31]
    by_cases h39:i.op=39∨i.op=40
    · rw [if_pos h39,if_pos h39,manyMayP]
      cases (i.list == 0) <;>cases (i.rn == 15) <;>cases i.write <;>cases lsP i.list i.rn <;>simp
    rw [if_neg h39,if_neg h39]
    by_cases h43:i.op=43∨i.op=44
    · rw [if_pos h43,if_pos h43]; rfl
    rw [if_neg h43,if_neg h43]
    by_cases h46:i.op=46
    · rw [if_pos h46,if_neg (by omega),if_neg (by omega),if_pos h46]
    rw [if_neg h46,if_neg h46]
    by_cases h47:i.op=47∨i.op=49∨i.op=50
    · rw [if_pos h47,if_pos h47]; rfl
    rw [if_neg h47,if_neg h47]
    by_cases h48:i.op=48
    · rw [if_pos h48,if_pos h48]
      by_cases e:q.form=1
      · rw [h1 e,e]; rfl
      · rw [beq_eq_false_iff_ne.2 e]; rfl
    rw [if_neg h48,if_neg h48]
theorem may_eq {q:RowJ} {w:Nat} (hk:mayK q=true) (ho:q.ops.contains (opJ q w)=true):mayP (sayJ q w)=mayJ q (sayJ q w):=by
  simp only [mayK,Bool.and_eq_true] at hk
  obtain ⟨k1,k2,k3⟩:=hk
  have hmem:opJ q w∈q.ops:=by simpa using ho
  refine may_plain q _ rfl (any15_say q w) ?_ ?_ ?_
  · intro h3
    rw [h3,show ((3:Int) !=3)=false from rfl,Bool.false_or,Bool.and_eq_true] at k1
    have:=List.all_eq_true.1 k1.1 _ hmem
    refine ⟨(by simpa using this:opJ q w≤16),?_⟩
    show ((fvP 97 w q.pat:Nat):Int)=0
    rw [fv_none 97 q.pat w (by simpa using k1.2)]; rfl
  · intro h17 h30
    have:=List.all_eq_true.1 k2 _ hmem
    show ((fvP 110 w q.pat:Nat):Int)=0
    have h17':17≤opJ q w:=h17
    have h30':opJ q w≤30:=h30
    simp only [Bool.or_eq_true,decide_eq_true_eq,beq_iff_eq] at this
    rw [fv_none 110 q.pat w (by omega)]; rfl
  · intro h1
    rw [h1,show ((1:Int) !=1)=false from rfl,Bool.false_or] at k3
    show ((fvP 109 w q.pat:Nat):Int)=0
    rw [fv_none 109 q.pat w (by simpa using k3)]; rfl
end Go.Proofs.YtkmgmmmpiallhaaDoor
