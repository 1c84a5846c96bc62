import Derived.Test.YtkmgmmmpiallhaaDoorRy
import Derived.Test.YtkmgmmmpiallhaaDoorRyB
import Derived.Test.YtkmgmmmpiallhaaDoorRyC
import Derived.Test.YtkmgmmmpiallhaaDoorRyD
import Derived.Test.YtkmgmmmpiallhaaDoorRw
namespace Go.Proofs.YtkmgmmmpiallhaaDoor
open Go.RowKit
set_option linter.unusedVariables false
set_option linter.unusedSimpArgs false
set_option maxRecDepth 100000 in
set_option maxHeartbeats 400000 in
theorem writes_none (i:Ins) (w:World) (hi:IOk i) (he:encJ i=none):Calls Tryd.prog 19 #[.agg (insA i)] w fun e w'=>e= .returned (.int .u16 0)∧Below w.heap.size w w':=by
  show Calls Tryd.prog 19 #[.agg (insL i).toArray] w fun e w'=>e= .returned (.int .u16 0)∧Below w.heap.size w w'
  have HE:Hid (∀w',Calls Tryd.prog 16 #[.agg (insL i).toArray] w' fun e w''=>e= .returned (.tuple #[.int .u32 0,.int .i64 190])∧Below w'.heap.size w' w''):=fun w'=>by
    have:=jenc_any i w' hi
    rw [he] at this
    exact this
  have HB:=hidW (AX.first w (insL i))
  have HS1:Hid ((Tryd.prog.info? 28).map (·.size)=some (insL i).length):=ins_size
  clear hi he
  generalize insL i=II at *
  go_enter Tryd.func19,Tryd.ntmps19
  go_wp2_with (first
    | (guard_target =~ wpList _ _ _ (Oper.mk (some 9) _ _ _ _ _::_) _ _; refine wpList_load_mid rfl _ _ rfl w.heap.size 0 rfl _ _ HB.out.res.range Tryd.underlying28 rfl HS1.out ?_)
    | (go_at_call 16; refine (HE.out _).mono ?_; rintro e w0 ⟨rfl,hb⟩; have HB:=hidW (HB.out.step hb); clear hb HE))
  exact bodyPost_ret (v:= .int .u16 0) (by simp [results,Tryd.results19,go_sem]) rfl ⟨rfl,HB.out.bel⟩
set_option maxRecDepth 100000 in
theorem writes_some (i:Ins) (w:World) (y:Nat) (ON:Bool→Int→Int) (C:Bool)
    (HE:Hid (∀w',Calls Tryd.prog 16 #[.agg (insL i).toArray] w' fun e w''=>e= .returned (.tuple #[.int .u32 (y:Int),.int .i64 0])∧Below w'.heap.size w' w''))
    (HO:Hid (∀b (n:Int) w',0≤n∧n<16→Calls Tryd.prog 38 #[.bool b,.int .i64 n] w' fun e w''=>e= .returned (.int .u16 (ON b n))∧w''=w'))
    (H1:Hid (∀b w',Sl w' b [33,35,37,38,47,50]→Calls Tryd.prog 36 #[.slice (some ⟨b,0,none⟩) 6 6,.int .i64 i.op] w' fun e w''=>e= .returned (.bool C)∧w''=w'))
    (hn:0≤i.rn∧i.rn<16) (ha:0≤i.ra∧i.ra<16) (hd:0≤i.rd∧i.rd<16) (h1:1≤i.op) (h2:i.op≤52) (RDF BKF:Bool)
    (hR:RDF=(decide (i.op≤8) || (decide (13≤i.op) && decide (i.op≤31) || C))) (hK:BKF=((decide (31≤i.op) && decide (i.op≤38)) && (i.write || !i.pre) || (i.op == 39 || i.op == 40) && i.write)) :
    Calls Tryd.prog 19 #[.agg (insL i).toArray] w fun e w'=>e= .returned (.int .u16 (bif (i.op == 39) then bits .or .u16 (bits .or .u16 (bits .or .u16 (bits .or .u16 (bits .or .u16 (ON RDF i.rd) (ON (decide (21≤i.op) && decide (i.op≤24)) i.ra)) (ON BKF i.rn)) (ON (i.op == 42 || i.op == 44) 14)) (ON (decide (41≤i.op) && decide (i.op≤44)) 15)) i.list else bits .or .u16 (bits .or .u16 (bits .or .u16 (bits .or .u16 (ON RDF i.rd) (ON (decide (21≤i.op) && decide (i.op≤24)) i.ra)) (ON BKF i.rn)) (ON (i.op == 42 || i.op == 44) 14)) (ON (decide (41≤i.op) && decide (i.op≤44)) 15)))∧Below w.heap.size w w':=by
  have F:∀ {p:Prop} [Decidable p],¬p→decide p=false:=fun h=>decide_eq_false h
  have T:∀ {p:Prop} [Decidable p],p→decide p=true:=fun h=>decide_eq_true h
  have N:∀ {k:Int},i.op≠k→(i.op == k)=false:=fun h=>beq_eq_false_iff_ne.2 h
  have Y:∀ {k:Int},i.op=k→(i.op == k)=true:=fun h=>beq_iff_eq.2 h
  by_cases k8:i.op≤8
  · have hf:=And.intro (show decide (i.op≤8)=true∧decide (13≤i.op)=false∧decide (i.op≤31)=true∧decide (31≤i.op)=false∧decide (i.op≤38)=true∧(i.op == 39)=false∧(i.op == 40)=false∧decide (21≤i.op)=false∧decide (i.op≤24)=true∧(i.op == 42)=false∧(i.op == 44)=false∧decide (41≤i.op)=false∧decide (i.op≤44)=true from ⟨(T (by omega)),(F (by omega)),(T (by omega)),(F (by omega)),(T (by omega)),(N (by omega)),(N (by omega)),(F (by omega)),(T (by omega)),(N (by omega)),(N (by omega)),(F (by omega)),(T (by omega))⟩) trivial
    obtain ⟨⟨f0,f1,f2,f3,f4,f5,f6,f7,f8,f9,f10,f11,f12⟩,_⟩:=hf
    have hr:RDF=true:=by rw [hR]; simp [f0,f1,f2]
    have hk:BKF=false:=by rw [hK]; simp [f3,f4,f5,f6]
    exact writes_g1 i.cond i.op i.form i.rd i.rn i.rm i.rs i.ra i.imm i.shift i.amount i.list i.crn i.op1 i.crm i.op2 (y:Int) i.s i.pre i.up i.write w ON C RDF BKF _ _ _ _ _ _ _ _ _ _ _ _ _ HE HO H1 hn ha hd rfl rfl rfl rfl rfl rfl rfl rfl rfl rfl rfl rfl rfl (.inl ⟨(T (by omega)),(F (by omega)),(T (by omega)),(F (by omega)),(T (by omega)),(N (by omega)),(N (by omega)),(F (by omega)),(T (by omega)),(N (by omega)),(N (by omega)),(F (by omega)),(T (by omega)),hr,hk⟩)
  by_cases k12:i.op≤12
  · have hf:=And.intro (show decide (i.op≤8)=false∧decide (13≤i.op)=false∧decide (i.op≤31)=true∧decide (31≤i.op)=false∧decide (i.op≤38)=true∧(i.op == 39)=false∧(i.op == 40)=false∧decide (21≤i.op)=false∧decide (i.op≤24)=true∧(i.op == 42)=false∧(i.op == 44)=false∧decide (41≤i.op)=false∧decide (i.op≤44)=true from ⟨(F (by omega)),(F (by omega)),(T (by omega)),(F (by omega)),(T (by omega)),(N (by omega)),(N (by omega)),(F (by omega)),(T (by omega)),(N (by omega)),(N (by omega)),(F (by omega)),(T (by omega))⟩) trivial
    obtain ⟨⟨f0,f1,f2,f3,f4,f5,f6,f7,f8,f9,f10,f11,f12⟩,_⟩:=hf
    have hr:RDF=C:=by rw [hR]; simp [f0,f1,f2]
    have hk:BKF=false:=by rw [hK]; simp [f3,f4,f5,f6]
    exact writes_g1 i.cond i.op i.form i.rd i.rn i.rm i.rs i.ra i.imm i.shift i.amount i.list i.crn i.op1 i.crm i.op2 (y:Int) i.s i.pre i.up i.write w ON C RDF BKF _ _ _ _ _ _ _ _ _ _ _ _ _ HE HO H1 hn ha hd rfl rfl rfl rfl rfl rfl rfl rfl rfl rfl rfl rfl rfl (.inr (.inl ⟨(F (by omega)),(F (by omega)),(T (by omega)),(F (by omega)),(T (by omega)),(N (by omega)),(N (by omega)),(F (by omega)),(T (by omega)),(N (by omega)),(N (by omega)),(F (by omega)),(T (by omega)),hr,hk⟩))
  by_cases k20:i.op≤20
  · have hf:=And.intro (show decide (i.op≤8)=false∧decide (13≤i.op)=true∧decide (i.op≤31)=true∧decide (31≤i.op)=false∧decide (i.op≤38)=true∧(i.op == 39)=false∧(i.op == 40)=false∧decide (21≤i.op)=false∧decide (i.op≤24)=true∧(i.op == 42)=false∧(i.op == 44)=false∧decide (41≤i.op)=false∧decide (i.op≤44)=true from ⟨(F (by omega)),(T (by omega)),(T (by omega)),(F (by omega)),(T (by omega)),(N (by omega)),(N (by omega)),(F (by omega)),(T (by omega)),(N (by omega)),(N (by omega)),(F (by omega)),(T (by omega))⟩) trivial
    obtain ⟨⟨f0,f1,f2,f3,f4,f5,f6,f7,f8,f9,f10,f11,f12⟩,_⟩:=hf
    have hr:RDF=true:=by rw [hR]; simp [f0,f1,f2]
    have hk:BKF=false:=by rw [hK]; simp [f3,f4,f5,f6]
    exact writes_g1 i.cond i.op i.form i.rd i.rn i.rm i.rs i.ra i.imm i.shift i.amount i.list i.crn i.op1 i.crm i.op2 (y:Int) i.s i.pre i.up i.write w ON C RDF BKF _ _ _ _ _ _ _ _ _ _ _ _ _ HE HO H1 hn ha hd rfl rfl rfl rfl rfl rfl rfl rfl rfl rfl rfl rfl rfl (.inr (.inr ⟨(F (by omega)),(T (by omega)),(T (by omega)),(F (by omega)),(T (by omega)),(N (by omega)),(N (by omega)),(F (by omega)),(T (by omega)),(N (by omega)),(N (by omega)),(F (by omega)),(T (by omega)),hr,hk⟩))
  by_cases k24:i.op≤24
  · have hf:=And.intro (show decide (i.op≤8)=false∧decide (13≤i.op)=true∧decide (i.op≤31)=true∧decide (31≤i.op)=false∧decide (i.op≤38)=true∧(i.op == 39)=false∧(i.op == 40)=false∧decide (21≤i.op)=true∧decide (i.op≤24)=true∧(i.op == 42)=false∧(i.op == 44)=false∧decide (41≤i.op)=false∧decide (i.op≤44)=true from ⟨(F (by omega)),(T (by omega)),(T (by omega)),(F (by omega)),(T (by omega)),(N (by omega)),(N (by omega)),(T (by omega)),(T (by omega)),(N (by omega)),(N (by omega)),(F (by omega)),(T (by omega))⟩) trivial
    obtain ⟨⟨f0,f1,f2,f3,f4,f5,f6,f7,f8,f9,f10,f11,f12⟩,_⟩:=hf
    have hr:RDF=true:=by rw [hR]; simp [f0,f1,f2]
    have hk:BKF=false:=by rw [hK]; simp [f3,f4,f5,f6]
    exact writes_g2 i.cond i.op i.form i.rd i.rn i.rm i.rs i.ra i.imm i.shift i.amount i.list i.crn i.op1 i.crm i.op2 (y:Int) i.s i.pre i.up i.write w ON C RDF BKF _ _ _ _ _ _ _ _ _ _ _ _ _ HE HO H1 hn ha hd rfl rfl rfl rfl rfl rfl rfl rfl rfl rfl rfl rfl rfl (.inl ⟨(F (by omega)),(T (by omega)),(T (by omega)),(F (by omega)),(T (by omega)),(N (by omega)),(N (by omega)),(T (by omega)),(T (by omega)),(N (by omega)),(N (by omega)),(F (by omega)),(T (by omega)),hr,hk⟩)
  by_cases k30:i.op≤30
  · have hf:=And.intro (show decide (i.op≤8)=false∧decide (13≤i.op)=true∧decide (i.op≤31)=true∧decide (31≤i.op)=false∧decide (i.op≤38)=true∧(i.op == 39)=false∧(i.op == 40)=false∧decide (21≤i.op)=true∧decide (i.op≤24)=false∧(i.op == 42)=false∧(i.op == 44)=false∧decide (41≤i.op)=false∧decide (i.op≤44)=true from ⟨(F (by omega)),(T (by omega)),(T (by omega)),(F (by omega)),(T (by omega)),(N (by omega)),(N (by omega)),(T (by omega)),(F (by omega)),(N (by omega)),(N (by omega)),(F (by omega)),(T (by omega))⟩) trivial
    obtain ⟨⟨f0,f1,f2,f3,f4,f5,f6,f7,f8,f9,f10,f11,f12⟩,_⟩:=hf
    have hr:RDF=true:=by rw [hR]; simp [f0,f1,f2]
    have hk:BKF=false:=by rw [hK]; simp [f3,f4,f5,f6]
    exact writes_g2 i.cond i.op i.form i.rd i.rn i.rm i.rs i.ra i.imm i.shift i.amount i.list i.crn i.op1 i.crm i.op2 (y:Int) i.s i.pre i.up i.write w ON C RDF BKF _ _ _ _ _ _ _ _ _ _ _ _ _ HE HO H1 hn ha hd rfl rfl rfl rfl rfl rfl rfl rfl rfl rfl rfl rfl rfl (.inr (.inl ⟨(F (by omega)),(T (by omega)),(T (by omega)),(F (by omega)),(T (by omega)),(N (by omega)),(N (by omega)),(T (by omega)),(F (by omega)),(N (by omega)),(N (by omega)),(F (by omega)),(T (by omega)),hr,hk⟩))
  by_cases k31:i.op≤31
  · have hf:=And.intro (show decide (i.op≤8)=false∧decide (13≤i.op)=true∧decide (i.op≤31)=true∧decide (31≤i.op)=true∧decide (i.op≤38)=true∧(i.op == 39)=false∧(i.op == 40)=false∧decide (21≤i.op)=true∧decide (i.op≤24)=false∧(i.op == 42)=false∧(i.op == 44)=false∧decide (41≤i.op)=false∧decide (i.op≤44)=true from ⟨(F (by omega)),(T (by omega)),(T (by omega)),(T (by omega)),(T (by omega)),(N (by omega)),(N (by omega)),(T (by omega)),(F (by omega)),(N (by omega)),(N (by omega)),(F (by omega)),(T (by omega))⟩) trivial
    obtain ⟨⟨f0,f1,f2,f3,f4,f5,f6,f7,f8,f9,f10,f11,f12⟩,_⟩:=hf
    cases hw:i.write
    · cases hp:i.pre
      · have hr:RDF=true:=by rw [hR]; simp [f0,f1,f2]
        have hk:BKF=true:=by rw [hK,hw,hp]; simp [f3,f4,f5,f6]
        exact writes_g2 i.cond i.op i.form i.rd i.rn i.rm i.rs i.ra i.imm i.shift i.amount i.list i.crn i.op1 i.crm i.op2 (y:Int) i.s i.pre i.up i.write w ON C RDF BKF _ _ _ _ _ _ _ _ _ _ _ _ _ HE HO H1 hn ha hd rfl rfl rfl rfl rfl rfl rfl rfl rfl rfl rfl rfl rfl (.inr (.inr (.inr (.inr ⟨(F (by omega)),(T (by omega)),(T (by omega)),(T (by omega)),(T (by omega)),(N (by omega)),(N (by omega)),(T (by omega)),(F (by omega)),(N (by omega)),(N (by omega)),(F (by omega)),(T (by omega)),(hidW hw),(hidW hp),hr,hk⟩))))
      · have hr:RDF=true:=by rw [hR]; simp [f0,f1,f2]
        have hk:BKF=false:=by rw [hK,hw,hp]; simp [f3,f4,f5,f6]
        exact writes_g2 i.cond i.op i.form i.rd i.rn i.rm i.rs i.ra i.imm i.shift i.amount i.list i.crn i.op1 i.crm i.op2 (y:Int) i.s i.pre i.up i.write w ON C RDF BKF _ _ _ _ _ _ _ _ _ _ _ _ _ HE HO H1 hn ha hd rfl rfl rfl rfl rfl rfl rfl rfl rfl rfl rfl rfl rfl (.inr (.inr (.inr (.inl ⟨(F (by omega)),(T (by omega)),(T (by omega)),(T (by omega)),(T (by omega)),(N (by omega)),(N (by omega)),(T (by omega)),(F (by omega)),(N (by omega)),(N (by omega)),(F (by omega)),(T (by omega)),(hidW hw),(hidW hp),hr,hk⟩))))
    · have hr:RDF=true:=by rw [hR]; simp [f0,f1,f2]
      have hk:BKF=true:=by rw [hK,hw]; simp [f3,f4,f5,f6]
      exact writes_g2 i.cond i.op i.form i.rd i.rn i.rm i.rs i.ra i.imm i.shift i.amount i.list i.crn i.op1 i.crm i.op2 (y:Int) i.s i.pre i.up i.write w ON C RDF BKF _ _ _ _ _ _ _ _ _ _ _ _ _ HE HO H1 hn ha hd rfl rfl rfl rfl rfl rfl rfl rfl rfl rfl rfl rfl rfl (.inr (.inr (.inl ⟨(F (by omega)),(T (by omega)),(T (by omega)),(T (by omega)),(T (by omega)),(N (by omega)),(N (by omega)),(T (by omega)),(F (by omega)),(N (by omega)),(N (by omega)),(F (by omega)),(T (by omega)),(hidW hw),hr,hk⟩)))
  by_cases k38:i.op≤38
  · have hf:=And.intro (show decide (i.op≤8)=false∧decide (13≤i.op)=true∧decide (i.op≤31)=false∧decide (31≤i.op)=true∧decide (i.op≤38)=true∧(i.op == 39)=false∧(i.op == 40)=false∧decide (21≤i.op)=true∧decide (i.op≤24)=false∧(i.op == 42)=false∧(i.op == 44)=false∧decide (41≤i.op)=false∧decide (i.op≤44)=true from ⟨(F (by omega)),(T (by omega)),(F (by omega)),(T (by omega)),(T (by omega)),(N (by omega)),(N (by omega)),(T (by omega)),(F (by omega)),(N (by omega)),(N (by omega)),(F (by omega)),(T (by omega))⟩) trivial
    obtain ⟨⟨f0,f1,f2,f3,f4,f5,f6,f7,f8,f9,f10,f11,f12⟩,_⟩:=hf
    cases hw:i.write
    · cases hp:i.pre
      · have hr:RDF=C:=by rw [hR]; simp [f0,f1,f2]
        have hk:BKF=true:=by rw [hK,hw,hp]; simp [f3,f4,f5,f6]
        exact writes_h2 i.cond i.op i.form i.rd i.rn i.rm i.rs i.ra i.imm i.shift i.amount i.list i.crn i.op1 i.crm i.op2 (y:Int) i.s i.pre i.up i.write w ON C RDF BKF _ _ _ _ _ _ _ _ _ _ _ _ _ HE HO H1 hn ha hd rfl rfl rfl rfl rfl rfl rfl rfl rfl rfl rfl rfl rfl (.inr (.inr (.inl ⟨(F (by omega)),(T (by omega)),(F (by omega)),(T (by omega)),(T (by omega)),(N (by omega)),(N (by omega)),(T (by omega)),(F (by omega)),(N (by omega)),(N (by omega)),(F (by omega)),(T (by omega)),(hidW hw),(hidW hp),hr,hk⟩)))
      · have hr:RDF=C:=by rw [hR]; simp [f0,f1,f2]
        have hk:BKF=false:=by rw [hK,hw,hp]; simp [f3,f4,f5,f6]
        exact writes_h2 i.cond i.op i.form i.rd i.rn i.rm i.rs i.ra i.imm i.shift i.amount i.list i.crn i.op1 i.crm i.op2 (y:Int) i.s i.pre i.up i.write w ON C RDF BKF _ _ _ _ _ _ _ _ _ _ _ _ _ HE HO H1 hn ha hd rfl rfl rfl rfl rfl rfl rfl rfl rfl rfl rfl rfl rfl (.inr (.inl ⟨(F (by omega)),(T (by omega)),(F (by omega)),(T (by omega)),(T (by omega)),(N (by omega)),(N (by omega)),(T (by omega)),(F (by omega)),(N (by omega)),(N (by omega)),(F (by omega)),(T (by omega)),(hidW hw),(hidW hp),hr,hk⟩))
    · have hr:RDF=C:=by rw [hR]; simp [f0,f1,f2]
      have hk:BKF=true:=by rw [hK,hw]; simp [f3,f4,f5,f6]
      exact writes_h2 i.cond i.op i.form i.rd i.rn i.rm i.rs i.ra i.imm i.shift i.amount i.list i.crn i.op1 i.crm i.op2 (y:Int) i.s i.pre i.up i.write w ON C RDF BKF _ _ _ _ _ _ _ _ _ _ _ _ _ HE HO H1 hn ha hd rfl rfl rfl rfl rfl rfl rfl rfl rfl rfl rfl rfl rfl (.inl ⟨(F (by omega)),(T (by omega)),(F (by omega)),(T (by omega)),(T (by omega)),(N (by omega)),(N (by omega)),(T (by omega)),(F (by omega)),(N (by omega)),(N (by omega)),(F (by omega)),(T (by omega)),(hidW hw),hr,hk⟩)
  by_cases k39:i.op≤39
  · have hf:=And.intro (show decide (i.op≤8)=false∧decide (13≤i.op)=true∧decide (i.op≤31)=false∧decide (31≤i.op)=true∧decide (i.op≤38)=false∧(i.op == 39)=true∧(i.op == 40)=false∧decide (21≤i.op)=true∧decide (i.op≤24)=false∧(i.op == 42)=false∧(i.op == 44)=false∧decide (41≤i.op)=false∧decide (i.op≤44)=true from ⟨(F (by omega)),(T (by omega)),(F (by omega)),(T (by omega)),(F (by omega)),(Y (by omega)),(N (by omega)),(T (by omega)),(F (by omega)),(N (by omega)),(N (by omega)),(F (by omega)),(T (by omega))⟩) trivial
    obtain ⟨⟨f0,f1,f2,f3,f4,f5,f6,f7,f8,f9,f10,f11,f12⟩,_⟩:=hf
    have hr:RDF=C:=by rw [hR]; simp [f0,f1,f2]
    have hk:BKF=i.write:=by rw [hK]; simp [f3,f4,f5,f6]
    exact writes_h2 i.cond i.op i.form i.rd i.rn i.rm i.rs i.ra i.imm i.shift i.amount i.list i.crn i.op1 i.crm i.op2 (y:Int) i.s i.pre i.up i.write w ON C RDF BKF _ _ _ _ _ _ _ _ _ _ _ _ _ HE HO H1 hn ha hd rfl rfl rfl rfl rfl rfl rfl rfl rfl rfl rfl rfl rfl (.inr (.inr (.inr (.inl ⟨(F (by omega)),(T (by omega)),(F (by omega)),(T (by omega)),(F (by omega)),(Y (by omega)),(N (by omega)),(T (by omega)),(F (by omega)),(N (by omega)),(N (by omega)),(F (by omega)),(T (by omega)),hr,hk⟩))))
  by_cases k40:i.op≤40
  · have hf:=And.intro (show decide (i.op≤8)=false∧decide (13≤i.op)=true∧decide (i.op≤31)=false∧decide (31≤i.op)=true∧decide (i.op≤38)=false∧(i.op == 39)=false∧(i.op == 40)=true∧decide (21≤i.op)=true∧decide (i.op≤24)=false∧(i.op == 42)=false∧(i.op == 44)=false∧decide (41≤i.op)=false∧decide (i.op≤44)=true from ⟨(F (by omega)),(T (by omega)),(F (by omega)),(T (by omega)),(F (by omega)),(N (by omega)),(Y (by omega)),(T (by omega)),(F (by omega)),(N (by omega)),(N (by omega)),(F (by omega)),(T (by omega))⟩) trivial
    obtain ⟨⟨f0,f1,f2,f3,f4,f5,f6,f7,f8,f9,f10,f11,f12⟩,_⟩:=hf
    have hr:RDF=C:=by rw [hR]; simp [f0,f1,f2]
    have hk:BKF=i.write:=by rw [hK]; simp [f3,f4,f5,f6]
    exact writes_h2 i.cond i.op i.form i.rd i.rn i.rm i.rs i.ra i.imm i.shift i.amount i.list i.crn i.op1 i.crm i.op2 (y:Int) i.s i.pre i.up i.write w ON C RDF BKF _ _ _ _ _ _ _ _ _ _ _ _ _ HE HO H1 hn ha hd rfl rfl rfl rfl rfl rfl rfl rfl rfl rfl rfl rfl rfl (.inr (.inr (.inr (.inr ⟨(F (by omega)),(T (by omega)),(F (by omega)),(T (by omega)),(F (by omega)),(N (by omega)),(Y (by omega)),(T (by omega)),(F (by omega)),(N (by omega)),(N (by omega)),(F (by omega)),(T (by omega)),hr,hk⟩))))
  by_cases k41:i.op≤41
  · have hf:=And.intro (show decide (i.op≤8)=false∧decide (13≤i.op)=true∧decide (i.op≤31)=false∧decide (31≤i.op)=true∧decide (i.op≤38)=false∧(i.op == 39)=false∧(i.op == 40)=false∧decide (21≤i.op)=true∧decide (i.op≤24)=false∧(i.op == 42)=false∧(i.op == 44)=false∧decide (41≤i.op)=true∧decide (i.op≤44)=true from ⟨(F (by omega)),(T (by omega)),(F (by omega)),(T (by omega)),(F (by omega)),(N (by omega)),(N (by omega)),(T (by omega)),(F (by omega)),(N (by omega)),(N (by omega)),(T (by omega)),(T (by omega))⟩) trivial
    obtain ⟨⟨f0,f1,f2,f3,f4,f5,f6,f7,f8,f9,f10,f11,f12⟩,_⟩:=hf
    have hr:RDF=C:=by rw [hR]; simp [f0,f1,f2]
    have hk:BKF=false:=by rw [hK]; simp [f3,f4,f5,f6]
    exact writes_g4 i.cond i.op i.form i.rd i.rn i.rm i.rs i.ra i.imm i.shift i.amount i.list i.crn i.op1 i.crm i.op2 (y:Int) i.s i.pre i.up i.write w ON C RDF BKF _ _ _ _ _ _ _ _ _ _ _ _ _ HE HO H1 hn ha hd rfl rfl rfl rfl rfl rfl rfl rfl rfl rfl rfl rfl rfl (.inl ⟨(F (by omega)),(T (by omega)),(F (by omega)),(T (by omega)),(F (by omega)),(N (by omega)),(N (by omega)),(T (by omega)),(F (by omega)),(N (by omega)),(N (by omega)),(T (by omega)),(T (by omega)),hr,hk⟩)
  by_cases k42:i.op≤42
  · have hf:=And.intro (show decide (i.op≤8)=false∧decide (13≤i.op)=true∧decide (i.op≤31)=false∧decide (31≤i.op)=true∧decide (i.op≤38)=false∧(i.op == 39)=false∧(i.op == 40)=false∧decide (21≤i.op)=true∧decide (i.op≤24)=false∧(i.op == 42)=true∧(i.op == 44)=false∧decide (41≤i.op)=true∧decide (i.op≤44)=true from ⟨(F (by omega)),(T (by omega)),(F (by omega)),(T (by omega)),(F (by omega)),(N (by omega)),(N (by omega)),(T (by omega)),(F (by omega)),(Y (by omega)),(N (by omega)),(T (by omega)),(T (by omega))⟩) trivial
    obtain ⟨⟨f0,f1,f2,f3,f4,f5,f6,f7,f8,f9,f10,f11,f12⟩,_⟩:=hf
    have hr:RDF=C:=by rw [hR]; simp [f0,f1,f2]
    have hk:BKF=false:=by rw [hK]; simp [f3,f4,f5,f6]
    exact writes_g3 i.cond i.op i.form i.rd i.rn i.rm i.rs i.ra i.imm i.shift i.amount i.list i.crn i.op1 i.crm i.op2 (y:Int) i.s i.pre i.up i.write w ON C RDF BKF _ _ _ _ _ _ _ _ _ _ _ _ _ HE HO H1 hn ha hd rfl rfl rfl rfl rfl rfl rfl rfl rfl rfl rfl rfl rfl ⟨(F (by omega)),(T (by omega)),(F (by omega)),(T (by omega)),(F (by omega)),(N (by omega)),(N (by omega)),(T (by omega)),(F (by omega)),(Y (by omega)),(N (by omega)),(T (by omega)),(T (by omega)),hr,hk⟩
  by_cases k43:i.op≤43
  · have hf:=And.intro (show decide (i.op≤8)=false∧decide (13≤i.op)=true∧decide (i.op≤31)=false∧decide (31≤i.op)=true∧decide (i.op≤38)=false∧(i.op == 39)=false∧(i.op == 40)=false∧decide (21≤i.op)=true∧decide (i.op≤24)=false∧(i.op == 42)=false∧(i.op == 44)=false∧decide (41≤i.op)=true∧decide (i.op≤44)=true from ⟨(F (by omega)),(T (by omega)),(F (by omega)),(T (by omega)),(F (by omega)),(N (by omega)),(N (by omega)),(T (by omega)),(F (by omega)),(N (by omega)),(N (by omega)),(T (by omega)),(T (by omega))⟩) trivial
    obtain ⟨⟨f0,f1,f2,f3,f4,f5,f6,f7,f8,f9,f10,f11,f12⟩,_⟩:=hf
    have hr:RDF=C:=by rw [hR]; simp [f0,f1,f2]
    have hk:BKF=false:=by rw [hK]; simp [f3,f4,f5,f6]
    exact writes_g4 i.cond i.op i.form i.rd i.rn i.rm i.rs i.ra i.imm i.shift i.amount i.list i.crn i.op1 i.crm i.op2 (y:Int) i.s i.pre i.up i.write w ON C RDF BKF _ _ _ _ _ _ _ _ _ _ _ _ _ HE HO H1 hn ha hd rfl rfl rfl rfl rfl rfl rfl rfl rfl rfl rfl rfl rfl (.inr (.inl ⟨(F (by omega)),(T (by omega)),(F (by omega)),(T (by omega)),(F (by omega)),(N (by omega)),(N (by omega)),(T (by omega)),(F (by omega)),(N (by omega)),(N (by omega)),(T (by omega)),(T (by omega)),hr,hk⟩))
  by_cases k44:i.op≤44
  · have hf:=And.intro (show decide (i.op≤8)=false∧decide (13≤i.op)=true∧decide (i.op≤31)=false∧decide (31≤i.op)=true∧decide (i.op≤38)=false∧(i.op == 39)=false∧(i.op == 40)=false∧decide (21≤i.op)=true∧decide (i.op≤24)=false∧(i.op == 42)=false∧(i.op == 44)=true∧decide (41≤i.op)=true∧decide (i.op≤44)=true from ⟨(F (by omega)),(T (by omega)),(F (by omega)),(T (by omega)),(F (by omega)),(N (by omega)),(N (by omega)),(T (by omega)),(F (by omega)),(N (by omega)),(Y (by omega)),(T (by omega)),(T (by omega))⟩) trivial
    obtain ⟨⟨f0,f1,f2,f3,f4,f5,f6,f7,f8,f9,f10,f11,f12⟩,_⟩:=hf
    have hr:RDF=C:=by rw [hR]; simp [f0,f1,f2]
    have hk:BKF=false:=by rw [hK]; simp [f3,f4,f5,f6]
    exact writes_g4 i.cond i.op i.form i.rd i.rn i.rm i.rs i.ra i.imm i.shift i.amount i.list i.crn i.op1 i.crm i.op2 (y:Int) i.s i.pre i.up i.write w ON C RDF BKF _ _ _ _ _ _ _ _ _ _ _ _ _ HE HO H1 hn ha hd rfl rfl rfl rfl rfl rfl rfl rfl rfl rfl rfl rfl rfl (.inr (.inr (.inl ⟨(F (by omega)),(T (by omega)),(F (by omega)),(T (by omega)),(F (by omega)),(N (by omega)),(N (by omega)),(T (by omega)),(F (by omega)),(N (by omega)),(Y (by omega)),(T (by omega)),(T (by omega)),hr,hk⟩)))
  have hf:=And.intro (show decide (i.op≤8)=false∧decide (13≤i.op)=true∧decide (i.op≤31)=false∧decide (31≤i.op)=true∧decide (i.op≤38)=false∧(i.op == 39)=false∧(i.op == 40)=false∧decide (21≤i.op)=true∧decide (i.op≤24)=false∧(i.op == 42)=false∧(i.op == 44)=false∧decide (41≤i.op)=true∧decide (i.op≤44)=false from ⟨(F (by omega)),(T (by omega)),(F (by omega)),(T (by omega)),(F (by omega)),(N (by omega)),(N (by omega)),(T (by omega)),(F (by omega)),(N (by omega)),(N (by omega)),(T (by omega)),(F (by omega))⟩) trivial
  obtain ⟨⟨f0,f1,f2,f3,f4,f5,f6,f7,f8,f9,f10,f11,f12⟩,_⟩:=hf
  have hr:RDF=C:=by rw [hR]; simp [f0,f1,f2]
  have hk:BKF=false:=by rw [hK]; simp [f3,f4,f5,f6]
  exact writes_g4 i.cond i.op i.form i.rd i.rn i.rm i.rs i.ra i.imm i.shift i.amount i.list i.crn i.op1 i.crm i.op2 (y:Int) i.s i.pre i.up i.write w ON C RDF BKF _ _ _ _ _ _ _ _ _ _ _ _ _ HE HO H1 hn ha hd rfl rfl rfl rfl rfl rfl rfl rfl rfl rfl rfl rfl rfl (.inr (.inr (.inr ⟨(F (by omega)),(T (by omega)),(F (by omega)),(T (by omega)),(F (by omega)),(N (by omega)),(N (by omega)),(T (by omega)),(F (by omega)),(N (by omega)),(N (by omega)),(T (by omega)),(F (by omega)),hr,hk⟩)))
set_option maxRecDepth 100000 in
theorem jwrites_any (i:Ins) (w:World) (hi:IOk i):Calls Tryd.prog 19 #[.agg (insA i)] w fun e w'=>e= .returned (.int .u16 ((writesJ i:Nat):Int))∧Below w.heap.size w w':=by
  unfold writesJ
  cases he:encJ i with
  | none=>exact writes_none i w hi he
  | some y =>
    have hep:encP i=some y:=by rw [enc_eq,he]
    obtain ⟨r,q,hn,hp,hf,ho,hiq⟩:=enc_row hep
    have hq:q∈rowsJ:=List.mem_of_find?_eq_some hf
    have hg:=say_regs hq y
    rw [←hiq] at hg
    have hk:=List.all_eq_true.1 (mayQK_all q hq) i.op (by simpa using ho)
    simp only [Bool.and_eq_true,decide_eq_true_eq] at hk
    have HE:Hid (∀w',Calls Tryd.prog 16 #[.agg (insL i).toArray] w' fun e w''=>e= .returned (.tuple #[.int .u32 (y:Int),.int .i64 0])∧Below w'.heap.size w' w''):=fun w'=>by
      have:=jenc_any i w' hi
      rw [he] at this
      exact this
    have HO:Hid (∀b (n:Int) w',0≤n∧n<16→Calls Tryd.prog 38 #[.bool b,.int .i64 n] w' fun e w''=>e= .returned (.int .u16 ((fun b n=>((onlyN b n:Nat):Int)) b n))∧w''=w'):=fun b n w' h=>by
      have:=jone_any b n w' h.1 h.2
      rw [on_int] at this
      exact this
    have H1:Hid (∀b w',Sl w' b [33,35,37,38,47,50]→Calls Tryd.prog 36 #[.slice (some ⟨b,0,none⟩) 6 6,.int .i64 i.op] w' fun e w''=>e= .returned (.bool ([33,35,37,38,47,50].contains i.op))∧w''=w'):=fun b w' h=>jin_any b [33,35,37,38,47,50] i.op w' h
    have l1:=onlyN_lt' (wrdJ i.op) i.rd hg.rd.1 hg.rd.2
    have l2:=onlyN_lt' (isLongP i.op) i.ra hg.ra.1 hg.ra.2
    have l3:=onlyN_lt' (backJ i) i.rn hg.rn.1 hg.rn.2
    have l4:=onlyN_lt' (i.op == 42 || i.op == 44) 14 (by decide) (by decide)
    have l5:=onlyN_lt' (decide (41≤i.op) && decide (i.op≤44)) 15 (by decide) (by decide)
    have e1:=or16' _ _ l1 l2
    have e2:=or16' _ _ (or_lt16' l1 l2) l3
    have e3:=or16' _ _ (or_lt16' (or_lt16' l1 l2) l3) l4
    have e4:=or16' _ _ (or_lt16' (or_lt16' (or_lt16' l1 l2) l3) l4) l5
    have hll:i.list=((i.list.toNat:Nat):Int):=by have:=hg.list; omega
    have e5:=or16' _ i.list.toNat (or_lt16' (or_lt16' (or_lt16' (or_lt16' l1 l2) l3) l4) l5) (by have:=hg.list; omega)
    have hx:(bits .or .u16 (bits .or .u16 (bits .or .u16 (bits .or .u16 ((onlyN (wrdJ i.op) i.rd:Nat):Int) ((onlyN (isLongP i.op) i.ra:Nat):Int)) ((onlyN (backJ i) i.rn:Nat):Int)) ((onlyN (i.op == 42 || i.op == 44) 14:Nat):Int)) ((onlyN (decide (41≤i.op) && decide (i.op≤44)) 15:Nat):Int))=((((((onlyN (wrdJ i.op) i.rd ||| onlyN (isLongP i.op) i.ra) ||| onlyN (backJ i) i.rn) ||| onlyN (i.op == 42 || i.op == 44) 14) ||| onlyN (decide (41≤i.op) && decide (i.op≤44)) 15:Nat)):Int):=by rw [e1,e2,e3,e4]
    refine (writes_some i w y (fun b n=>((onlyN b n:Nat):Int)) ([33,35,37,38,47,50].contains i.op) HE HO H1 hg.rn hg.ra hg.rd hk.1.1 hk.1.2 (wrdJ i.op) (backJ i) rfl rfl).mono ?_
    rintro e w' ⟨rfl,hb⟩
    refine ⟨?_,hb⟩
    by_cases h39:i.op=39
    · have hE:(i.op == 39)=true:=beq_iff_eq.2 h39
      show Ending.returned (.int .u16 (bif (i.op == 39) then bits .or .u16 (bits .or .u16 (bits .or .u16 (bits .or .u16 (bits .or .u16 ((onlyN (wrdJ i.op) i.rd:Nat):Int) ((onlyN (isLongP i.op) i.ra:Nat):Int)) ((onlyN (backJ i) i.rn:Nat):Int)) ((onlyN (i.op == 42 || i.op == 44) 14:Nat):Int)) ((onlyN (decide (41≤i.op) && decide (i.op≤44)) 15:Nat):Int)) i.list else _))= .returned (.int .u16 ((writesQ i:Nat):Int))
      rw [hE,cond_true,hx,hll,e5,writesQ,if_pos h39]
    · have hE:(i.op == 39)=false:=beq_eq_false_iff_ne.2 h39
      show Ending.returned (.int .u16 (bif (i.op == 39) then _ else (bits .or .u16 (bits .or .u16 (bits .or .u16 (bits .or .u16 ((onlyN (wrdJ i.op) i.rd:Nat):Int) ((onlyN (isLongP i.op) i.ra:Nat):Int)) ((onlyN (backJ i) i.rn:Nat):Int)) ((onlyN (i.op == 42 || i.op == 44) 14:Nat):Int)) ((onlyN (decide (41≤i.op) && decide (i.op≤44)) 15:Nat):Int))))= .returned (.int .u16 ((writesQ i:Nat):Int))
      rw [hE,cond_false,hx,writesQ,if_neg h39]
end Go.Proofs.YtkmgmmmpiallhaaDoor
