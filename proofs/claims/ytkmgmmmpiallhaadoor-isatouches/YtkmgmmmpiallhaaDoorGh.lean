import Derived.Test.YtkmgmmmpiallhaaDoorGz
import Derived.Test.YtkmgmmmpiallhaaDoorEq
namespace Go.Proofs.YtkmgmmmpiallhaaDoor
open Go.RowKit
set_option linter.unusedVariables false
set_option linter.unusedSimpArgs false
theorem wpList_load_want {P:Program} {ops:Array Oper} {rest:List Oper} {op:Oper} {a:Act} {w:World} {Q:Exit→Act→World→Prop} (hw:Region.wanted op (yielded ops a.tmps)=true) (ty:TypeId) (x:Operand) (ho:op.op= .load ty x)
    (b o:Nat) (hx:a.eval x= .pointer (some ⟨b,o,none⟩)) (cs:List Value) (d:TypeDesc) (hc:w.rangeAt b o cs)
    (hu:P.underlying ty=some d) (hd:d.isRow=true) (hi:(P.info? ty).map (·.size)=some cs.length)
    (h:wpList P ops Q rest (a.put op.dst (.agg cs.toArray)) w):wpList P ops Q (op::rest) a w :=
  wpList_step fun K hK=>by rw [if_pos hw]; exact wp_load_mid ty x ho b o hx cs d hc hu hd hi (hK _ _ h)
theorem fill_below (w:World) (t:TypeId) (Z L:List Value):Below w.heap.size w ((w.alloc (.cells Z.toArray t)).setCells w.heap.size 0 L):=Turn.to (set_turn L 0 w _ (TA.of (below_new _ _))) (fun _ e=>Nat.le_of_eq e.symm) (Nat.le_refl _)
theorem fill_box (w:World) (t:TypeId) (Z L:List Value) (hl:L.length=Z.length):Bl ((w.alloc (.cells Z.toArray t)).setCells w.heap.size 0 L) w.heap.size t L:=set_all (Bl.new w t Z) hl
structure Regs (i:Ins):Prop where
  rd:0≤i.rd∧i.rd<16
  rn:0≤i.rn∧i.rn<16
  rm:0≤i.rm∧i.rm<16
  rs:0≤i.rs∧i.rs<16
  ra:0≤i.ra∧i.ra<16
  list:0≤i.list∧i.list<65536
def regsK (q:RowJ):Bool:=decide (cnt 100 q.pat≤4) && (decide (cnt 110 q.pat≤4) && (decide (cnt 109 q.pat≤4) && (decide (cnt 114 q.pat≤4) && decide (cnt 97 q.pat≤4))))
theorem regsK_all:∀q∈rowsJ,regsK q=true:=by
  have:rowsJ.all regsK=true:=by decide
  exact List.all_eq_true.1 this
theorem fv16 {c:UInt8} {w:Nat} {l:List UInt8} (h:cnt c l≤4):0≤((fvP c w l:Nat):Int)∧((fvP c w l:Nat):Int)<16:=by
  have h1:=fvP_lt c w l
  have h2:2^cnt c l≤2^4:=Nat.pow_le_pow_right (by decide) h
  omega
theorem say_regs {q:RowJ} (hq:q∈rowsJ) (w:Nat):Regs (sayJ q w):=by
  have h:=regsK_all q hq
  simp only [regsK,Bool.and_eq_true,decide_eq_true_eq] at h
  obtain ⟨h1,h2,h3,h4,h5⟩:=h
  exact ⟨fv16 h1,fv16 h2,fv16 h3,fv16 h4,fv16 h5,by show 0≤((fvP 108 w q.pat%65536:Nat):Int)∧((fvP 108 w q.pat%65536:Nat):Int)<65536; omega⟩
structure QX (W:World) (q:Nat) (L:List Value) (w:World):Prop where
  bel:Below W.heap.size W w
  box:Bl w q 28 L
  tp:TP w
theorem QX.step {W w w':World} {q:Nat} {L:List Value} (h:QX W q L w) (hb:Below w.heap.size w w'):QX W q L w':=⟨Below.step h.bel hb,h.box.below hb,h.tp.below hb⟩
structure TX (W w:World):Prop where
  bel:Below W.heap.size W w
  tp:TP w
theorem TX.first {W:World} (h:TP W):TX W W:=⟨Below.refl _ _,h⟩
theorem TX.step {W w w':World} (h:TX W w) (hb:Below w.heap.size w w'):TX W w':=⟨Below.step h.bel hb,h.tp.below hb⟩
theorem QX.old {W w:World} {q:Nat} {L:List Value} (h:QX W q L w):TX W w:=⟨h.bel,h.tp⟩
theorem TX.fill {W w:World} (h:TX W w) (L:List Value) (hl:L.length=20):QX W w.heap.size L ((w.alloc (.cells (insL insZ).toArray 28)).setCells w.heap.size 0 L):=by
  have hb:=fill_below w 28 (insL insZ) L
  exact ⟨Below.step h.bel hb,fill_box w 28 (insL insZ) L (by rw [hl]; rfl),h.tp.below hb⟩
theorem ins_there (w:World) (L:List Value) (hl:L.length=20):(w.alloc (.cells (insL insZ).toArray 28)).there w.heap.size 0 L.toArray.size:=new_there w 28 (insL insZ) L.toArray.size (by rw [List.size_toArray,hl]; rfl)
end Go.Proofs.YtkmgmmmpiallhaaDoor
