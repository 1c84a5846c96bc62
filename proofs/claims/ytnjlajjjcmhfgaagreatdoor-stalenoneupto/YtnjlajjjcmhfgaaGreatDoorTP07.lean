import Derived.Test.YtnjlajjjcmhfgaaGreatDoorTA35
import Derived.Test.YtnjlajjjcmhfgaaGreatDoorTP04
namespace Go.Proofs.YtnjlajjjcmhfgaaGreatDoor
open Go.RowKit Go.ChangeShapes Go.WideShapes Go.ChangeAt
set_option linter.unusedVariables false
set_option linter.unusedSimpArgs false
def sayD (r:Int×Int):DataW Unit:= .agg [.lit (.int .u64 r.1),.lit (.int .u64 r.2)]
theorem cells_say:Tryz.prog.cellsOf 183=2:=by kernel_rfl
set_option maxRecDepth 100000 in
theorem say_cells {W:World} {fuel:Nat} {cs:List Value} {x:DataW Unit×List MemPlace} (h:DataW.trod (fun _=>()) Tryz.prog W 0 (fun _=>true) false fuel 183 cs=some x) :
    ∃r:Int×Int,cs=[.int .u64 r.1,.int .u64 r.2]∧x.1=sayD r:=by
  obtain ⟨y0,y1,n,hx,hl,h0,h1⟩:=trod_struct2 Tryz.underlying183 h
  rw [cells_say] at hl
  obtain ⟨a,b,rfl⟩:∃a b,cs=[a,b]:=by
    match cs,hl with
    | [a,b],_=>exact ⟨a,b,rfl⟩
  simp only [cells_u64,List.drop_zero,List.drop_succ_cons,List.take_succ_cons,List.take_zero] at h0 h1
  obtain ⟨i0,e0,r0,_⟩:=DataW.trod_int Tryz.underlying35 h0
  obtain ⟨i1,e1,r1,_⟩:=DataW.trod_int Tryz.underlying35 h1
  simp only [List.cons.injEq,and_true] at e0 e1
  subst e0 e1 r0 r1
  exact ⟨(i0,i1),rfl,by rw [hx]; rfl⟩
theorem said_of {W:World} {L:List (String×DataW Unit)} {ps:List MemPlace} (h:DataW.LaidVars Tryz.prog W L ps) {n:String}
    (hm:(n,DataW.agg ([(0,0),(1,1),(16,1),(1,256),(16,256)].map sayD))∈L) (hg:Tryz.prog.globalNamed n=some 4) (hty:(Tryz.prog.globals[4]?).map (·.type)=some 184)
    (hct:Tryz.prog.cellsOf 184=5*2):TSd W:=by
  have key:∀q (r:Int×Int),[(0,0),(1,1),(16,1),(1,256),(16,256)][q]? =some r→W.cell? ⟨4,q*2,none⟩=some (.int .u64 r.1)∧W.cell? ⟨4,q*2+1,none⟩=some (.int .u64 r.2):=by
    intro q r hr
    have hi:q<5:=(List.getElem?_eq_some_iff.1 hr).1
    obtain ⟨cs,fuel,x,h1,h2,h3⟩:=tab_at h _ hm hg hty Tryz.underlying184 cells_say hct q hi
    obtain ⟨r',rfl,hx⟩:=say_cells h3
    rw [hx] at h2
    rw [List.getElem?_map,hr] at h2
    obtain rfl:r=r':=by
      obtain ⟨a1,a2⟩:=r
      obtain ⟨b1,b2⟩:=r'
      simpa [sayD] using h2
    exact ⟨h1 0 _ (by decide) rfl,h1 1 _ (by decide) rfl⟩
  intro i v hv
  have hi:i<10:=(List.getElem?_eq_some_iff.1 hv).1
  rcases (show i=0∨i=1∨i=2∨i=3∨i=4∨i=5∨i=6∨i=7∨i=8∨i=9 by omega) with rfl|rfl|rfl|rfl|rfl|rfl|rfl|rfl|rfl|rfl
  all_goals
    simp only [lSaid,List.getElem?_cons_zero,List.getElem?_cons_succ,Option.some.injEq] at hv
    subst hv
  · exact (key 0 _ rfl).1
  · exact (key 0 _ rfl).2
  · exact (key 1 _ rfl).1
  · exact (key 1 _ rfl).2
  · exact (key 2 _ rfl).1
  · exact (key 2 _ rfl).2
  · exact (key 3 _ rfl).1
  · exact (key 3 _ rfl).2
  · exact (key 4 _ rfl).1
  · exact (key 4 _ rfl).2
end Go.Proofs.YtnjlajjjcmhfgaaGreatDoor
