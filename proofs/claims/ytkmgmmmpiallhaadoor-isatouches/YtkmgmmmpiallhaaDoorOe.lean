import Derived.Test.YtkmgmmmpiallhaaDoorGa
import Derived.Test.YtkmgmmmpiallhaaDoorRows
import Derived.ChangeSame
import Derived.WalkKit
import Derived.ProofKit
import Derived.OpenShut
import Derived.Lib.LaidTab
import Derived.Lib.SmallJoins
import Derived.Deep.DeepHandedRow
namespace Go.Proofs.YtkmgmmmpiallhaaDoor
open Go.ChangeShapes Go.WideShapes Go.ChangeAt Go.RowKit
set_option linter.unusedVariables false
set_option linter.unusedSimpArgs false
variable {H:Type} {enc:TypeId×Value→H} {w:World} {base:Nat} {sp:Nat→Bool} {held:Bool}
theorem cells_int:Tryd.prog.cellsOf 3=1:=by kernel_rfl
theorem cells_bool:Tryd.prog.cellsOf 4=1:=by kernel_rfl
theorem cells_u8:Tryd.prog.cellsOf 5=1:=by kernel_rfl
theorem cells_u32:Tryd.prog.cellsOf 22=1:=by kernel_rfl
theorem cells_u16:Tryd.prog.cellsOf 24=1:=by kernel_rfl
theorem cells_ins:Tryd.prog.cellsOf 28=20:=by kernel_rfl
theorem cells_tup:Tryd.prog.cellsOf 26=4:=by kernel_rfl
theorem cells_row:Tryd.prog.cellsOf 40=5:=by kernel_rfl
theorem cells_part:Tryd.prog.cellsOf 61=4:=by kernel_rfl
def insD (m:Ins):DataW H:= .agg [.lit (.int .i64 m.cond),.lit (.int .i64 m.op),.lit (.bool m.s),.lit (.int .i64 m.form),.lit (.int .i64 m.rd),.lit (.int .i64 m.rn),.lit (.int .i64 m.rm),.lit (.int .i64 m.rs),.lit (.int .i64 m.ra),.lit (.int .u32 m.imm),.lit (.int .i64 m.shift),.lit (.int .i64 m.amount),.lit (.bool m.pre),.lit (.bool m.up),.lit (.bool m.write),.lit (.int .u16 m.list),.agg [.lit (.int .i64 m.crn),.lit (.int .i64 m.op1),.lit (.int .i64 m.crm),.lit (.int .i64 m.op2)]]
structure InsWf (m:Ins):Prop where
  cond:(Lit.int .i64 m.cond).wf=true
  op:(Lit.int .i64 m.op).wf=true
  form:(Lit.int .i64 m.form).wf=true
  rd:(Lit.int .i64 m.rd).wf=true
  rn:(Lit.int .i64 m.rn).wf=true
  rm:(Lit.int .i64 m.rm).wf=true
  rs:(Lit.int .i64 m.rs).wf=true
  ra:(Lit.int .i64 m.ra).wf=true
  imm:(Lit.int .u32 m.imm).wf=true
  shift:(Lit.int .i64 m.shift).wf=true
  amount:(Lit.int .i64 m.amount).wf=true
  list:(Lit.int .u16 m.list).wf=true
  crn:(Lit.int .i64 m.crn).wf=true
  op1:(Lit.int .i64 m.op1).wf=true
  crm:(Lit.int .i64 m.crm).wf=true
  op2:(Lit.int .i64 m.op2).wf=true
set_option maxRecDepth 100000 in
theorem shut_ins {m:Ins} (h:InsWf m):DataW.Trod enc Tryd.prog w base sp held 28 (.agg (insA m)) (insD m) []:=by
  obtain ⟨g0,g1,g2,g3,g4,g5,g6,g7,g8,g9,g10,g11,g12,g13,g14,g15⟩:=h
  exact ⟨3,by simp [DataW.trod,Value.cells,insA,insL,Tryd.underlying28,Tryd.underlying26,Tryd.underlying3,Tryd.underlying4,Tryd.underlying22,Tryd.underlying24,cells_ins,cells_tup,cells_int,cells_bool,cells_u32,cells_u16,g0,g1,g2,g3,g4,g5,g6,g7,g8,g9,g10,g11,g12,g13,g14,g15,insD]⟩
theorem tup_open {fuel:Nat} {a b c d:Value} {x:DataW H×List MemPlace} (h:DataW.trod enc Tryd.prog w base sp held fuel 26 [a,b,c,d]=some x) :
    ∃i j k l:Int,a= .int .i64 i∧b= .int .i64 j∧c= .int .i64 k∧d= .int .i64 l∧x=(.agg [.lit (.int .i64 i),.lit (.int .i64 j),.lit (.int .i64 k),.lit (.int .i64 l)],[])∧(Lit.int .i64 i).wf=true∧(Lit.int .i64 j).wf=true∧(Lit.int .i64 k).wf=true∧(Lit.int .i64 l).wf=true:=by
  obtain ⟨xs,n,_,hx,_,hlen,hq⟩:=DataW.trod_struct Tryd.underlying26 h
  obtain ⟨y0,y1,y2,y3,rfl⟩:∃y0 y1 y2 y3,xs=[y0,y1,y2,y3]:=by
    match xs,hlen with
    | [y0,y1,y2,y3],_=>exact ⟨y0,y1,y2,y3,rfl⟩
  have h0:DataW.trod enc Tryd.prog w base sp held n 3 [a]=some y0:=by simpa [cells_int] using hq 0 _ rfl
  have h1:DataW.trod enc Tryd.prog w base sp held n 3 [b]=some y1:=by simpa [cells_int] using hq 1 _ rfl
  have h2:DataW.trod enc Tryd.prog w base sp held n 3 [c]=some y2:=by simpa [cells_int] using hq 2 _ rfl
  have h3:DataW.trod enc Tryd.prog w base sp held n 3 [d]=some y3:=by simpa [cells_int] using hq 3 _ rfl
  obtain ⟨i0,e0,r0,w0⟩:=DataW.trod_int Tryd.underlying3 h0
  obtain ⟨i1,e1,r1,w1⟩:=DataW.trod_int Tryd.underlying3 h1
  obtain ⟨i2,e2,r2,w2⟩:=DataW.trod_int Tryd.underlying3 h2
  obtain ⟨i3,e3,r3,w3⟩:=DataW.trod_int Tryd.underlying3 h3
  simp only [List.cons.injEq,and_true] at e0 e1 e2 e3
  subst e0 e1 e2 e3 r0 r1 r2 r3
  exact ⟨i0,i1,i2,i3,rfl,rfl,rfl,rfl,hx,w0,w1,w2,w3⟩
set_option maxRecDepth 100000 in
theorem open_ins {r:Reach} {b0:Nat} {v:Value} {d:DataW H} {ps:List MemPlace} (hv:Value.okWide Tryd.prog w r b0 28 v) (h:DataW.Trod enc Tryd.prog w base sp held 28 v d ps) :
    ∃m:Ins,v= .agg (insA m)∧d=insD m∧ps=[]∧InsWf m:=by
  obtain ⟨cs,rfl,hsz⟩:=okWide_struct Tryd.underlying28 hv
  obtain ⟨v0,v1,v2,v3,v4,v5,v6,v7,v8,v9,v10,v11,v12,v13,v14,v15,v16,v17,v18,v19,rfl⟩:∃v0 v1 v2 v3 v4 v5 v6 v7 v8 v9 v10 v11 v12 v13 v14 v15 v16 v17 v18 v19,cs=#[v0,v1,v2,v3,v4,v5,v6,v7,v8,v9,v10,v11,v12,v13,v14,v15,v16,v17,v18,v19]:=by
    obtain ⟨l⟩:=cs
    match l,hsz.trans cells_ins with
    | [v0,v1,v2,v3,v4,v5,v6,v7,v8,v9,v10,v11,v12,v13,v14,v15,v16,v17,v18,v19],_=>exact ⟨v0,v1,v2,v3,v4,v5,v6,v7,v8,v9,v10,v11,v12,v13,v14,v15,v16,v17,v18,v19,rfl⟩
  obtain ⟨fuel,hf⟩:=h
  obtain ⟨xs,n,_,hx,_,hlen,hq⟩:=DataW.trod_struct Tryd.underlying28 hf
  obtain ⟨y0,y1,y2,y3,y4,y5,y6,y7,y8,y9,y10,y11,y12,y13,y14,y15,y16,rfl⟩:∃y0 y1 y2 y3 y4 y5 y6 y7 y8 y9 y10 y11 y12 y13 y14 y15 y16,xs=[y0,y1,y2,y3,y4,y5,y6,y7,y8,y9,y10,y11,y12,y13,y14,y15,y16]:=by
    match xs,hlen with
    | [y0,y1,y2,y3,y4,y5,y6,y7,y8,y9,y10,y11,y12,y13,y14,y15,y16],_=>exact ⟨y0,y1,y2,y3,y4,y5,y6,y7,y8,y9,y10,y11,y12,y13,y14,y15,y16,rfl⟩
  have h0:DataW.trod enc Tryd.prog w base sp held n 3 [v0]=some y0:=by simpa [Value.cells,cells_int] using hq 0 _ rfl
  have h1:DataW.trod enc Tryd.prog w base sp held n 3 [v1]=some y1:=by simpa [Value.cells,cells_int] using hq 1 _ rfl
  have h2:DataW.trod enc Tryd.prog w base sp held n 4 [v2]=some y2:=by simpa [Value.cells,cells_bool] using hq 2 _ rfl
  have h3:DataW.trod enc Tryd.prog w base sp held n 3 [v3]=some y3:=by simpa [Value.cells,cells_int] using hq 3 _ rfl
  have h4:DataW.trod enc Tryd.prog w base sp held n 3 [v4]=some y4:=by simpa [Value.cells,cells_int] using hq 4 _ rfl
  have h5:DataW.trod enc Tryd.prog w base sp held n 3 [v5]=some y5:=by simpa [Value.cells,cells_int] using hq 5 _ rfl
  have h6:DataW.trod enc Tryd.prog w base sp held n 3 [v6]=some y6:=by simpa [Value.cells,cells_int] using hq 6 _ rfl
  have h7:DataW.trod enc Tryd.prog w base sp held n 3 [v7]=some y7:=by simpa [Value.cells,cells_int] using hq 7 _ rfl
  have h8:DataW.trod enc Tryd.prog w base sp held n 3 [v8]=some y8:=by simpa [Value.cells,cells_int] using hq 8 _ rfl
  have h9:DataW.trod enc Tryd.prog w base sp held n 22 [v9]=some y9:=by simpa [Value.cells,cells_u32] using hq 9 _ rfl
  have h10:DataW.trod enc Tryd.prog w base sp held n 3 [v10]=some y10:=by simpa [Value.cells,cells_int] using hq 10 _ rfl
  have h11:DataW.trod enc Tryd.prog w base sp held n 3 [v11]=some y11:=by simpa [Value.cells,cells_int] using hq 11 _ rfl
  have h12:DataW.trod enc Tryd.prog w base sp held n 4 [v12]=some y12:=by simpa [Value.cells,cells_bool] using hq 12 _ rfl
  have h13:DataW.trod enc Tryd.prog w base sp held n 4 [v13]=some y13:=by simpa [Value.cells,cells_bool] using hq 13 _ rfl
  have h14:DataW.trod enc Tryd.prog w base sp held n 4 [v14]=some y14:=by simpa [Value.cells,cells_bool] using hq 14 _ rfl
  have h15:DataW.trod enc Tryd.prog w base sp held n 24 [v15]=some y15:=by simpa [Value.cells,cells_u16] using hq 15 _ rfl
  have h16:DataW.trod enc Tryd.prog w base sp held n 26 [v16,v17,v18,v19]=some y16:=by simpa [Value.cells,cells_tup] using hq 16 _ rfl
  obtain ⟨i0,e0,r0,w0⟩:=DataW.trod_int Tryd.underlying3 h0
  obtain ⟨i1,e1,r1,w1⟩:=DataW.trod_int Tryd.underlying3 h1
  obtain ⟨i2,e2,r2⟩:=DataW.trod_bool Tryd.underlying4 h2
  obtain ⟨i3,e3,r3,w3⟩:=DataW.trod_int Tryd.underlying3 h3
  obtain ⟨i4,e4,r4,w4⟩:=DataW.trod_int Tryd.underlying3 h4
  obtain ⟨i5,e5,r5,w5⟩:=DataW.trod_int Tryd.underlying3 h5
  obtain ⟨i6,e6,r6,w6⟩:=DataW.trod_int Tryd.underlying3 h6
  obtain ⟨i7,e7,r7,w7⟩:=DataW.trod_int Tryd.underlying3 h7
  obtain ⟨i8,e8,r8,w8⟩:=DataW.trod_int Tryd.underlying3 h8
  obtain ⟨i9,e9,r9,w9⟩:=DataW.trod_int Tryd.underlying22 h9
  obtain ⟨i10,e10,r10,w10⟩:=DataW.trod_int Tryd.underlying3 h10
  obtain ⟨i11,e11,r11,w11⟩:=DataW.trod_int Tryd.underlying3 h11
  obtain ⟨i12,e12,r12⟩:=DataW.trod_bool Tryd.underlying4 h12
  obtain ⟨i13,e13,r13⟩:=DataW.trod_bool Tryd.underlying4 h13
  obtain ⟨i14,e14,r14⟩:=DataW.trod_bool Tryd.underlying4 h14
  obtain ⟨i15,e15,r15,w15⟩:=DataW.trod_int Tryd.underlying24 h15
  obtain ⟨i16,i17,i18,i19,rfl,rfl,rfl,rfl,r16,w16,w17,w18,w19⟩:=tup_open h16
  simp only [List.cons.injEq,and_true] at e0 e1 e2 e3 e4 e5 e6 e7 e8 e9 e10 e11 e12 e13 e14 e15
  subst e0 e1 e2 e3 e4 e5 e6 e7 e8 e9 e10 e11 e12 e13 e14 e15 r0 r1 r2 r3 r4 r5 r6 r7 r8 r9 r10 r11 r12 r13 r14 r15 r16
  obtain ⟨hd,hp⟩:=Prod.mk.inj hx
  exact ⟨⟨i0,i1,i2,i3,i4,i5,i6,i7,i8,i9,i10,i11,i12,i13,i14,i15,i16,i17,i18,i19⟩,rfl,hd,hp,⟨w0,w1,w3,w4,w5,w6,w7,w8,w9,w10,w11,w15,w16,w17,w18,w19⟩⟩
theorem ins_ok {m:Ins} (h:InsWf m):IOk m:=by
  have b_cond:=bounds_i64 h.cond
  have b_op:=bounds_i64 h.op
  have b_form:=bounds_i64 h.form
  have b_rd:=bounds_i64 h.rd
  have b_rn:=bounds_i64 h.rn
  have b_rm:=bounds_i64 h.rm
  have b_rs:=bounds_i64 h.rs
  have b_ra:=bounds_i64 h.ra
  have b_imm:=bounds_u32 h.imm
  have b_shift:=bounds_i64 h.shift
  have b_amount:=bounds_i64 h.amount
  have b_list:=bounds_u16 h.list
  have b_crn:=bounds_i64 h.crn
  have b_op1:=bounds_i64 h.op1
  have b_crm:=bounds_i64 h.crm
  have b_op2:=bounds_i64 h.op2
  exact ⟨⟨by omega,by omega⟩,⟨by omega,by omega⟩,⟨by omega,by omega⟩,⟨by omega,by omega⟩,⟨by omega,by omega⟩,⟨by omega,by omega⟩,⟨by omega,by omega⟩,⟨by omega,by omega⟩,⟨by omega,by omega⟩,⟨by omega,by omega⟩,⟨by omega,by omega⟩,⟨by omega,by omega⟩,⟨by omega,by omega⟩,⟨by omega,by omega⟩,⟨by omega,by omega⟩,⟨by omega,by omega⟩⟩
theorem laid_mem {P:Program} {W:World} {n:String} {d:DataW Unit}:∀ {L:List (String×DataW Unit)} {ps:List MemPlace},DataW.LaidVars P W L ps→(n,d)∈L→
    ∃g t cs fuel p,P.globalNamed n=some g∧(P.globals[g]?).map (·.type)=some t∧W.var? P n=some cs∧DataW.trod (fun _=>()) P W 0 (fun _=>true) false fuel t cs.toList=some (d,p)
  | [],_,_,hm=>by cases hm
  | (n',d')::L,ps,h,hm=>by
    obtain ⟨g,t,cs,fuel,p,q,h1,h2,h3,h4,h5,_⟩:=h
    rcases List.mem_cons.1 hm with he|hm
    · cases he
      exact ⟨g,t,cs,fuel,p,h1,h2,h3,h4⟩
    · exact laid_mem h5 hm
theorem arr_at {P:Program} {W:World} {fuel:Nat} {t e:TypeId} {m c:Nat} {cs:List Value} {x:DataW Unit×List MemPlace} (h:DataW.trod (fun _=>()) P W 0 (fun _=>true) false fuel t cs=some x)
    (ht:P.underlying t=some (.array m e)) (hce:P.cellsOf e=c) (hct:P.cellsOf t=m*c) :
    cs.length=m*c∧∃ds,x.1= .agg ds∧ds.length=m∧∀i,i<m→∃f' y,ds[i]? =some y.1∧DataW.trod (fun _=>()) P W 0 (fun _=>true) false f' e ((cs.drop (i*c)).take c)=some y:=by
  cases fuel with
  | zero=>simp [DataW.trod] at h
  | succ fuel =>
    simp only [DataW.trod,ht,hct,hce] at h
    split at h
    · rename_i hl
      obtain ⟨xs,hx1,rfl⟩:=Option.map_eq_some_iff.1 h
      refine ⟨by simpa using hl,xs.map (·.1),by simp,?_,fun i hi=> ?_⟩
      · have:=Lib.mapM_length hx1
        simpa using this
      · obtain ⟨b,hb,hf⟩:=Lib.mapM_at hx1 i i (by simp [hi])
        exact ⟨fuel,b,by simp [hb],hf⟩
    · cases h
theorem tab_at {W:World} {L:List (String×DataW Unit)} {ps:List MemPlace} (h:DataW.LaidVars Tryd.prog W L ps) {n:String} {g:Nat} {t e:TypeId} {m c:Nat} (ds:List (DataW Unit))
    (hm:(n,DataW.agg ds)∈L) (hg:Tryd.prog.globalNamed n=some g) (hty:(Tryd.prog.globals[g]?).map (·.type)=some t)
    (ht:Tryd.prog.underlying t=some (.array m e)) (hce:Tryd.prog.cellsOf e=c) (hct:Tryd.prog.cellsOf t=m*c) (i:Nat) (hi:i<m) :
    ∃cs fuel x,(∀j v,j<c→cs[j]? =some v→W.cell? ⟨g,i*c+j,none⟩=some v)∧ds[i]? =some x.1∧DataW.trod (fun _=>()) Tryd.prog W 0 (fun _=>true) false fuel e cs=some x:=by
  obtain ⟨g',t',cs,fuel,p,h1,h2,h3,h4⟩:=laid_mem h hm
  obtain rfl:=Option.some.inj (hg.symm.trans h1)
  obtain rfl:=Option.some.inj (hty.symm.trans h2)
  obtain ⟨_,ds',he,_,hat⟩:=arr_at h4 ht hce hct
  obtain rfl:ds=ds':=by simpa using he
  obtain ⟨f',y,hy,hf⟩:=hat i hi
  refine ⟨_,f',y,?_,hy,hf⟩
  intro j v hj hv
  rw [World.var?_cell hg h3 (i*c+j),←Array.getElem?_toList]
  simpa [List.getElem?_take,List.getElem?_drop,hj] using hv
def rowPD (r:RowP):DataW Unit:= .agg [.lit (.int .u8 (r.op:Int)),.lit (.int .u8 (r.form:Int)),.lit (.int .u32 (r.mask:Int)),.lit (.int .u32 (r.bits:Int)),.lit (.int .u32 (r.parts:Int))]
theorem row_cells {W:World} {fuel:Nat} {cs:List Value} {x:DataW Unit×List MemPlace} (h:DataW.trod (fun _=>()) Tryd.prog W 0 (fun _=>true) false fuel 40 cs=some x) :
    ∃a b c d e:Int,cs=[.int .u8 a,.int .u8 b,.int .u32 c,.int .u32 d,.int .u32 e]∧x.1= .agg [.lit (.int .u8 a),.lit (.int .u8 b),.lit (.int .u32 c),.lit (.int .u32 d),.lit (.int .u32 e)]:=by
  obtain ⟨xs,n,_,hx,hl,hlen,hq⟩:=DataW.trod_struct Tryd.underlying40 h
  rw [cells_row] at hl
  obtain ⟨v0,v1,v2,v3,v4,rfl⟩:∃v0 v1 v2 v3 v4,cs=[v0,v1,v2,v3,v4]:=by
    match cs,hl with
    | [v0,v1,v2,v3,v4],_=>exact ⟨v0,v1,v2,v3,v4,rfl⟩
  obtain ⟨y0,y1,y2,y3,y4,rfl⟩:∃y0 y1 y2 y3 y4,xs=[y0,y1,y2,y3,y4]:=by
    match xs,hlen with
    | [y0,y1,y2,y3,y4],_=>exact ⟨y0,y1,y2,y3,y4,rfl⟩
  have h0:DataW.trod (fun _=>()) Tryd.prog W 0 (fun _=>true) false n 5 [v0]=some y0:=by simpa [cells_u8] using hq 0 _ rfl
  obtain ⟨i0,e0,r0,w0⟩:=DataW.trod_int Tryd.underlying5 h0
  have h1:DataW.trod (fun _=>()) Tryd.prog W 0 (fun _=>true) false n 5 [v1]=some y1:=by simpa [cells_u8] using hq 1 _ rfl
  obtain ⟨i1,e1,r1,w1⟩:=DataW.trod_int Tryd.underlying5 h1
  have h2:DataW.trod (fun _=>()) Tryd.prog W 0 (fun _=>true) false n 22 [v2]=some y2:=by simpa [cells_u32] using hq 2 _ rfl
  obtain ⟨i2,e2,r2,w2⟩:=DataW.trod_int Tryd.underlying22 h2
  have h3:DataW.trod (fun _=>()) Tryd.prog W 0 (fun _=>true) false n 22 [v3]=some y3:=by simpa [cells_u32] using hq 3 _ rfl
  obtain ⟨i3,e3,r3,w3⟩:=DataW.trod_int Tryd.underlying22 h3
  have h4:DataW.trod (fun _=>()) Tryd.prog W 0 (fun _=>true) false n 22 [v4]=some y4:=by simpa [cells_u32] using hq 4 _ rfl
  obtain ⟨i4,e4,r4,w4⟩:=DataW.trod_int Tryd.underlying22 h4
  simp only [List.cons.injEq,and_true] at e0 e1 e2 e3 e4
  subst e0 e1 e2 e3 e4 r0 r1 r2 r3 r4
  exact ⟨i0,i1,i2,i3,i4,rfl,by rw [hx]; rfl⟩
theorem part_cells {W:World} {fuel:Nat} {cs:List Value} {x:DataW Unit×List MemPlace} (h:DataW.trod (fun _=>()) Tryd.prog W 0 (fun _=>true) false fuel 61 cs=some x) :
    ∃a b c d:Int,cs=[.int .u8 a,.int .u8 b,.int .u8 c,.int .u8 d]∧x.1= .agg [.lit (.int .u8 a),.lit (.int .u8 b),.lit (.int .u8 c),.lit (.int .u8 d)]:=by
  obtain ⟨xs,n,_,hx,hl,hlen,hq⟩:=DataW.trod_struct Tryd.underlying61 h
  rw [cells_part] at hl
  obtain ⟨v0,v1,v2,v3,rfl⟩:∃v0 v1 v2 v3,cs=[v0,v1,v2,v3]:=by
    match cs,hl with
    | [v0,v1,v2,v3],_=>exact ⟨v0,v1,v2,v3,rfl⟩
  obtain ⟨y0,y1,y2,y3,rfl⟩:∃y0 y1 y2 y3,xs=[y0,y1,y2,y3]:=by
    match xs,hlen with
    | [y0,y1,y2,y3],_=>exact ⟨y0,y1,y2,y3,rfl⟩
  have h0:DataW.trod (fun _=>()) Tryd.prog W 0 (fun _=>true) false n 5 [v0]=some y0:=by simpa [cells_u8] using hq 0 _ rfl
  obtain ⟨i0,e0,r0,w0⟩:=DataW.trod_int Tryd.underlying5 h0
  have h1:DataW.trod (fun _=>()) Tryd.prog W 0 (fun _=>true) false n 5 [v1]=some y1:=by simpa [cells_u8] using hq 1 _ rfl
  obtain ⟨i1,e1,r1,w1⟩:=DataW.trod_int Tryd.underlying5 h1
  have h2:DataW.trod (fun _=>()) Tryd.prog W 0 (fun _=>true) false n 5 [v2]=some y2:=by simpa [cells_u8] using hq 2 _ rfl
  obtain ⟨i2,e2,r2,w2⟩:=DataW.trod_int Tryd.underlying5 h2
  have h3:DataW.trod (fun _=>()) Tryd.prog W 0 (fun _=>true) false n 5 [v3]=some y3:=by simpa [cells_u8] using hq 3 _ rfl
  obtain ⟨i3,e3,r3,w3⟩:=DataW.trod_int Tryd.underlying5 h3
  simp only [List.cons.injEq,and_true] at e0 e1 e2 e3
  subst e0 e1 e2 e3 r0 r1 r2 r3
  exact ⟨i0,i1,i2,i3,rfl,by rw [hx]; rfl⟩
theorem rows_of {W:World} {L:List (String×DataW Unit)} {ps:List MemPlace} (h:DataW.LaidVars Tryd.prog W L ps) {n:String} {g:Nat} {t:TypeId} {m:Nat} (l:List RowP)
    (hm:(n,DataW.agg (l.map rowPD))∈L) (hg:Tryd.prog.globalNamed n=some g) (hty:(Tryd.prog.globals[g]?).map (·.type)=some t)
    (ht:Tryd.prog.underlying t=some (.array m 40)) (hct:Tryd.prog.cellsOf t=m*5) (hl:l.length=m):∀(q:Nat) r,l[q]? =some r→W.rangeAt g (q*5) (rowL r):=by
  intro q r hr
  have hi:q<m:=by rw [←hl]; exact (List.getElem?_eq_some_iff.1 hr).1
  obtain ⟨cs,fuel,x,h1,h2,h3⟩:=tab_at h _ hm hg hty ht cells_row hct q hi
  obtain ⟨a,b,c,d,e,rfl,hx⟩:=row_cells h3
  rw [hx] at h2
  simp [hr,rowPD] at h2
  obtain ⟨rfl,rfl,rfl,rfl,rfl⟩:=h2
  intro j v hv
  have hj:j<5:=(List.getElem?_eq_some_iff.1 hv).1
  exact h1 j v hj hv
def partPD (p:PartP):DataW Unit:= .agg [.lit (.int .u8 (p.fld:Int)),.lit (.int .u8 (p.at_:Int)),.lit (.int .u8 (p.wide:Int)),.lit (.int .u8 (p.frm:Int))]
theorem parts_of {W:World} {L:List (String×DataW Unit)} {ps:List MemPlace} (h:DataW.LaidVars Tryd.prog W L ps) {n:String} {g:Nat} {t:TypeId}
    (hm:(n,DataW.agg (plL.map partPD))∈L) (hg:Tryd.prog.globalNamed n=some g) (hty:(Tryd.prog.globals[g]?).map (·.type)=some t)
    (ht:Tryd.prog.underlying t=some (.array 28 61)) (hct:Tryd.prog.cellsOf t=28*4):∀k,k<28→W.rangeAt g (k*4) [.int .u8 ((plP k).fld:Int),.int .u8 ((plP k).at_:Int),.int .u8 ((plP k).wide:Int),.int .u8 ((plP k).frm:Int)]:=by
  intro k hk
  obtain ⟨cs,fuel,x,h1,h2,h3⟩:=tab_at h _ hm hg hty ht cells_part hct k hk
  obtain ⟨a,b,c,d,rfl,hx⟩:=part_cells h3
  have hp:plL[k]? =some (plP k):=by
    rw [plP,List.getD_eq_getElem?_getD,List.getElem?_eq_getElem (show k<plL.length from hk)]; rfl
  rw [hx] at h2
  simp [hp,partPD] at h2
  obtain ⟨rfl,rfl,rfl,rfl⟩:=h2
  intro j v hv
  have hj:j<4:=(List.getElem?_eq_some_iff.1 hv).1
  exact h1 j v hj hv
theorem db_of {W:World} {L:List (String×DataW Unit)} {ps:List MemPlace} (h:DataW.LaidVars Tryd.prog W L ps) {n:String} {g:Nat} {t:TypeId}
    (hm:(n,DataW.agg (dbL.map fun (z:Nat)=>DataW.lit (.int .u8 (z:Int))))∈L) (hg:Tryd.prog.globalNamed n=some g) (hty:(Tryd.prog.globals[g]?).map (·.type)=some t)
    (ht:Tryd.prog.underlying t=some (.array 32 5)) (hct:Tryd.prog.cellsOf t=32*1):∀k,k<32→W.cell? ⟨g,k,none⟩=some (.int .u8 ((dbL.getD k 0:Nat):Int)):=by
  intro k hk
  obtain ⟨cs,fuel,x,h1,h2,h3⟩:=tab_at h _ hm hg hty ht cells_u8 hct k hk
  obtain ⟨i,e,r,w0⟩:=DataW.trod_int Tryd.underlying5 h3
  subst e
  rw [r] at h2
  have hp:dbL[k]? =some (dbL.getD k 0):=by
    rw [List.getD_eq_getElem?_getD,List.getElem?_eq_getElem (show k<dbL.length from hk)]; rfl
  simp only [List.getElem?_map,hp,Option.map_some,Option.some.injEq] at h2
  have:=h1 0 _ (by decide) rfl
  simp only [Nat.mul_one,Nat.add_zero] at this
  rw [this]
  injection h2 with h2
  injection h2 with _ h2
  rw [←h2]
end Go.Proofs.YtkmgmmmpiallhaaDoor
