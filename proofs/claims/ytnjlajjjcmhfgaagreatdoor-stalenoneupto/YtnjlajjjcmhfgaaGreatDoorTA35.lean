import Derived.Test.YtnjlajjjcmhfgaaGreatDoorTA32
import Derived.Test.YtnjlajjjcmhfgaaGreatDoorRows
import Derived.ChangeSame
import Derived.WalkKit
import Derived.ProofKit
import Derived.OpenShut
import Derived.Lib.LaidTab
import Derived.Lib.SmallJoins
import Derived.Deep.DeepHandedRow
namespace Go.Proofs.YtnjlajjjcmhfgaaGreatDoor
open Go.ChangeShapes Go.WideShapes Go.ChangeAt Go.RowKit Go.Deep
set_option linter.unusedVariables false
set_option linter.unusedSimpArgs false
variable {H:Type} {enc:TypeId×Value→H} {w:World} {base:Nat} {sp:Nat→Bool} {held:Bool}
theorem cells_i:Tryz.prog.cellsOf 3=1:=by kernel_rfl
theorem cells_b:Tryz.prog.cellsOf 4=1:=by kernel_rfl
theorem cells_u8:Tryz.prog.cellsOf 5=1:=by kernel_rfl
theorem cells_u32:Tryz.prog.cellsOf 32=1:=by kernel_rfl
theorem cells_u64:Tryz.prog.cellsOf 35=1:=by kernel_rfl
theorem cells_a6:Tryz.prog.cellsOf 170=6:=by kernel_rfl
theorem cells_dro:Tryz.prog.cellsOf 34=3:=by kernel_rfl
theorem cells_ctx:Tryz.prog.cellsOf 47=12:=by kernel_rfl
theorem cells_oq:Tryz.prog.cellsOf 37=9:=by kernel_rfl
theorem cells_scene:Tryz.prog.cellsOf 26=4:=by kernel_rfl
theorem cells_u64s:Tryz.prog.cellsOf 22=1:=by kernel_rfl
theorem cells_u32s:Tryz.prog.cellsOf 23=1:=by kernel_rfl
theorem cells_ctxs:Tryz.prog.cellsOf 24=1:=by kernel_rfl
theorem laid_mem {P:Program} {W:World} {n:String} {d:DataW Unit}:∀ {L:List (String×DataW Unit)} {ps:List MemPlace},DataW.LaidVars P W L ps→(n,d)∈L→
    ∃g t cs fuel p,P.globalNamed n=some g∧(P.globals[g]?).map (·.type)=some t∧W.var? P n=some cs∧DataW.trod (fun _=>()) P W 0 (fun _=>true) false fuel t cs.toList=some (d,p)
  | [],_,_,hm=>by cases hm
  | (n',d')::L,ps,h,hm=>by
    obtain ⟨g,t,cs,fuel,p,q,h1,h2,h3,h4,h5,_⟩:=h
    rcases List.mem_cons.1 hm with he|hm
    · cases he
      exact ⟨g,t,cs,fuel,p,h1,h2,h3,h4⟩
    · exact laid_mem h5 hm
theorem arr_at {P:Program} {W:World} {fuel:Nat} {t e:TypeId} {m c:Nat} {cs:List Value} {x:DataW Unit×List MemPlace} (h:DataW.trod (fun _=>()) P W 0 (fun _=>true) false fuel t cs=some x)
    (ht:P.underlying t=some (.array m e)) (hce:P.cellsOf e=c) (hct:P.cellsOf t=m*c) :
    cs.length=m*c∧∃ds,x.1= .agg ds∧ds.length=m∧∀i,i<m→∃f' y,ds[i]? =some y.1∧DataW.trod (fun _=>()) P W 0 (fun _=>true) false f' e ((cs.drop (i*c)).take c)=some y:=by
  cases fuel with
  | zero=>simp [DataW.trod] at h
  | succ fuel =>
    simp only [DataW.trod,ht,hct,hce] at h
    split at h
    · rename_i hl
      obtain ⟨xs,hx1,rfl⟩:=Option.map_eq_some_iff.1 h
      refine ⟨by simpa using hl,xs.map (·.1),by simp,?_,fun i hi=> ?_⟩
      · have:=Lib.mapM_length hx1
        simpa using this
      · obtain ⟨b,hb,hf⟩:=Lib.mapM_at hx1 i i (by simp [hi])
        exact ⟨fuel,b,by simp [hb],hf⟩
    · cases h
theorem tab_at {W:World} {L:List (String×DataW Unit)} {ps:List MemPlace} (h:DataW.LaidVars Tryz.prog W L ps) {n:String} {g:Nat} {t e:TypeId} {m c:Nat} (ds:List (DataW Unit))
    (hm:(n,DataW.agg ds)∈L) (hg:Tryz.prog.globalNamed n=some g) (hty:(Tryz.prog.globals[g]?).map (·.type)=some t)
    (ht:Tryz.prog.underlying t=some (.array m e)) (hce:Tryz.prog.cellsOf e=c) (hct:Tryz.prog.cellsOf t=m*c) (i:Nat) (hi:i<m) :
    ∃cs fuel x,(∀j v,j<c→cs[j]? =some v→W.cell? ⟨g,i*c+j,none⟩=some v)∧ds[i]? =some x.1∧DataW.trod (fun _=>()) Tryz.prog W 0 (fun _=>true) false fuel e cs=some x:=by
  obtain ⟨g',t',cs,fuel,p,h1,h2,h3,h4⟩:=laid_mem h hm
  obtain rfl:=Option.some.inj (hg.symm.trans h1)
  obtain rfl:=Option.some.inj (hty.symm.trans h2)
  obtain ⟨_,ds',he,_,hat⟩:=arr_at h4 ht hce hct
  obtain rfl:ds=ds':=by simpa using he
  obtain ⟨f',y,hy,hf⟩:=hat i hi
  refine ⟨_,f',y,?_,hy,hf⟩
  intro j v hj hv
  rw [World.var?_cell hg h3 (i*c+j),←Array.getElem?_toList]
  simpa [List.getElem?_take,List.getElem?_drop,hj] using hv
theorem tab_of {k:IntKind} {W:World} {L:List (String×DataW Unit)} {ps:List MemPlace} (h:DataW.LaidVars Tryz.prog W L ps) {n:String} {g:Nat} {t e:TypeId} {m:Nat} (l:List Int)
    (hm:(n,DataW.agg (l.map fun z=> .lit (.int k z)))∈L) (hg:Tryz.prog.globalNamed n=some g) (hty:(Tryz.prog.globals[g]?).map (·.type)=some t)
    (ht:Tryz.prog.underlying t=some (.array m e)) (he:Tryz.prog.underlying e=some (.int k)) (hce:Tryz.prog.cellsOf e=1) (hct:Tryz.prog.cellsOf t=m):Tb k W g l:=by
  obtain ⟨g',t',cs,fuel,p,h1,h2,h3,h4⟩:=laid_mem h hm
  obtain rfl:=Option.some.inj (hg.symm.trans h1)
  obtain rfl:=Option.some.inj (hty.symm.trans h2)
  have hcs:=Lib.cells_of_tab (zs:=l) ht he hce hct h4
  intro i v hv
  rw [World.var?_cell hg h3 i,←Array.getElem?_toList,hcs]
  simp [hv]
theorem tab2_of {W:World} {L:List (String×DataW Unit)} {ps:List MemPlace} (h:DataW.LaidVars Tryz.prog W L ps) {n:String} {g:Nat} {t:TypeId} (ls:List (List Int))
    (hm:(n,DataW.agg (ls.map fun l=> .agg (l.map fun z=> .lit (.int .u8 z))))∈L) (hg:Tryz.prog.globalNamed n=some g) (hty:(Tryz.prog.globals[g]?).map (·.type)=some t)
    (ht:Tryz.prog.underlying t=some (.array 6 170)) (hct:Tryz.prog.cellsOf t=36) (i j:Nat) (l:List Int) (v:Int) (hl:ls[i]? =some l) (hv:l[j]? =some v) (hj:j<6) (hi:i<6):W.cell? ⟨g,i*6+j,none⟩=some (.int .u8 v):=by
  obtain ⟨g',t',cs,fuel,p,h1,h2,h3,h4⟩:=laid_mem h hm
  obtain rfl:=Option.some.inj (hg.symm.trans h1)
  obtain rfl:=Option.some.inj (hty.symm.trans h2)
  rw [World.var?_cell hg h3 (i*6+j),←Array.getElem?_toList]
  cases fuel with
  | zero=>simp [DataW.trod] at h4
  | succ fuel =>
    simp only [DataW.trod,ht,hct,cells_a6] at h4
    split at h4
    · obtain ⟨xs,hx1,hx⟩:=Option.map_eq_some_iff.1 h4
      have hxs:xs.map (·.1)=ls.map fun l=>(DataW.agg (l.map fun z=> .lit (.int .u8 z)):DataW Unit):=by
        have:=congrArg Prod.fst hx
        simpa using this
      obtain ⟨b,hb,hf⟩:=Lib.mapM_at hx1 i i (by simp [hi])
      have hb1:b.1=DataW.agg (l.map fun z=> .lit (.int .u8 z)):=by
        have e1:(xs.map (·.1))[i]? =some b.1:=by simp [hb]
        rw [hxs] at e1
        simp [hl] at e1
        exact e1.symm
      obtain ⟨b1,b2⟩:=b
      simp only at hb1
      subst hb1
      have hcs:=Lib.cells_of_tab (zs:=l) Tryz.underlying170 Tryz.underlying5 cells_u8 cells_a6 hf
      have e2:=congrArg (·[j]?) hcs
      simp only [List.getElem?_take,List.getElem?_drop,List.getElem?_map,hv,if_pos hj,Option.map_some] at e2
      exact e2
    · cases h4
theorem add_add' (a:Addr) (m n:Nat):(a.add m).add n=a.add (m+n):=by
  unfold Addr.add
  split <;>split <;>simp_all <;>omega
theorem bulk_pos {H:Type} (d:DataW H):1≤Rows.uptoBulk d:=by
  cases d with
  | lit l=>cases l <;>simp [Rows.uptoBulk]
  | nil=>simp [Rows.uptoBulk]
  | ptr d=>simp [Rows.uptoBulk]
  | slice a b=>simp [Rows.uptoBulk]
  | agg a=>simp [Rows.uptoBulk]
  | iface a b=>simp [Rows.uptoBulk]
  | map a=>simp [Rows.uptoBulk]
  | held a=>simp [Rows.uptoBulk]
theorem bulk_map {H:Type} {D:Nat→DataW H} {β:Nat}:∀ {l:List Nat},(∀i∈l,β≤Rows.uptoBulk (D i))→β*l.length≤Rows.uptoBulkAll (l.map D)
  | [],_=>by simp
  | i::l,h=>by
    have h1:=bulk_map (l:=l) (fun j hj=>h j (.tail _ hj))
    have h2:=h i (.head _)
    simp only [List.map_cons,Rows.uptoBulkAll,List.length_cons,Nat.mul_add,Nat.mul_one]
    omega
def droD (b:Dro):DataW H:= .agg [.lit (.int .i64 b.kind),.lit (.int .u32 b.va),.lit (.int .i64 b.asid)]
structure DroWf (b:Dro):Prop where
  kind:(Lit.int .i64 b.kind).wf=true
  va:(Lit.int .u32 b.va).wf=true
  asid:(Lit.int .i64 b.asid).wf=true
set_option maxRecDepth 100000 in
theorem dro_read {W:World} {fuel:Nat} {cs:List Value} {x:DataW H×List MemPlace} (h:DataW.trod enc Tryz.prog W base sp held fuel 34 cs=some x) :
    ∃b:Dro,cs=[.int .i64 b.kind,.int .u32 b.va,.int .i64 b.asid]∧x=(droD b,[])∧DroWf b:=by
  obtain ⟨xs,n,_,hx,hl,hlen,hq⟩:=DataW.trod_struct Tryz.underlying34 h
  rw [cells_dro] at hl
  obtain ⟨v0,v1,v2,rfl⟩:∃v0 v1 v2,cs=[v0,v1,v2]:=by
    match cs,hl with
    | [v0,v1,v2],_=>exact ⟨v0,v1,v2,rfl⟩
  obtain ⟨y0,y1,y2,rfl⟩:∃y0 y1 y2,xs=[y0,y1,y2]:=by
    match xs,hlen with
    | [y0,y1,y2],_=>exact ⟨y0,y1,y2,rfl⟩
  have h0:DataW.trod enc Tryz.prog W base sp held n 3 [v0]=some y0:=by simpa [Value.cells,cells_i] using hq 0 _ rfl
  have h1:DataW.trod enc Tryz.prog W base sp held n 32 [v1]=some y1:=by simpa [Value.cells,cells_u32] using hq 1 _ rfl
  have h2:DataW.trod enc Tryz.prog W base sp held n 3 [v2]=some y2:=by simpa [Value.cells,cells_i] using hq 2 _ rfl
  obtain ⟨i0,e0,r0,w0⟩:=DataW.trod_int Tryz.underlying3 h0
  obtain ⟨i1,e1,r1,w1⟩:=DataW.trod_int Tryz.underlying32 h1
  obtain ⟨i2,e2,r2,w2⟩:=DataW.trod_int Tryz.underlying3 h2
  simp only [List.cons.injEq,and_true] at e0 e1 e2
  subst e0 e1 e2 r0 r1 r2
  exact ⟨⟨i0,i1,i2⟩,rfl,by rw [hx]; rfl,⟨w0,w1,w2⟩⟩
theorem open_rows {α:Type} {W:World} (E:TypeId) (k β:Nat) (hk:0<k) (hE:Tryz.prog.cellsOf E=k) (en:α→List Value) (ok:α→Prop) (d0:α)
    (dec:∀ {fuel:Nat} {cs:List Value} {x:DataW H×List MemPlace},DataW.trod enc Tryz.prog W 0 (fun _=>true) true fuel E cs=some x→∃o,cs=en o∧ok o∧β≤Rows.uptoBulk x.1) (hen:∀o,(en o).length=k)
    {T:TypeId} (hT:Tryz.prog.underlying T=some (.slice E)) {fuel:Nat} {a:Option Addr} {len cap:Nat} {x:DataW H×List MemPlace}
    (h:DataW.trod enc Tryz.prog W 0 (fun _=>true) true fuel T (Value.slice a len cap).cells.toList=some x) :
    ∃ops:List α,Sli en k W (.slice a len cap) ops∧(∀o∈ops,ok o)∧β*ops.length+1≤Rows.uptoBulk x.1:=by
  rcases open_slice hT h with ⟨hcs,rfl⟩|⟨a',len',cap',m,n,D,Pl,hcs,hb,hl,hm,hmm,rfl,hx⟩
  · simp [Value.cells] at hcs
    obtain ⟨rfl,rfl,rfl⟩:=hcs
    exact ⟨[],⟨none,0,rfl,fun i o ho=>(by simp at ho)⟩,fun o ho=>(by cases ho),by simp [Rows.uptoBulk]⟩
  · simp [Value.cells] at hcs
    obtain ⟨rfl,rfl,rfl⟩:=hcs
    have hlm:len≤m:=by rw [hmm]; split <;>omega
    have first:∀i,i<len→β≤Rows.uptoBulk (D i)∧∃o,ok o∧∀j v,(en o)[j]? =some v→W.cell? (a'.add (i*k+j))=some v:=by
      intro i hi
      obtain ⟨cs',h1,h2⟩:=hx i (by omega)
      rw [hE] at h1
      obtain ⟨_,hlen,hcell⟩:=World.cells?_some h1
      obtain ⟨o,rfl,ho,hbk⟩:=dec h2
      refine ⟨hbk,o,ho,fun j v hv=> ?_⟩
      have hj:j<k:=by
        have:=(List.getElem?_eq_some_iff.1 hv).1
        rw [hen] at this; exact this
      have ej:=hcell j hj
      rw [add_add',hv] at ej
      exact ej
    have hat:∀i o,(∀j v,(en o)[j]? =some v→W.cell? (a'.add (i*k+j))=some v)→∃v,W.cell? (a'.add (i*k))=some v:=by
      intro i o ho
      obtain ⟨v,hv⟩:∃v,(en o)[0]? =some v:=⟨_,List.getElem?_eq_getElem (by rw [hen]; exact hk)⟩
      exact ⟨v,by have:=ho 0 v hv; simpa using this⟩
    have each:∀i:Nat,∃o:α,i<len→(∃b off,some a'=some (⟨b,off,none⟩:Addr)∧b<W.heap.size∧∀j v,(en o)[j]? =some v→W.cell? ⟨b,off+i*k+j,none⟩=some v)∧ok o:=by
      intro i
      by_cases hi:i<len
      · obtain ⟨_,o,ho,hc⟩:=first i hi
        obtain ⟨_,o0,_,hc0⟩:=first 0 (by omega)
        obtain ⟨v0,e0⟩:=hat i o hc
        obtain ⟨v1,e1⟩:=hat 0 o0 hc0
        have hb0:=World.block_lt_of_cell? W _ e0
        obtain ⟨b,off,spot⟩:=a'
        have hsp:spot=none:=by
          have:=World.cell?_spot e1
          simpa [Addr.add] using this
        subst hsp
        rw [Addr.add_lit] at hb0
        refine ⟨o,fun _=>⟨⟨b,off,rfl,hb0,fun j v hv=> ?_⟩,ho⟩⟩
        have ej:=hc j v hv
        rw [Addr.add_lit,←Nat.add_assoc] at ej
        exact ej
      · exact ⟨d0,fun h=>absurd h hi⟩
    obtain ⟨f,hf⟩:=Classical.skolem.1 each
    refine ⟨(List.range len).map f,⟨some a',cap,by simp,fun i o ho=> ?_⟩,fun o ho=> ?_,?_⟩
    · have hi:i<len:=by
        have:=(List.getElem?_eq_some_iff.1 ho).1
        simpa using this
      rw [List.getElem?_map,List.getElem?_range hi] at ho
      simp at ho
      subst ho
      exact (hf i hi).1
    · obtain ⟨i,hi,rfl⟩:=List.mem_map.1 ho
      exact (hf i (List.mem_range.1 hi)).2
    · have:=bulk_map (D:=D) (β:=β) (l:=List.range len) (fun i hi=>(first i (List.mem_range.1 hi)).1)
      simp only [List.length_map,List.length_range,Rows.uptoBulk] at this ⊢
      omega
set_option maxRecDepth 100000 in
theorem u32_cells {W:World} {fuel:Nat} {cs:List Value} {x:DataW H×List MemPlace} (h:DataW.trod enc Tryz.prog W base sp held fuel 32 cs=some x) :
    ∃o:Int,cs=e32 o∧(0≤o∧o<4294967296)∧1≤Rows.uptoBulk x.1:=by
  obtain ⟨i0,e0,_,w0⟩:=DataW.trod_int Tryz.underlying32 h
  have b0:=bounds_u32 w0
  exact ⟨i0,e0,⟨by omega,by omega⟩,bulk_pos _⟩
set_option maxRecDepth 100000 in
theorem u64_cells {W:World} {fuel:Nat} {cs:List Value} {x:DataW H×List MemPlace} (h:DataW.trod enc Tryz.prog W base sp held fuel 35 cs=some x) :
    ∃o:Int,cs=e64 o∧(0≤o∧o<18446744073709551616)∧1≤Rows.uptoBulk x.1:=by
  obtain ⟨i0,e0,_,w0⟩:=DataW.trod_int Tryz.underlying35 h
  have b0:=bounds_u64 w0
  exact ⟨i0,e0,⟨by omega,by omega⟩,bulk_pos _⟩
set_option maxRecDepth 100000 in
theorem ctx_cells {W:World} {fuel:Nat} {cs:List Value} {x:DataW H×List MemPlace} (h:DataW.trod enc Tryz.prog W base sp held fuel 47 cs=some x) :
    ∃o:Ctx,cs=encC o∧o.Ok∧13≤Rows.uptoBulk x.1:=by
  obtain ⟨xs,n,_,hx,hl,hlen,hq⟩:=DataW.trod_struct Tryz.underlying47 h
  rw [cells_ctx] at hl
  obtain ⟨v0,v1,v2,v3,v4,v5,v6,v7,v8,v9,v10,v11,rfl⟩:∃v0 v1 v2 v3 v4 v5 v6 v7 v8 v9 v10 v11,cs=[v0,v1,v2,v3,v4,v5,v6,v7,v8,v9,v10,v11]:=by
    match cs,hl with
    | [v0,v1,v2,v3,v4,v5,v6,v7,v8,v9,v10,v11],_=>exact ⟨v0,v1,v2,v3,v4,v5,v6,v7,v8,v9,v10,v11,rfl⟩
  obtain ⟨y0,y1,y2,y3,y4,y5,y6,y7,y8,y9,y10,y11,rfl⟩:∃y0 y1 y2 y3 y4 y5 y6 y7 y8 y9 y10 y11,xs=[y0,y1,y2,y3,y4,y5,y6,y7,y8,y9,y10,y11]:=by
    match xs,hlen with
    | [y0,y1,y2,y3,y4,y5,y6,y7,y8,y9,y10,y11],_=>exact ⟨y0,y1,y2,y3,y4,y5,y6,y7,y8,y9,y10,y11,rfl⟩
  have h0:DataW.trod enc Tryz.prog W base sp held n 4 [v0]=some y0:=by simpa [Value.cells,cells_b] using hq 0 _ rfl
  have h1:DataW.trod enc Tryz.prog W base sp held n 4 [v1]=some y1:=by simpa [Value.cells,cells_b] using hq 1 _ rfl
  have h2:DataW.trod enc Tryz.prog W base sp held n 4 [v2]=some y2:=by simpa [Value.cells,cells_b] using hq 2 _ rfl
  have h3:DataW.trod enc Tryz.prog W base sp held n 3 [v3]=some y3:=by simpa [Value.cells,cells_i] using hq 3 _ rfl
  have h4:DataW.trod enc Tryz.prog W base sp held n 4 [v4]=some y4:=by simpa [Value.cells,cells_b] using hq 4 _ rfl
  have h5:DataW.trod enc Tryz.prog W base sp held n 4 [v5]=some y5:=by simpa [Value.cells,cells_b] using hq 5 _ rfl
  have h6:DataW.trod enc Tryz.prog W base sp held n 35 [v6]=some y6:=by simpa [Value.cells,cells_u64] using hq 6 _ rfl
  have h7:DataW.trod enc Tryz.prog W base sp held n 35 [v7]=some y7:=by simpa [Value.cells,cells_u64] using hq 7 _ rfl
  have h8:DataW.trod enc Tryz.prog W base sp held n 32 [v8]=some y8:=by simpa [Value.cells,cells_u32] using hq 8 _ rfl
  have h9:DataW.trod enc Tryz.prog W base sp held n 32 [v9]=some y9:=by simpa [Value.cells,cells_u32] using hq 9 _ rfl
  have h10:DataW.trod enc Tryz.prog W base sp held n 32 [v10]=some y10:=by simpa [Value.cells,cells_u32] using hq 10 _ rfl
  have h11:DataW.trod enc Tryz.prog W base sp held n 3 [v11]=some y11:=by simpa [Value.cells,cells_i] using hq 11 _ rfl
  obtain ⟨i0,e0,r0⟩:=DataW.trod_bool Tryz.underlying4 h0
  obtain ⟨i1,e1,r1⟩:=DataW.trod_bool Tryz.underlying4 h1
  obtain ⟨i2,e2,r2⟩:=DataW.trod_bool Tryz.underlying4 h2
  obtain ⟨i3,e3,r3,w3⟩:=DataW.trod_int Tryz.underlying3 h3
  have b3:=bounds_i64 w3
  obtain ⟨i4,e4,r4⟩:=DataW.trod_bool Tryz.underlying4 h4
  obtain ⟨i5,e5,r5⟩:=DataW.trod_bool Tryz.underlying4 h5
  obtain ⟨i6,e6,r6,w6⟩:=DataW.trod_int Tryz.underlying35 h6
  have b6:=bounds_u64 w6
  obtain ⟨i7,e7,r7,w7⟩:=DataW.trod_int Tryz.underlying35 h7
  have b7:=bounds_u64 w7
  obtain ⟨i8,e8,r8,w8⟩:=DataW.trod_int Tryz.underlying32 h8
  have b8:=bounds_u32 w8
  obtain ⟨i9,e9,r9,w9⟩:=DataW.trod_int Tryz.underlying32 h9
  have b9:=bounds_u32 w9
  obtain ⟨i10,e10,r10,w10⟩:=DataW.trod_int Tryz.underlying32 h10
  have b10:=bounds_u32 w10
  obtain ⟨i11,e11,r11,w11⟩:=DataW.trod_int Tryz.underlying3 h11
  have b11:=bounds_i64 w11
  simp only [List.cons.injEq,and_true] at e0 e1 e2 e3 e4 e5 e6 e7 e8 e9 e10 e11
  subst e0 e1 e2 e3 e4 e5 e6 e7 e8 e9 e10 e11
  subst r0 r1 r2 r3 r4 r5 r6 r7 r8 r9 r10 r11
  refine ⟨⟨i0,i1,i2,i3,i4,i5,i6,i7,i8,i9,i10,i11⟩,rfl,⟨by show _≤i3∧i3≤_; omega,by show _≤i6∧i6<_; omega,by show _≤i7∧i7<_; omega,by show _≤i8∧i8<_; omega⟩,?_⟩
  rw [hx]
  simp [Rows.uptoBulk,Rows.uptoBulkAll,droD]
set_option maxRecDepth 100000 in
theorem oq_cells {W:World} {fuel:Nat} {cs:List Value} {x:DataW H×List MemPlace} (h:DataW.trod enc Tryz.prog W base sp held fuel 37 cs=some x) :
    ∃o:Oq,cs=encQ o∧o.Ok∧11≤Rows.uptoBulk x.1:=by
  obtain ⟨xs,n,_,hx,hl,hlen,hq⟩:=DataW.trod_struct Tryz.underlying37 h
  rw [cells_oq] at hl
  obtain ⟨v0,v1,v2,v3,v4,v5,v6,v7,v8,rfl⟩:∃v0 v1 v2 v3 v4 v5 v6 v7 v8,cs=[v0,v1,v2,v3,v4,v5,v6,v7,v8]:=by
    match cs,hl with
    | [v0,v1,v2,v3,v4,v5,v6,v7,v8],_=>exact ⟨v0,v1,v2,v3,v4,v5,v6,v7,v8,rfl⟩
  obtain ⟨y0,y1,y2,y3,y4,y5,y6,rfl⟩:∃y0 y1 y2 y3 y4 y5 y6,xs=[y0,y1,y2,y3,y4,y5,y6]:=by
    match xs,hlen with
    | [y0,y1,y2,y3,y4,y5,y6],_=>exact ⟨y0,y1,y2,y3,y4,y5,y6,rfl⟩
  have h0:DataW.trod enc Tryz.prog W base sp held n 3 [v0]=some y0:=by simpa [Value.cells,cells_i] using hq 0 _ rfl
  have h1:DataW.trod enc Tryz.prog W base sp held n 3 [v1]=some y1:=by simpa [Value.cells,cells_i] using hq 1 _ rfl
  have h2:DataW.trod enc Tryz.prog W base sp held n 34 [v2,v3,v4]=some y2:=by simpa [Value.cells,cells_dro] using hq 2 _ rfl
  have h3:DataW.trod enc Tryz.prog W base sp held n 35 [v5]=some y3:=by simpa [Value.cells,cells_u64] using hq 3 _ rfl
  have h4:DataW.trod enc Tryz.prog W base sp held n 32 [v6]=some y4:=by simpa [Value.cells,cells_u32] using hq 4 _ rfl
  have h5:DataW.trod enc Tryz.prog W base sp held n 3 [v7]=some y5:=by simpa [Value.cells,cells_i] using hq 5 _ rfl
  have h6:DataW.trod enc Tryz.prog W base sp held n 32 [v8]=some y6:=by simpa [Value.cells,cells_u32] using hq 6 _ rfl
  obtain ⟨i0,e0,r0,w0⟩:=DataW.trod_int Tryz.underlying3 h0
  have b0:=bounds_i64 w0
  obtain ⟨i1,e1,r1,w1⟩:=DataW.trod_int Tryz.underlying3 h1
  have b1:=bounds_i64 w1
  obtain ⟨i2,e2,r2,w2⟩:=dro_read h2
  obtain ⟨i3,e3,r3,w3⟩:=DataW.trod_int Tryz.underlying35 h3
  have b3:=bounds_u64 w3
  obtain ⟨i4,e4,r4,w4⟩:=DataW.trod_int Tryz.underlying32 h4
  have b4:=bounds_u32 w4
  obtain ⟨i5,e5,r5,w5⟩:=DataW.trod_int Tryz.underlying3 h5
  have b5:=bounds_i64 w5
  obtain ⟨i6,e6,r6,w6⟩:=DataW.trod_int Tryz.underlying32 h6
  have b6:=bounds_u32 w6
  simp only [List.cons.injEq,and_true] at e0 e1 e2 e3 e4 e5 e6
  obtain ⟨rfl,rfl,rfl⟩:=e2
  have bd:=bounds_u32 w2.va
  subst e0 e1 e3 e4 e5 e6
  subst r0 r1 r2 r3 r4 r5 r6
  refine ⟨⟨i0,i1,i2,i3,i4,i5,i6⟩,rfl,⟨by show _≤i1∧i1≤_; omega,by show _≤i3∧i3<_; omega,by show _≤i4∧i4<_; omega,by show _≤i2.va∧i2.va<_; omega,by show _≤i5∧i5≤_; omega,by show _≤i6∧i6<_; omega⟩,?_⟩
  rw [hx]
  simp [Rows.uptoBulk,Rows.uptoBulkAll,droD]
theorem open_u64s {W:World} {fuel:Nat} {a:Option Addr} {len cap:Nat} {x:DataW H×List MemPlace} (h:DataW.trod enc Tryz.prog W 0 (fun _=>true) true fuel 22 (Value.slice a len cap).cells.toList=some x) :
    ∃l:List Int,Sli e64 1 W (.slice a len cap) l∧(∀o∈l,(0:Int)≤o∧o<18446744073709551616)∧1*l.length+1≤Rows.uptoBulk x.1 :=
  open_rows 35 1 1 (by omega) cells_u64 e64 (fun o => (0 : Int) ≤ o ∧ o < 18446744073709551616) 0 (fun h => u64_cells h) (fun _ => rfl) Tryz.underlying22 h
theorem open_u32s {W:World} {fuel:Nat} {a:Option Addr} {len cap:Nat} {x:DataW H×List MemPlace} (h:DataW.trod enc Tryz.prog W 0 (fun _=>true) true fuel 23 (Value.slice a len cap).cells.toList=some x) :
    ∃l:List Int,Sli e32 1 W (.slice a len cap) l∧(∀o∈l,(0:Int)≤o∧o<4294967296)∧1*l.length+1≤Rows.uptoBulk x.1 :=
  open_rows 32 1 1 (by omega) cells_u32 e32 (fun o => (0 : Int) ≤ o ∧ o < 4294967296) 0 (fun h => u32_cells h) (fun _ => rfl) Tryz.underlying23 h
theorem open_ctxs {W:World} {fuel:Nat} {a:Option Addr} {len cap:Nat} {x:DataW H×List MemPlace} (h:DataW.trod enc Tryz.prog W 0 (fun _=>true) true fuel 24 (Value.slice a len cap).cells.toList=some x) :
    ∃l:List Ctx,Sli encC 12 W (.slice a len cap) l∧(∀o∈l,o.Ok)∧13*l.length+1≤Rows.uptoBulk x.1 :=
  open_rows 47 12 13 (by omega) cells_ctx encC (fun o => o.Ok) cZ (fun h => ctx_cells h) (fun _ => rfl) Tryz.underlying24 h
theorem open_oqs {W:World} {fuel:Nat} {a:Option Addr} {len cap:Nat} {x:DataW H×List MemPlace} (h:DataW.trod enc Tryz.prog W 0 (fun _=>true) true fuel 27 (Value.slice a len cap).cells.toList=some x) :
    ∃l:List Oq,Sli encQ 9 W (.slice a len cap) l∧(∀o∈l,o.Ok)∧11*l.length+1≤Rows.uptoBulk x.1 :=
  open_rows 37 9 11 (by omega) cells_oq encQ (fun o => o.Ok) ⟨0, 0, ⟨0, 0, 0⟩, 0, 0, 0, 0⟩ (fun h => oq_cells h) (fun _ => rfl) Tryz.underlying27 h
set_option maxRecDepth 100000 in
theorem open_scene {W:World} {r:Reach} {b0:Nat} {v:Value} {d:DataW H} {ps:List MemPlace} (hv:Value.okWide Tryz.prog W r b0 26 v) (h:DataW.Trod enc Tryz.prog W 0 (fun _=>true) true 26 v d ps) :
    ∃f vp vw vc pas ws cs,v= .agg #[.int .i64 f,vp,vw,vc]∧Sli e64 1 W vp pas∧Sli e32 1 W vw ws∧Sli encC 12 W vc cs∧(∀x∈pas,(0:Int)≤x∧x<18446744073709551616)∧(∀x∈ws,(0:Int)≤x∧x<4294967296)∧(∀c∈cs,c.Ok)∧pas.length+ws.length+13*cs.length≤Rows.uptoBulk d:=by
  obtain ⟨cs,rfl,hsz⟩:=okWide_struct Tryz.underlying26 hv
  obtain ⟨v0,v1,v2,v3,rfl⟩:∃v0 v1 v2 v3,cs=#[v0,v1,v2,v3]:=by
    obtain ⟨l⟩:=cs
    match l,hsz.trans cells_scene with
    | [v0,v1,v2,v3],_=>exact ⟨v0,v1,v2,v3,rfl⟩
  obtain ⟨fuel,hf⟩:=h
  obtain ⟨xs,n,_,hx,_,hlen,hq⟩:=DataW.trod_struct Tryz.underlying26 hf
  obtain ⟨y0,y1,y2,y3,rfl⟩:∃y0 y1 y2 y3,xs=[y0,y1,y2,y3]:=by
    match xs,hlen with
    | [y0,y1,y2,y3],_=>exact ⟨y0,y1,y2,y3,rfl⟩
  have h0:DataW.trod enc Tryz.prog W 0 (fun _=>true) true n 3 [v0]=some y0:=by simpa [Value.cells,cells_i] using hq 0 _ rfl
  have h1:DataW.trod enc Tryz.prog W 0 (fun _=>true) true n 22 [v1]=some y1:=by simpa [Value.cells,cells_u64s] using hq 1 _ rfl
  have h2:DataW.trod enc Tryz.prog W 0 (fun _=>true) true n 23 [v2]=some y2:=by simpa [Value.cells,cells_u32s] using hq 2 _ rfl
  have h3:DataW.trod enc Tryz.prog W 0 (fun _=>true) true n 24 [v3]=some y3:=by simpa [Value.cells,cells_ctxs] using hq 3 _ rfl
  obtain ⟨i0,e0,r0,w0⟩:=DataW.trod_int Tryz.underlying3 h0
  have q1:∃a l c,v1= .slice a l c:=by
    rcases open_slice Tryz.underlying22 h1 with ⟨hc,_⟩|⟨a,l,c,m,n',D,Pl,hc,_⟩
    · exact ⟨none,0,0,(List.cons.inj hc).1⟩
    · exact ⟨some a,l,c,(List.cons.inj hc).1⟩
  have q2:∃a l c,v2= .slice a l c:=by
    rcases open_slice Tryz.underlying23 h2 with ⟨hc,_⟩|⟨a,l,c,m,n',D,Pl,hc,_⟩
    · exact ⟨none,0,0,(List.cons.inj hc).1⟩
    · exact ⟨some a,l,c,(List.cons.inj hc).1⟩
  have q3:∃a l c,v3= .slice a l c:=by
    rcases open_slice Tryz.underlying24 h3 with ⟨hc,_⟩|⟨a,l,c,m,n',D,Pl,hc,_⟩
    · exact ⟨none,0,0,(List.cons.inj hc).1⟩
    · exact ⟨some a,l,c,(List.cons.inj hc).1⟩
  obtain ⟨a1,l1,c1,rfl⟩:=q1
  obtain ⟨a2,l2,c2,rfl⟩:=q2
  obtain ⟨a3,l3,c3,rfl⟩:=q3
  obtain ⟨pas,s1,o1,k1⟩:=open_u64s h1
  obtain ⟨ws,s2,o2,k2⟩:=open_u32s h2
  obtain ⟨cs,s3,o3,k3⟩:=open_ctxs h3
  simp only [List.cons.injEq,and_true] at e0
  subst e0
  obtain ⟨hd,_⟩:=Prod.mk.inj hx
  refine ⟨i0,_,_,_,pas,ws,cs,rfl,s1,s2,s3,o1,o2,o3,?_⟩
  rw [hd]
  simp only [List.map_cons,List.map_nil,Rows.uptoBulk,Rows.uptoBulkAll]
  omega
end Go.Proofs.YtnjlajjjcmhfgaaGreatDoor
