import Derived.Test.YtkmgmmmpiallhaaDoorRa
import Derived.Test.YtkmgmmmpiallhaaDoorQa
import Derived.Great.CaseRows
namespace Go.Proofs.YtkmgmmmpiallhaaDoor
open Go.RowKit
set_option linter.unusedVariables false
set_option linter.unusedSimpArgs false
def RV (w:World):List Value→List RowJ→Prop
  | [],[]=>True
  | v::vs,r::rs=>(∃b s,v= .agg #[.slice (some ⟨b,0,none⟩) r.ops.length r.ops.length,.int .i64 r.form,.string s]∧Sl w b r.ops∧Pat s r.pat)∧RV w vs rs
  | _,_=>False
theorem RV.below {w w':World} (hb:Below w.heap.size w w'):∀ {vs:List Value} {rs:List RowJ},RV w vs rs→RV w' vs rs
  | [],[],_=>trivial
  | _::_,_::_,⟨⟨b,s,h1,h2,h3⟩,h⟩=>⟨⟨b,s,h1,h2.below hb,h3⟩,RV.below hb h⟩
  | [],_::_,h=>h.elim
  | _::_,[],h=>h.elim
theorem RV.len {w:World}:∀ {vs:List Value} {rs:List RowJ},RV w vs rs→vs.length=rs.length
  | [],[],_=>rfl
  | _::_,_::_,⟨_,h⟩=>by simp [RV.len h]
  | [],_::_,h=>h.elim
  | _::_,[],h=>h.elim
theorem RV.append {w:World} {us:List Value} {qs:List RowJ} (hu:RV w us qs):∀ {vs:List Value} {rs:List RowJ},RV w vs rs→RV w (vs++us) (rs++qs)
  | [],[],_=>hu
  | _::_,_::_,⟨h1,h⟩=>⟨h1,RV.append hu h⟩
  | [],_::_,h=>h.elim
  | _::_,[],h=>h.elim
theorem RV.get {w:World}:∀ {vs:List Value} {rs:List RowJ} (h:RV w vs rs) {j:Nat} (hj:j<rs.length) ,∃b s,vs[j]? =some (.agg #[.slice (some ⟨b,0,none⟩) rs[j].ops.length rs[j].ops.length,.int .i64 rs[j].form,.string s])∧Sl w b rs[j].ops∧Pat s rs[j].pat
  | _::_,_::_,⟨⟨b,s,h1,h2,h3⟩,h⟩,0,_=>⟨b,s,by rw [h1]; rfl,h2,h3⟩
  | _::vs,_::rs,⟨_,h⟩,j+1,hj=>RV.get h (by simpa using hj)
  | [],[],_,_,hj=>absurd hj (by simp)
  | [],_::_,h,_,_=>h.elim
theorem RV.size {w:World}:∀ {vs:List Value} {rs:List RowJ},RV w vs rs→∀v∈vs,v.cells.size=3
  | [],[],_,v,hv=>absurd hv (by simp)
  | _::_,_::_,⟨⟨b,s,h1,_,_⟩,h⟩,v,hv=>by
    rcases List.mem_cons.1 hv with rfl|hv
    · rw [h1]; rfl
    · exact RV.size h v hv
  | [],_::_,h,_,_=>h.elim
  | _::_,[],h,_,_=>h.elim
structure RowC where
  op:Int
  form:Int
  str:ByteArray
def rwOps (tI tR:TypeId) (pos:String):Nat→Nat→List RowC→List Oper
  | _,_,[]=>[]
  | d,ix,x::xs =>
    { dst:=some d,op:= .buildSlice tI 1 #[(0,.const (.int .i64 x.op))],type:=tI,pos:=pos,after:=#[],guard:=none } ::
    { dst:=some (d+1),op:= .build tR #[(0,.tmp d),(1,.const (.int .i64 x.form)),(2,.const (.string x.str))],type:=tR,pos:=pos,after:=#[⟨ix,.data⟩],guard:=none } ::
    rwOps tI tR pos (d+2) (ix+2) xs
def SaidC:List RowC→List RowJ→Prop
  | [],[]=>True
  | x::xs,r::rs=>(r.ops=[x.op]∧r.form=x.form∧Pat x.str r.pat)∧SaidC xs rs
  | _,_=>False
theorem wpList_rows {P:Program} {ops:Array Oper} {rest:List Oper} {Q:Exit→Act→World→Prop} (tR:TypeId) (pos:String)
    (hu:P.underlying 48=some (.slice 3)) (hsz:(P.info? 3).map (·.size)=some 1) (hz:((P.info? 3).bind (·.zero)).isSome=true)
    (hbR:∀(a:Value) (f:Int) (s:ByteArray) b,a= .slice (some ⟨b,0,none⟩) 1 1→P.built tR [(0,a),(1,.int .i64 f),(2,.string s)]=some #[a,.int .i64 f,.string s]) :
    ∀(xs:List RowC) (rs:List RowJ) (d ix:Nat) (a:Act) (w:World),SaidC xs rs→d+2*xs.length≤a.tmps.size→
      (∀(a':Act) (w':World) (vs:List Value),a'.tmps.size=a.tmps.size→a'.defers=a.defers→vs.length=xs.length→(∀i (h:i<vs.length),a'.eval (.tmp (d+(2*i+1)))=vs[i])→
        (∀j,j<d→a'.eval (.tmp j)=a.eval (.tmp j))→RV w' vs rs→Below w.heap.size w w'→wpList P ops Q rest a' w')→
      wpList P ops Q (rwOps 48 tR pos d ix xs++rest) a w
  | [],[],d,ix,a,w,_,_,h=>h a w [] rfl rfl rfl (fun i hi=>absurd hi (by simp)) (fun _ _=>rfl) trivial (Below.refl _ _)
  | x::xs,r::rs,d,ix,a,w,⟨⟨h1,h2,h3⟩,hS⟩,hd,h=>by
    have hlt:d+1<a.tmps.size:=by simp at hd; omega
    show wpList P ops Q (_::_::(rwOps 48 tR pos (d+2) (ix+2) xs++rest)) a w
    refine wpList_buildFlatAt rfl 48 3 1 _ rfl .i64 [x.op] w.heap.size rfl (some d) rfl hu hsz hz rfl (by decide) (by decide) rfl ?_
    refine wpList_buildTo rfl tR _ rfl (some (d+1)) rfl #[.slice (some ⟨w.heap.size,0,none⟩) 1 1,.int .i64 x.form,.string x.str] ?_ ?_
    · simp only [List.map_toArray,List.map_cons,List.map_nil]
      rw [Act.eval_put_same _ _ _ (by omega)]
      exact hbR _ _ _ _ rfl
    have HB:=below_new w (.cells ([x.op].map (Value.int .i64)).toArray 3)
    have HS:Sl (w.alloc (.cells ([x.op].map (Value.int .i64)).toArray 3)) w.heap.size [x.op]:=⟨Bl.new w 3 _,by simp⟩
    refine wpList_rows tR pos hu hsz hz hbR xs rs (d+2) (ix+2) _ _ hS (by rw [Act.size_put,Act.size_put]; simp at hd; omega) fun a' w' vs hs hdf hl hev hlow hR hb=> ?_
    refine h a' w' (.agg #[.slice (some ⟨w.heap.size,0,none⟩) 1 1,.int .i64 x.form,.string x.str]::vs) (by rw [hs,Act.size_put,Act.size_put]) (by rw [hdf,Act.defers_put',Act.defers_put']) (by simp [hl]) (fun i hi=> ?_) (fun j hj=> ?_) ⟨⟨w.heap.size,x.str,by rw [h1,h2]; rfl,by rw [h1]; exact HS.below hb,h3⟩,hR⟩ (Below.step HB hb)
    · cases i with
      | zero=>rw [show d+(2*0+1)=d+1 by omega,hlow (d+1) (by omega),Act.eval_put_same _ _ _ (by rw [Act.size_put]; omega)]; rfl
      | succ i =>
        have:=hev i (by simpa using hi)
        rw [show d+(2*(i+1)+1)=d+2+(2*i+1) by omega,this]
        rfl
    · rw [hlow j (by omega),Act.eval_put_ne _ _ _ _ (by omega),Act.eval_put_ne _ _ _ _ (by omega)]
  | [],_::_,_,_,_,_,h,_,_=>h.elim
  | _::_,[],_,_,_,_,h,_,_=>h.elim
structure RowsAt (w:World) (g:Nat) (rs:List RowJ):Prop where
  is:∃vs,Bl w g 50 (vs.flatMap fun v=>v.cells.toList)∧RV w vs rs
theorem RowsAt.below {w w':World} {g:Nat} {rs:List RowJ} (h:RowsAt w g rs) (hb:Below w.heap.size w w'):RowsAt w' g rs:=by
  obtain ⟨vs,h1,h2⟩:=h.is
  exact ⟨vs,h1.below hb,h2.below hb⟩
def moreC:List RowC:=[⟨17,0,⟨#[99,99,99,99,32,48,48,49,49,32,48,48,48,48,32,105,105,105,105,32,100,100,100,100,32,105,105,105,105,32,105,105,105,105,32,105,105,105,105]⟩⟩,
  ⟨18,0,⟨#[99,99,99,99,32,48,48,49,49,32,48,49,48,48,32,105,105,105,105,32,100,100,100,100,32,105,105,105,105,32,105,105,105,105,32,105,105,105,105]⟩⟩,
  ⟨19,0,⟨#[99,99,99,99,32,48,48,48,48,32,48,48,48,115,32,100,100,100,100,32,48,48,48,48,32,114,114,114,114,32,49,48,48,49,32,109,109,109,109]⟩⟩,
  ⟨20,0,⟨#[99,99,99,99,32,48,48,48,48,32,48,48,49,115,32,100,100,100,100,32,97,97,97,97,32,114,114,114,114,32,49,48,48,49,32,109,109,109,109]⟩⟩,
  ⟨21,0,⟨#[99,99,99,99,32,48,48,48,48,32,49,48,48,115,32,100,100,100,100,32,97,97,97,97,32,114,114,114,114,32,49,48,48,49,32,109,109,109,109]⟩⟩,
  ⟨22,0,⟨#[99,99,99,99,32,48,48,48,48,32,49,48,49,115,32,100,100,100,100,32,97,97,97,97,32,114,114,114,114,32,49,48,48,49,32,109,109,109,109]⟩⟩,
  ⟨23,0,⟨#[99,99,99,99,32,48,48,48,48,32,49,49,48,115,32,100,100,100,100,32,97,97,97,97,32,114,114,114,114,32,49,48,48,49,32,109,109,109,109]⟩⟩,
  ⟨24,0,⟨#[99,99,99,99,32,48,48,48,48,32,49,49,49,115,32,100,100,100,100,32,97,97,97,97,32,114,114,114,114,32,49,48,48,49,32,109,109,109,109]⟩⟩,
  ⟨25,0,⟨#[99,99,99,99,32,48,48,48,49,32,48,49,49,48,32,49,49,49,49,32,100,100,100,100,32,49,49,49,49,32,48,48,48,49,32,109,109,109,109]⟩⟩,
  ⟨26,0,⟨#[99,99,99,99,32,48,49,49,48,32,49,48,49,49,32,49,49,49,49,32,100,100,100,100,32,49,49,49,49,32,48,48,49,49,32,109,109,109,109]⟩⟩,
  ⟨27,0,⟨#[99,99,99,99,32,48,49,49,48,32,49,49,49,48,32,49,49,49,49,32,100,100,100,100,32,107,107,48,48,32,48,49,49,49,32,109,109,109,109]⟩⟩,
  ⟨28,0,⟨#[99,99,99,99,32,48,49,49,48,32,49,49,49,49,32,49,49,49,49,32,100,100,100,100,32,107,107,48,48,32,48,49,49,49,32,109,109,109,109]⟩⟩,
  ⟨29,0,⟨#[99,99,99,99,32,48,49,49,48,32,49,48,49,48,32,49,49,49,49,32,100,100,100,100,32,107,107,48,48,32,48,49,49,49,32,109,109,109,109]⟩⟩,
  ⟨30,0,⟨#[99,99,99,99,32,48,49,49,48,32,49,48,49,49,32,49,49,49,49,32,100,100,100,100,32,107,107,48,48,32,48,49,49,49,32,109,109,109,109]⟩⟩,
  ⟨41,0,⟨#[99,99,99,99,32,49,48,49,48,32,105,105,105,105,32,105,105,105,105,32,105,105,105,105,32,105,105,105,105,32,105,105,105,105,32,105,105,105,105]⟩⟩,
  ⟨42,0,⟨#[99,99,99,99,32,49,48,49,49,32,105,105,105,105,32,105,105,105,105,32,105,105,105,105,32,105,105,105,105,32,105,105,105,105,32,105,105,105,105]⟩⟩,
  ⟨43,0,⟨#[99,99,99,99,32,48,48,48,49,32,48,48,49,48,32,49,49,49,49,32,49,49,49,49,32,49,49,49,49,32,48,48,48,49,32,109,109,109,109]⟩⟩,
  ⟨44,0,⟨#[99,99,99,99,32,48,48,48,49,32,48,48,49,48,32,49,49,49,49,32,49,49,49,49,32,49,49,49,49,32,48,48,49,49,32,109,109,109,109]⟩⟩,
  ⟨45,0,⟨#[99,99,99,99,32,49,49,49,49,32,105,105,105,105,32,105,105,105,105,32,105,105,105,105,32,105,105,105,105,32,105,105,105,105,32,105,105,105,105]⟩⟩,
  ⟨46,0,⟨#[99,99,99,99,32,48,48,48,49,32,48,48,49,48,32,105,105,105,105,32,105,105,105,105,32,105,105,105,105,32,48,49,49,49,32,105,105,105,105]⟩⟩,
  ⟨47,0,⟨#[99,99,99,99,32,48,48,48,49,32,48,115,48,48,32,49,49,49,49,32,100,100,100,100,32,48,48,48,48,32,48,48,48,48,32,48,48,48,48]⟩⟩,
  ⟨48,2,⟨#[99,99,99,99,32,48,48,48,49,32,48,115,49,48,32,107,107,107,107,32,49,49,49,49,32,48,48,48,48,32,48,48,48,48,32,109,109,109,109]⟩⟩,
  ⟨48,1,⟨#[99,99,99,99,32,48,48,49,49,32,48,115,49,48,32,107,107,107,107,32,49,49,49,49,32,105,105,105,105,32,105,105,105,105,32,105,105,105,105]⟩⟩,
  ⟨49,0,⟨#[99,99,99,99,32,49,49,49,48,32,121,121,121,48,32,120,120,120,120,32,100,100,100,100,32,49,49,49,49,32,118,118,118,49,32,122,122,122,122]⟩⟩,
  ⟨50,0,⟨#[99,99,99,99,32,49,49,49,48,32,121,121,121,49,32,120,120,120,120,32,100,100,100,100,32,49,49,49,49,32,118,118,118,49,32,122,122,122,122]⟩⟩,
  ⟨51,0,⟨#[99,99,99,99,32,48,48,49,49,32,48,48,49,48,32,48,48,48,48,32,49,49,49,49,32,48,48,48,48,32,48,48,48,48,32,48,48,48,48]⟩⟩,
  ⟨52,0,⟨#[99,99,99,99,32,48,48,49,49,32,48,48,49,48,32,48,48,48,48,32,49,49,49,49,32,48,48,48,48,32,48,48,48,48,32,48,48,49,49]⟩⟩]
theorem moreS:SaidC moreC moreJ:=by
  unfold moreC
  iterate 27 (refine ⟨⟨rfl,rfl,rfl,by decide,by decide⟩,?_⟩)
  trivial
def loadsC:List RowC:=[⟨31,1,⟨#[99,99,99,99,32,48,49,48,112,32,117,48,119,49,32,110,110,110,110,32,100,100,100,100,32,105,105,105,105,32,105,105,105,105,32,105,105,105,105]⟩⟩,
  ⟨32,1,⟨#[99,99,99,99,32,48,49,48,112,32,117,48,119,48,32,110,110,110,110,32,100,100,100,100,32,105,105,105,105,32,105,105,105,105,32,105,105,105,105]⟩⟩,
  ⟨33,1,⟨#[99,99,99,99,32,48,49,48,112,32,117,49,119,49,32,110,110,110,110,32,100,100,100,100,32,105,105,105,105,32,105,105,105,105,32,105,105,105,105]⟩⟩,
  ⟨34,1,⟨#[99,99,99,99,32,48,49,48,112,32,117,49,119,48,32,110,110,110,110,32,100,100,100,100,32,105,105,105,105,32,105,105,105,105,32,105,105,105,105]⟩⟩,
  ⟨31,2,⟨#[99,99,99,99,32,48,49,49,112,32,117,48,119,49,32,110,110,110,110,32,100,100,100,100,32,107,107,107,107,107,32,116,116,32,48,32,109,109,109,109]⟩⟩,
  ⟨32,2,⟨#[99,99,99,99,32,48,49,49,112,32,117,48,119,48,32,110,110,110,110,32,100,100,100,100,32,107,107,107,107,107,32,116,116,32,48,32,109,109,109,109]⟩⟩,
  ⟨33,2,⟨#[99,99,99,99,32,48,49,49,112,32,117,49,119,49,32,110,110,110,110,32,100,100,100,100,32,107,107,107,107,107,32,116,116,32,48,32,109,109,109,109]⟩⟩,
  ⟨34,2,⟨#[99,99,99,99,32,48,49,49,112,32,117,49,119,48,32,110,110,110,110,32,100,100,100,100,32,107,107,107,107,107,32,116,116,32,48,32,109,109,109,109]⟩⟩,
  ⟨35,1,⟨#[99,99,99,99,32,48,48,48,112,32,117,49,119,49,32,110,110,110,110,32,100,100,100,100,32,105,105,105,105,32,49,48,49,49,32,105,105,105,105]⟩⟩,
  ⟨36,1,⟨#[99,99,99,99,32,48,48,48,112,32,117,49,119,48,32,110,110,110,110,32,100,100,100,100,32,105,105,105,105,32,49,48,49,49,32,105,105,105,105]⟩⟩,
  ⟨37,1,⟨#[99,99,99,99,32,48,48,48,112,32,117,49,119,49,32,110,110,110,110,32,100,100,100,100,32,105,105,105,105,32,49,49,48,49,32,105,105,105,105]⟩⟩,
  ⟨38,1,⟨#[99,99,99,99,32,48,48,48,112,32,117,49,119,49,32,110,110,110,110,32,100,100,100,100,32,105,105,105,105,32,49,49,49,49,32,105,105,105,105]⟩⟩,
  ⟨35,2,⟨#[99,99,99,99,32,48,48,48,112,32,117,48,119,49,32,110,110,110,110,32,100,100,100,100,32,48,48,48,48,32,49,48,49,49,32,109,109,109,109]⟩⟩,
  ⟨36,2,⟨#[99,99,99,99,32,48,48,48,112,32,117,48,119,48,32,110,110,110,110,32,100,100,100,100,32,48,48,48,48,32,49,48,49,49,32,109,109,109,109]⟩⟩,
  ⟨37,2,⟨#[99,99,99,99,32,48,48,48,112,32,117,48,119,49,32,110,110,110,110,32,100,100,100,100,32,48,48,48,48,32,49,49,48,49,32,109,109,109,109]⟩⟩,
  ⟨38,2,⟨#[99,99,99,99,32,48,48,48,112,32,117,48,119,49,32,110,110,110,110,32,100,100,100,100,32,48,48,48,48,32,49,49,49,49,32,109,109,109,109]⟩⟩,
  ⟨39,0,⟨#[99,99,99,99,32,49,48,48,112,32,117,48,119,49,32,110,110,110,110,32,108,108,108,108,32,108,108,108,108,32,108,108,108,108,32,108,108,108,108]⟩⟩,
  ⟨40,0,⟨#[99,99,99,99,32,49,48,48,112,32,117,48,119,48,32,110,110,110,110,32,108,108,108,108,32,108,108,108,108,32,108,108,108,108,32,108,108,108,108]⟩⟩]
theorem loadsS:SaidC loadsC loadsJ:=by
  unfold loadsC
  iterate 18 (refine ⟨⟨rfl,rfl,rfl,by decide,by decide⟩,?_⟩)
  trivial
theorem intsU:Tryd.prog.underlying 48=some (.slice 3):=by kernel_rfl
theorem intI:(Tryd.prog.info? 3).map (·.size)=some 1:=by kernel_rfl
theorem intZ:((Tryd.prog.info? 3).bind (·.zero)).isSome=true:=by kernel_rfl
theorem rowsU:Tryd.prog.underlying 53=some (.slice 50):=by kernel_rfl
theorem rowI:(Tryd.prog.info? 50).map (·.size)=some 3:=by kernel_rfl
theorem rowZ':((Tryd.prog.info? 50).bind (·.zero)).isSome=true:=by kernel_rfl
theorem wpList_assign {P:Program} {ops:Array Oper} {rest:List Oper} {o:Oper} {a:Act} {w:World} {Q:Exit→Act→World→Prop} (hg:o.guard=none) (x:Operand) (ho:o.op= .assign x) (d:Option Tmp) (hd:o.dst=d) (v:Value) (hv:a.eval x=v)
    (h:wpList P ops Q rest (a.put d v) w):wpList P ops Q (o::rest) a w:=by
  subst hd; subst hv
  exact wpList_plain hg fun _ hK=>by
    unfold Oper.wp execOp
    simp only [ho,Sem.run_bind,Sem.run_pure,Result.andThen_ok]
    exact hK _ _ h
theorem rowB (a:Value) (f:Int) (s:ByteArray) (b:Nat) (h:a= .slice (some ⟨b,0,none⟩) 1 1):Tryd.prog.built 50 [(0,a),(1,.int .i64 f),(2,.string s)]=some #[a,.int .i64 f,.string s]:=by
  subst h; kernel_rfl
set_option maxRecDepth 100000 in
set_option maxHeartbeats 400000 in
theorem jmore_any (w:World):Calls Tryd.prog 53 #[] w fun e w'=>∃g,e= .returned (.slice (some ⟨g,0,none⟩) 27 27)∧RowsAt w' g moreJ∧Below w.heap.size w w':=by
  go_enter Tryd.func53,Tryd.ntmps53
  go_wp2_with (guard_target =~ wpList _ _ _ (Oper.mk (some 1) _ _ _ _ _::_) _ _; refine Hid.out ?_)
  refine hidW (hidW ?_)
  change wpList _ _ _ (rwOps 48 50 "ref.go:41" 1 0 moreC ++ _) _ _
  refine wpList_rows 50 _ intsU intI intZ rowB moreC moreJ 1 0 _ w moreS (by decide) fun a' w' vs hs hd hl hev hlow hR hb=> ?_
  have hl:vs.length=27:=hl
  have hs:a'.tmps.size=56:=hs
  refine Great.wpList_buildRows rfl 53 50 _ 3 vs (by rw [hl]) (fun i=>1+(2*i+1)) w'.heap.size rfl (some 55) rfl rowsU rowI rowZ' (by decide) (by rw [hl]; decide) (by rw [hl]; decide) (by rw [hl]; rfl) hR.size hev ?_
  refine wpList_assign rfl (.tmp 55) rfl (some 0) rfl (.slice (some ⟨w'.heap.size,0,none⟩) vs.length vs.length) (Act.eval_put_same _ _ _ (by omega)) ?_
  have hz:((a'.put (some 55) (.slice (some ⟨w'.heap.size,0,none⟩) vs.length vs.length)).put (some 0) (.slice (some ⟨w'.heap.size,0,none⟩) vs.length vs.length)).tmps[0]?.getD undef= .slice (some ⟨w'.heap.size,0,none⟩) vs.length vs.length:=by
    have:=Act.eval_put_same (a'.put (some 55) (.slice (some ⟨w'.heap.size,0,none⟩) vs.length vs.length)) 0 (.slice (some ⟨w'.heap.size,0,none⟩) vs.length vs.length) (by rw [Act.size_put]; omega)
    simpa [Act.eval] using this
  have hd2:((a'.put (some 55) (.slice (some ⟨w'.heap.size,0,none⟩) vs.length vs.length)).put (some 0) (.slice (some ⟨w'.heap.size,0,none⟩) vs.length vs.length)).defers=[]:=by rw [Act.defers_put',Act.defers_put',hd]
  have HB:=Below.step hb (below_new w' (.cells (vs.flatMap fun v=>v.cells.toList).toArray 50))
  have HN:=Bl.new w' 50 (vs.flatMap fun v=>v.cells.toList)
  have HR:=hR.below (below_new w' (.cells (vs.flatMap fun v=>v.cells.toList).toArray 50))
  rw [hl] at *
  generalize ((a'.put (some 55) (.slice (some ⟨w'.heap.size,0,none⟩) 27 27)).put (some 0) (.slice (some ⟨w'.heap.size,0,none⟩) 27 27))=A at *
  go_wp2
  exact bodyPost_ret (v:= .slice (some ⟨w'.heap.size,0,none⟩) 27 27) (by simp [results,Tryd.results53,go_sem,hz]) hd2 ⟨_,rfl,⟨vs,HN,HR⟩,HB⟩
set_option maxRecDepth 100000 in
set_option maxHeartbeats 400000 in
theorem jloads_any (w:World):Calls Tryd.prog 54 #[] w fun e w'=>∃g,e= .returned (.slice (some ⟨g,0,none⟩) 18 18)∧RowsAt w' g loadsJ∧Below w.heap.size w w':=by
  go_enter Tryd.func54,Tryd.ntmps54
  go_wp2_with (guard_target =~ wpList _ _ _ (Oper.mk (some 1) _ _ _ _ _::_) _ _; refine Hid.out ?_)
  refine hidW (hidW ?_)
  change wpList _ _ _ (rwOps 48 50 "ref.go:74" 1 0 loadsC ++ _) _ _
  refine wpList_rows 50 _ intsU intI intZ rowB loadsC loadsJ 1 0 _ w loadsS (by decide) fun a' w' vs hs hd hl hev hlow hR hb=> ?_
  have hl:vs.length=18:=hl
  have hs:a'.tmps.size=38:=hs
  refine Great.wpList_buildRows rfl 53 50 _ 3 vs (by rw [hl]) (fun i=>1+(2*i+1)) w'.heap.size rfl (some 37) rfl rowsU rowI rowZ' (by decide) (by rw [hl]; decide) (by rw [hl]; decide) (by rw [hl]; rfl) hR.size hev ?_
  refine wpList_assign rfl (.tmp 37) rfl (some 0) rfl (.slice (some ⟨w'.heap.size,0,none⟩) vs.length vs.length) (Act.eval_put_same _ _ _ (by omega)) ?_
  have hz:((a'.put (some 37) (.slice (some ⟨w'.heap.size,0,none⟩) vs.length vs.length)).put (some 0) (.slice (some ⟨w'.heap.size,0,none⟩) vs.length vs.length)).tmps[0]?.getD undef= .slice (some ⟨w'.heap.size,0,none⟩) vs.length vs.length:=by
    have:=Act.eval_put_same (a'.put (some 37) (.slice (some ⟨w'.heap.size,0,none⟩) vs.length vs.length)) 0 (.slice (some ⟨w'.heap.size,0,none⟩) vs.length vs.length) (by rw [Act.size_put]; omega)
    simpa [Act.eval] using this
  have hd2:((a'.put (some 37) (.slice (some ⟨w'.heap.size,0,none⟩) vs.length vs.length)).put (some 0) (.slice (some ⟨w'.heap.size,0,none⟩) vs.length vs.length)).defers=[]:=by rw [Act.defers_put',Act.defers_put',hd]
  have HB:=Below.step hb (below_new w' (.cells (vs.flatMap fun v=>v.cells.toList).toArray 50))
  have HN:=Bl.new w' 50 (vs.flatMap fun v=>v.cells.toList)
  have HR:=hR.below (below_new w' (.cells (vs.flatMap fun v=>v.cells.toList).toArray 50))
  rw [hl] at *
  generalize ((a'.put (some 37) (.slice (some ⟨w'.heap.size,0,none⟩) 18 18)).put (some 0) (.slice (some ⟨w'.heap.size,0,none⟩) 18 18))=A at *
  go_wp2
  exact bodyPost_ret (v:= .slice (some ⟨w'.heap.size,0,none⟩) 18 18) (by simp [results,Tryd.results54,go_sem,hz]) hd2 ⟨_,rfl,⟨vs,HN,HR⟩,HB⟩
theorem Sl.grown {w w':World} {b:Nat} {l:List Int} (h:Sl w b l) {base n:Nat} {v:Value} {xs:List Value} (ho:w.ownsRow base 50 3 v n xs) (hg:w.grownBy w' v.ownBlock):Sl w' b l:=by
  refine ⟨(hg.block b h.bl.lt fun e=> ?_).trans h.bl,h.len⟩
  rcases ho.2 with ⟨rfl,_⟩|⟨g,cap,cur,rfl,_,hc,_⟩
  · cases e
  · obtain rfl:b=g:=by simpa [Value.ownBlock] using e
    have h1:w.heap[b]? =some (.cells _ 3 (0,0)):=h.bl
    rw [h1] at hc
    cases hc
theorem RV.grown {w w':World} {base n:Nat} {v:Value} {xs:List Value} (ho:w.ownsRow base 50 3 v n xs) (hg:w.grownBy w' v.ownBlock):∀ {vs:List Value} {rs:List RowJ},RV w vs rs→RV w' vs rs
  | [],[],_=>trivial
  | _::_,_::_,⟨⟨b,s,h1,h2,h3⟩,h⟩=>⟨⟨b,s,h1,h2.grown ho hg,h3⟩,RV.grown ho hg h⟩
  | [],_::_,h=>h.elim
  | _::_,[],h=>h.elim
theorem RV.one {w:World}:∀ {vs:List Value} {rs:List RowJ},RV w vs rs→∀u∈vs.flatMap fun v=>v.cells.toList,u.oneCell'=true
  | [],[],_,u,hu=>absurd hu (by simp)
  | _::_,_::_,⟨⟨b,s,h1,_,_⟩,h⟩,u,hu=>by
    rw [List.flatMap_cons,List.mem_append] at hu
    rcases hu with hu|hu
    · rw [h1] at hu
      simp [Value.cells] at hu
      rcases hu with rfl|rfl|rfl <;>rfl
    · exact RV.one h u hu
  | [],_::_,h,_,_=>h.elim
  | _::_,[],h,_,_=>h.elim
theorem RV.flat {w:World}:∀ {vs:List Value} {rs:List RowJ},RV w vs rs→(vs.flatMap fun v=>v.cells.toList).length=rs.length*3
  | [],[],_=>rfl
  | _::_,r::rs,⟨⟨b,s,h1,_,_⟩,h⟩=>by
    rw [List.flatMap_cons,List.length_append,RV.flat h,h1]
    simp [Value.cells]; omega
  | [],_::_,h=>h.elim
  | _::_,[],h=>h.elim
structure LS (W w:World) (v:Value) (n:Nat) (rs:List RowJ):Prop where
  bel:Below W.heap.size W w
  own:∃vs,w.ownsRow W.heap.size 50 3 v n (vs.flatMap fun v=>v.cells.toList)∧RV w vs rs
theorem LS.below {W w w':World} {v:Value} {n:Nat} {rs:List RowJ} (h:LS W w v n rs) (hb:Below w.heap.size w w'):LS W w' v n rs:=by
  obtain ⟨vs,⟨h1,h2⟩,h3⟩:=h.own
  refine ⟨Below.step h.bel hb,vs,⟨h1,?_⟩,h3.below hb⟩
  rcases h2 with h2|⟨g,cap,cur,e,a,b,c⟩
  · exact .inl h2
  · exact .inr ⟨g,cap,cur,e,a,(hb.block g (Array.getElem?_eq_some_iff.1 b).1).trans b,c⟩
theorem grown_bel {W w w':World} {v:Value} {n:Nat} {xs:List Value} (h:Below W.heap.size W w) (h1:w.ownsRow W.heap.size 50 3 v n xs) (hg:w.grownBy w' v.ownBlock):Below W.heap.size W w':=by
  refine ⟨hg.os.trans h.os,hg.tape.trans h.tape,hg.output.trans h.output,Nat.le_trans h.size hg.size,fun i hi=>(hg.block i (Nat.lt_of_lt_of_le hi h.size) fun e=> ?_).trans (h.block i hi)⟩
  rcases h1.2 with ⟨rfl,_⟩|⟨g,cap,cur,rfl,hge,_⟩
  · cases e
  · obtain rfl:i=g:=by simpa [Value.ownBlock] using e
    omega
theorem rowInfo:∃i z,Tryd.prog.info? 50=some i∧i.zero=some z∧i.size=3∧i.bytes=48∧z.cells.size=3:=by
  have h:(Tryd.prog.info? 50).bind (fun i=>i.zero.map fun z=>(i.size,i.bytes,z.cells.size))=some (3,48,3):=by kernel_rfl
  cases hi:Tryd.prog.info? 50 with
  | none=>rw [hi] at h; cases h
  | some i =>
    rw [hi] at h
    cases hz:i.zero with
    | none=>simp only [Option.bind_some,hz] at h; cases h
    | some z =>
      simp only [Option.bind_some,hz,Option.map_some,Option.some.injEq,Prod.mk.injEq] at h
      exact ⟨i,z,rfl,hz,h.1,h.2.1,h.2.2⟩
theorem wpList_more {W w:World} {ops:Array Oper} {rest:List Oper} {o:Oper} {a:Act} {Q:Exit→Act→World→Prop} (hgd:o.guard=none) (s x:Operand)
    (ho:o.op= .call { callee:= .builtin .append,args:=#[s,x],argTypes:=#[53,53] }) (d:Option Tmp) (hd:o.dst=d)
    (v:Value) (n g m:Nat) (rs qs:List RowJ) (hs:a.eval s=v) (hx:a.eval x= .slice (some ⟨g,0,none⟩) m m) (H:LS W w v n rs) (HR:RowsAt w g qs) (hm:m=qs.length) (hle:n+m≤100)
    (h:∀v' w',LS W w' v' (n+m) (rs++qs)→wpList Tryd.prog ops Q rest (a.put d v') w'):wpList Tryd.prog ops Q (o::rest) a w:=by
  obtain ⟨us,hb,hu⟩:=HR.is
  obtain ⟨vs,h1,h3⟩:=H.own
  obtain ⟨i,z,hi,hz,hsz,hby,hzs⟩:=rowInfo
  subst hd
  refine wpList_append_own w hgd s x 53 ho W.heap.size 50 i z 3 48 rowsU hi hz hsz hby hzs (by decide) v n _ hs h1 ⟨g,0,none⟩ m m (us.flatMap fun v=>v.cells.toList) hx (by rw [hu.flat,hm]) ?_ hu.one (by unfold maxLen; omega) (by omega) H.bel.size ?_
  · intro j u hj
    have:(⟨g,0,none⟩:Addr).add j=⟨g,j,none⟩:=by unfold Addr.add; split <;>simp_all
    rw [this,hb.cell j]
    exact hj
  · intro v' w' k hg _
    exact h v' w' ⟨grown_bel H.bel h1 hg,vs++us,by rw [List.flatMap_append]; exact k,RV.append (RV.grown h1 hg hu) (RV.grown h1 hg h3)⟩
theorem wpList_ints {P:Program} {w:World} {ops:Array Oper} {rest:List Oper} {o:Oper} {a:Act} {Q:Exit→Act→World→Prop} (hu:P.underlying 48=some (.slice 3)) (hsz:(P.info? 3).map (·.size)=some 1) (hz:((P.info? 3).bind (·.zero)).isSome=true)
    (hg:o.guard=none) (len:Nat) (parts:Array (Nat×Operand)) (ho:o.op= .buildSlice 48 len parts) (zs:List Int) (d:Option Tmp) (hd:o.dst=d) (hlen:len=zs.length) (hpos:0<len) (hs:len≤100)
    (hparts:parts.toList=(zs.zipIdx 0).map fun x=>(x.2,Operand.const (Value.int .i64 x.1)))
    (h:∀b w',Sl w' b zs→Below w.heap.size w w'→wpList P ops Q rest (a.put d (.slice (some ⟨b,0,none⟩) len len)) w'):wpList P ops Q (o::rest) a w:=by
  refine wpList_buildFlatAt hg 48 3 len parts ho .i64 zs w.heap.size rfl d hd hu hsz hz hlen hpos (by omega) hparts (h _ _ ⟨Bl.new w 3 _,by omega⟩ (below_new _ _))
structure I3 (W w:World) (b1 b2 b3:Nat):Prop where
  bel:Below W.heap.size W w
  a:Sl w b1 [1,2,3,4,5,6,7,8,13,15]
  b:Sl w b2 [9,10,11,12]
  c:Sl w b3 [14,16]
def headV (b1 b2 b3:Nat):List Value:=[.agg #[.slice (some ⟨b1,0,none⟩) 10 10,.int .i64 1,.string ⟨#[99,99,99,99,32,48,48,49,32,111,111,111,111,32,115,32,110,110,110,110,32,100,100,100,100,32,105,105,105,105,32,105,105,105,105,32,105,105,105,105]⟩],
  .agg #[.slice (some ⟨b1,0,none⟩) 10 10,.int .i64 2,.string ⟨#[99,99,99,99,32,48,48,48,32,111,111,111,111,32,115,32,110,110,110,110,32,100,100,100,100,32,107,107,107,107,107,32,116,116,32,48,32,109,109,109,109]⟩],
  .agg #[.slice (some ⟨b1,0,none⟩) 10 10,.int .i64 3,.string ⟨#[99,99,99,99,32,48,48,48,32,111,111,111,111,32,115,32,110,110,110,110,32,100,100,100,100,32,114,114,114,114,32,48,32,116,116,32,49,32,109,109,109,109]⟩],
  .agg #[.slice (some ⟨b2,0,none⟩) 4 4,.int .i64 1,.string ⟨#[99,99,99,99,32,48,48,49,32,111,111,111,111,32,49,32,110,110,110,110,32,48,48,48,48,32,105,105,105,105,32,105,105,105,105,32,105,105,105,105]⟩],
  .agg #[.slice (some ⟨b2,0,none⟩) 4 4,.int .i64 2,.string ⟨#[99,99,99,99,32,48,48,48,32,111,111,111,111,32,49,32,110,110,110,110,32,48,48,48,48,32,107,107,107,107,107,32,116,116,32,48,32,109,109,109,109]⟩],
  .agg #[.slice (some ⟨b2,0,none⟩) 4 4,.int .i64 3,.string ⟨#[99,99,99,99,32,48,48,48,32,111,111,111,111,32,49,32,110,110,110,110,32,48,48,48,48,32,114,114,114,114,32,48,32,116,116,32,49,32,109,109,109,109]⟩],
  .agg #[.slice (some ⟨b3,0,none⟩) 2 2,.int .i64 1,.string ⟨#[99,99,99,99,32,48,48,49,32,111,111,111,111,32,115,32,48,48,48,48,32,100,100,100,100,32,105,105,105,105,32,105,105,105,105,32,105,105,105,105]⟩],
  .agg #[.slice (some ⟨b3,0,none⟩) 2 2,.int .i64 2,.string ⟨#[99,99,99,99,32,48,48,48,32,111,111,111,111,32,115,32,48,48,48,48,32,100,100,100,100,32,107,107,107,107,107,32,116,116,32,48,32,109,109,109,109]⟩],
  .agg #[.slice (some ⟨b3,0,none⟩) 2 2,.int .i64 3,.string ⟨#[99,99,99,99,32,48,48,48,32,111,111,111,111,32,115,32,48,48,48,48,32,100,100,100,100,32,114,114,114,114,32,48,32,116,116,32,49,32,109,109,109,109]⟩]]
theorem headR {W w:World} {b1 b2 b3:Nat} (h:I3 W w b1 b2 b3):RV w (headV b1 b2 b3) headJ:=by
  unfold headV
  iterate 3 (refine ⟨⟨b1,_,rfl,h.a,rfl,by decide,by decide⟩,?_⟩)
  iterate 3 (refine ⟨⟨b2,_,rfl,h.b,rfl,by decide,by decide⟩,?_⟩)
  iterate 3 (refine ⟨⟨b3,_,rfl,h.c,rfl,by decide,by decide⟩,?_⟩)
  trivial
theorem head_LS {W w:World} {b1 b2 b3:Nat} (h:I3 W w b1 b2 b3):LS W (w.alloc (.cells ((headV b1 b2 b3).flatMap fun v=>v.cells.toList).toArray 50)) (.slice (some ⟨w.heap.size,0,none⟩) 9 9) 9 headJ:=by
  have hr:=headR h
  refine ⟨Below.step h.bel (below_new _ _),headV b1 b2 b3,⟨by rw [hr.flat]; rfl,.inr ⟨w.heap.size,9,_,rfl,h.bel.size,heap_alloc_new w _,Nat.le_refl _,by decide,?_,?_⟩⟩,RV.below (below_new _ _) hr⟩
  · rw [List.size_toArray,hr.flat]; rfl
  · rw [List.take_of_length_le]
    show ((headV b1 b2 b3).flatMap fun v=>v.cells.toList).length≤_
    rw [hr.flat]
    exact Nat.le_refl _
structure AllAt (w:World) (g:Nat):Prop where
  is:∃vs,(∀j u,(vs.flatMap fun v=>v.cells.toList)[j]? =some u→w.cell? ⟨g,j,none⟩=some u)∧RV w vs rowsJ
theorem LS.all {W w:World} {v:Value} (h:LS W w v 54 rowsJ):∃g cap,v= .slice (some ⟨g,0,none⟩) 54 cap∧AllAt w g∧W.heap.size≤g:=by
  obtain ⟨vs,⟨h1,h2⟩,h3⟩:=h.own
  rcases h2 with ⟨_,e⟩|⟨g,cap,cur,e,a,b,c,d,e2,f⟩
  · cases e
  · refine ⟨g,cap,e,⟨vs,fun j u hj=> ?_,h3⟩,a⟩
    have hlt:j<54*3:=by
      have:=(List.getElem?_eq_some_iff.1 hj).1
      omega
    rw [←f,List.getElem?_take_of_lt hlt] at hj
    rw [World.cell?,b]
    simpa using hj
set_option maxRecDepth 100000 in
set_option maxHeartbeats 400000 in
theorem jrows_any (w:World):Calls Tryd.prog 35 #[] w fun e w'=>∃g cap,e= .returned (.slice (some ⟨g,0,none⟩) 54 cap)∧AllAt w' g∧w.heap.size≤g∧Below w.heap.size w w':=by
  have HM:Hid (∀w',Calls Tryd.prog 53 #[] w' fun e w''=>∃g,e= .returned (.slice (some ⟨g,0,none⟩) 27 27)∧RowsAt w'' g moreJ∧Below w'.heap.size w' w''):=jmore_any
  have HL:Hid (∀w',Calls Tryd.prog 54 #[] w' fun e w''=>∃g,e= .returned (.slice (some ⟨g,0,none⟩) 18 18)∧RowsAt w'' g loadsJ∧Below w'.heap.size w' w''):=jloads_any
  go_enter Tryd.func35,Tryd.ntmps35
  go_wp2_with (first
    | (guard_target =~ wpList _ _ _ (Oper.mk (some 5) _ _ _ _ _::_) _ _; refine wpList_ints intsU intI intZ rfl 10 _ rfl [1,2,3,4,5,6,7,8,13,15] (some 5) rfl rfl (by decide) (by decide) rfl ?_; intro b1 w1 h1 hb1; have S1:=hidW h1; have B1:=hidW hb1; clear h1 hb1)
    | (guard_target =~ wpList _ _ _ (Oper.mk (some 6) _ _ _ _ _::_) _ _; refine wpList_ints intsU intI intZ rfl 4 _ rfl [9,10,11,12] (some 6) rfl rfl (by decide) (by decide) rfl ?_; intro b2 w2 h1 hb1; have S1:=hidW (S1.out.below hb1); have S2:=hidW h1; have B1:=hidW (Below.step B1.out hb1); clear h1 hb1)
    | (guard_target =~ wpList _ _ _ (Oper.mk (some 7) _ _ _ _ _::_) _ _; refine wpList_ints intsU intI intZ rfl 2 _ rfl [14,16] (some 7) rfl rfl (by decide) (by decide) rfl ?_; intro b3 w3 h1 hb1; have HI:=hidW (I3.mk (Below.step B1.out hb1) (S1.out.below hb1) (S2.out.below hb1) h1); clear h1 hb1 S1 S2 B1)
    | (guard_target =~ wpList _ _ _ (Oper.mk (some 26) _ _ _ _ _::_) _ _; go_loud (refine Great.wpList_buildRows rfl 53 50 _ 3 (headV b1 b2 b3) rfl (fun i=>2*i+9) w3.heap.size rfl (some 26) rfl rowsU rowI rowZ' (by decide) (show 0<9 by decide) (show 9*3≤2^24 by decide) rfl (RV.size (headR HI.out)) (fun i hi=>by rcases i with _|_|_|_|_|_|_|_|_|i; all_goals first|rfl|(exact absurd (show i+9<9 from hi) (by omega))) ?_); have HX:=hidW (head_LS HI.out); clear HI; generalize w3.alloc (.cells ((headV b1 b2 b3).flatMap fun v=>v.cells.toList).toArray 50)=w4 at HX ⊢; generalize w3.heap.size=g0 at HX ⊢)
    | (go_at_call 53; refine (HM.out _).mono ?_; rintro e w5 ⟨g5,rfl,hr,hb⟩; have HX:=hidW (HX.out.below hb); have HR:=hidW hr; clear hr hb HM)
    | (guard_target =~ wpList _ _ _ (Oper.mk (some 29) _ _ _ _ _::_) _ _; refine wpList_more rfl (.tmp 27) (.tmp 28) rfl (some 29) rfl _ 9 _ 27 headJ moreJ rfl rfl HX.out HR.out rfl (by decide) ?_; intro v1 w6 hx; have HX:=hidW hx; clear hx HR)
    | (go_at_call 54; refine (HL.out _).mono ?_; rintro e w7 ⟨g7,rfl,hr,hb⟩; have HX:=hidW (HX.out.below hb); have HR:=hidW hr; clear hr hb HL)
    | (guard_target =~ wpList _ _ _ (Oper.mk (some 32) _ _ _ _ _::_) _ _; refine wpList_more rfl (.tmp 30) (.tmp 31) rfl (some 32) rfl _ (9+27) _ 18 (headJ++moreJ) loadsJ rfl rfl HX.out HR.out rfl (by decide) ?_; intro v2 w8 hx; obtain ⟨g,cap,rfl,hall,hlo⟩:=hx.all; have HA:=hidW hall; have HO:=hidW hlo; have HB:=hidW hx.bel; clear hall hlo hx HR HX))
  exact bodyPost_ret (v:= .slice (some ⟨g,0,none⟩) 54 cap) (by simp [results,Tryd.results35,go_sem]) rfl ⟨_,_,rfl,HA.out,HO.out,HB.out⟩
end Go.Proofs.YtkmgmmmpiallhaaDoor
