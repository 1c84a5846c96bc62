import Derived.Test.YtnjlajjjcmhfgaaGreatDoorTN08
import Derived.Test.YtnjlajjjcmhfgaaGreatDoorTP07
import Derived.Test.YtnjlajjjcmhfgaaGreatDoorTA35
import Derived.Test.YtnjlajjjcmhfgaaGreatDoorCards
import Derived.Test.YtnjlajjjcmhfgaaGreatDoorTie
import Derived.WalkKit
import Derived.ProofKit
import Derived.OpenShut
import Derived.Deep.DeepHandedRow
import Derived.Lib.LaidTab
namespace Go.Proofs.YtnjlajjjcmhfgaaGreatDoor.staleNone
open Go.ChangeShapes Go.WideShapes Go.ChangeAt Go.RowKit
set_option linter.unusedVariables false
set_option linter.unusedSimpArgs false
theorem own:ownKnob Tryz.prog.godebug=none:=by kernel_rfl
theorem laidOut:laidOutB Tryz.prog=true:=by kernel_rfl
theorem gn_firstKinds : Tryz.prog.globalNamed "atlas/desc.firstKinds" = some 5 := by kernel_rfl
theorem gt_firstKinds:(Tryz.prog.globals[5]?).map (·.type)=some 220:=by kernel_rfl
theorem gc_firstKinds:Tryz.prog.cellsOf 220=4:=by kernel_rfl
theorem gn_secondKinds : Tryz.prog.globalNamed "atlas/desc.secondKinds" = some 6 := by kernel_rfl
theorem gt_secondKinds:(Tryz.prog.globals[6]?).map (·.type)=some 220:=by kernel_rfl
theorem gc_secondKinds:Tryz.prog.cellsOf 220=4:=by kernel_rfl
theorem gn_tags : Tryz.prog.globalNamed "atlas/desc.tags" = some 7 := by kernel_rfl
theorem gt_tags:(Tryz.prog.globals[7]?).map (·.type)=some 261:=by kernel_rfl
theorem gc_tags:Tryz.prog.cellsOf 261=6:=by kernel_rfl
theorem gn_baseAt : Tryz.prog.globalNamed "atlas/desc.baseAt" = some 1 := by kernel_rfl
theorem gt_baseAt:(Tryz.prog.globals[1]?).map (·.type)=some 170:=by kernel_rfl
theorem gc_baseAt:Tryz.prog.cellsOf 170=6:=by kernel_rfl
theorem gn_leafAt : Tryz.prog.globalNamed "atlas/desc.leafAt" = some 8 := by kernel_rfl
theorem gt_leafAt:(Tryz.prog.globals[8]?).map (·.type)=some 288:=by kernel_rfl
theorem gc_leafAt:Tryz.prog.cellsOf 288=36:=by kernel_rfl
theorem gn_kindOfSize : Tryz.prog.globalNamed "atlas/desc.kindOfSize" = some 2 := by kernel_rfl
theorem gt_kindOfSize:(Tryz.prog.globals[2]?).map (·.type)=some 169:=by kernel_rfl
theorem gc_kindOfSize:Tryz.prog.cellsOf 169=5:=by kernel_rfl
theorem gn_sizeOfKind : Tryz.prog.globalNamed "atlas/desc.sizeOfKind" = some 3 := by kernel_rfl
theorem gt_sizeOfKind:(Tryz.prog.globals[3]?).map (·.type)=some 170:=by kernel_rfl
theorem gc_sizeOfKind:Tryz.prog.cellsOf 170=6:=by kernel_rfl
theorem gn_repeats : Tryz.prog.globalNamed "atlas/desc.repeats" = some 0 := by kernel_rfl
theorem gt_repeats:(Tryz.prog.globals[0]?).map (·.type)=some 169:=by kernel_rfl
theorem gc_repeats:Tryz.prog.cellsOf 169=5:=by kernel_rfl
theorem gn_said : Tryz.prog.globalNamed "atlas/stale.said" = some 4 := by kernel_rfl
theorem gt_said:(Tryz.prog.globals[4]?).map (·.type)=some 184:=by kernel_rfl
theorem gc_said:Tryz.prog.cellsOf 184=10:=by kernel_rfl
theorem table {W:World} (h:laidMetH Tryz.prog Rows.staleNoneUptoRow.laid W):TS W:=by
  obtain ⟨ps,hL,_⟩:=h
  have hleaf:Tb .u8 W 8 lLeaf:=by
    intro i v hv
    have hi:i<36:=by
      have:=(List.getElem?_eq_some_iff.1 hv).1
      simpa [lLeaf] using this
    obtain ⟨l,h1,h2⟩:=(show ∀i,i<36→∃l,[[0,0,0,0,0,0],[0,0,0,0,0,0],[10,15,12,16,17,4],[10,15,12,16,17,4],[4,9,12,10,11,15],[4,9,6,10,11,(0:Int)]][i / 6]? =some l∧l[i%6]? =lLeaf[i]? by
      intro i hi
      rcases (show i / 6=0∨i / 6=1∨i / 6=2∨i / 6=3∨i / 6=4∨i / 6=5 by omega) with h|h|h|h|h|h <;>rcases (show i%6=0∨i%6=1∨i%6=2∨i%6=3∨i%6=4∨i%6=5 by omega) with g|g|g|g|g|g <;>(rw [h,g,show i=i / 6*6+i%6 by omega,h,g]; exact ⟨_,rfl,rfl⟩)) i hi
    have hc:=tab2_of hL [[0,0,0,0,0,0],[0,0,0,0,0,0],[10,15,12,16,17,4],[10,15,12,16,17,4],[4,9,12,10,11,15],[4,9,6,10,11,0]] (.tail _ (.tail _ (.tail _ (.tail _ (.head _))))) gn_leafAt gt_leafAt Tryz.underlying288 gc_leafAt (i / 6) (i%6) l v h1 (by rw [h2]; exact hv) (by omega) (by omega)
    rw [show i / 6*6+i%6=i by omega] at hc
    exact hc
  exact ⟨⟨⟨⟨⟨(tab_of hL lFirst (.head _) gn_firstKinds gt_firstKinds Tryz.underlying220 Tryz.underlying5 cells_u8 gc_firstKinds),(tab_of hL lSecond (.tail _ (.head _)) gn_secondKinds gt_secondKinds Tryz.underlying220 Tryz.underlying5 cells_u8 gc_secondKinds),(tab_of hL lBase (.tail _ (.tail _ (.tail _ (.head _)))) gn_baseAt gt_baseAt Tryz.underlying170 Tryz.underlying5 cells_u8 gc_baseAt),hleaf⟩,(tab_of hL lTags (.tail _ (.tail _ (.head _))) gn_tags gt_tags Tryz.underlying261 Tryz.underlying32 cells_u32 gc_tags)⟩,(tab_of hL lSize (.tail _ (.tail _ (.tail _ (.tail _ (.tail _ (.tail _ (.head _))))))) gn_sizeOfKind gt_sizeOfKind Tryz.underlying170 Tryz.underlying5 cells_u8 gc_sizeOfKind)⟩,(tab_of hL lKind (.tail _ (.tail _ (.tail _ (.tail _ (.tail _ (.head _)))))) gn_kindOfSize gt_kindOfSize Tryz.underlying169 Tryz.underlying5 cells_u8 gc_kindOfSize)⟩,⟨(tab_of hL lBase (.tail _ (.tail _ (.tail _ (.head _)))) gn_baseAt gt_baseAt Tryz.underlying170 Tryz.underlying5 cells_u8 gc_baseAt),(tab_of hL lKind (.tail _ (.tail _ (.tail _ (.tail _ (.tail _ (.head _)))))) gn_kindOfSize gt_kindOfSize Tryz.underlying169 Tryz.underlying5 cells_u8 gc_kindOfSize),(tab_of hL lRep (.tail _ (.tail _ (.tail _ (.tail _ (.tail _ (.tail _ (.tail _ (.head _)))))))) gn_repeats gt_repeats Tryz.underlying169 Tryz.underlying5 cells_u8 gc_repeats)⟩⟩
theorem tableS {W:World} (h:laidMetH Tryz.prog Rows.staleNoneUptoRow.laid W):TSd W:=by
  obtain ⟨ps,hL,_⟩:=h
  exact said_of hL (.tail _ (.tail _ (.tail _ (.tail _ (.tail _ (.tail _ (.tail _ (.tail _ (.head _))))))))) gn_said gt_said gc_said
set_option maxRecDepth 100000 in
theorem contract (H:Type) (enc:TypeId×Value→H) (W:World) (base:Nat) (args:Array Value) (ds gs:List (DataW H)) (before:List MemPlace)
    (hval:∀(j:Nat) t v,Tryz.f6.params[j]? =some t→args[j]? =some v→Value.okWide Tryz.prog W .any base t v)
    (hW:DataW.Whole enc Tryz.prog Tryz.f6.params.toList Rows.staleNoneSpec.vars false W args.toList ds gs before) (hL:laidMetH Tryz.prog Rows.staleNoneUptoRow.laid W) (hcond:Rows.uptoSmall H (ds++gs)=true) :
    Calls Tryz.prog 6 args W fun e W'=>∃v,e= .returned v∧Rows.staleNoneSpec.post enc Tryz.prog Tryz.f6 false true false false W args v W':=by
  have hW':=hW
  obtain ⟨p,q,hA0,hV,rfl,hfz,hnd⟩:=hW
  have hA:DataW.TrodAll enc Tryz.prog W 0 (fun _=>true) true Tryz.f6.params.toList args.toList ds p:=hA0
  rw [Tryz.params6] at hA hval
  obtain ⟨v0,vs0,d0,ds0,p0,q0,hargs,rfl,rfl,h0,r0⟩:=trodAll_cons hA
  obtain ⟨v1,vs1,d1,ds1,p1,q1,rfl,rfl,rfl,h1,r1⟩:=trodAll_cons r0
  obtain ⟨rfl,rfl,rfl⟩:=trodAll_nil r1
  obtain rfl:args=#[v0,v1]:=by cases args; simp_all
  obtain ⟨rfl,rfl⟩:=trodVars_none hV
  have h0k:=h0
  obtain ⟨f0,vp0,vw0,vc0,pas0,ws0,cs0,rfl,sp0,sw0,sc0,op0,ow0,oc0,hb0⟩:=open_scene (hval 0 26 v0 rfl rfl) h0
  obtain ⟨s1,n1,c1,rfl⟩:=okWide_slice Tryz.underlying27 (hval 1 27 v1 rfl rfl)
  have h1k:=h1
  obtain ⟨fuel1,hf1⟩:=h1
  obtain ⟨ops1,S1,O1,hb1⟩:=open_oqs hf1
  dsimp only at hb1
  clear hA0
  simp only [List.append_nil] at hW'
  have hlt0:∀y∈p0,y.block<W.heap.size:=fun y hy=>by simpa using hW'.lt y (by simp [hy])
  have hlt1:∀y∈p1,y.block<W.heap.size:=fun y hy=>by simpa using hW'.lt y (by simp [hy])
  have hbk:Rows.uptoBulkAll _≤1048576:=of_decide_eq_true hcond
  simp only [Rows.uptoBulkAll,List.append_nil,List.cons_append,List.nil_append] at hbk
  refine (law_none W (table hL) (tableS hL) f0 vp0 vw0 vc0 pas0 ws0 cs0 ⟨sp0,sw0,sc0,op0,ow0,oc0,by omega,by omega,by omega⟩ _ ops1 S1 O1 (by omega)).mono fun e W' ⟨he,bel⟩=> ?_
  subst he
  exact ⟨_,rfl,_,_,_,[],_,[],hW',trodAll_mk1 (shut_bool Tryz.underlying4 _),(trodAll_cons_mk (Below.trod laidOut (by kernel_rfl) (of_decide_eq_true (by kernel_rfl)) h0k bel hlt0) (trodAll_cons_mk (Below.trod laidOut (by kernel_rfl) (of_decide_eq_true (by kernel_rfl)) h1k bel hlt1) trodAll_mk0)),rfl,bel.frame _,fun h=>by cases h⟩
def layN (l:List Value):Obj→Obj
  | .cells _ t frozen=> .cells l.toArray t frozen
  | o=>o
def litV:DataW Unit→Value
  | .lit (.int k z)=> .int k z
  | _=> .int .u8 0
def cellsD:DataW Unit→List Value
  | .agg l=>l.map litV
  | _=>[]
set_option maxRecDepth 100000 in
theorem laid_met (os:Os):laidMet Tryz.prog Rows.staleNoneUptoRow.laid (({ World.holding Tryz.prog os ⟨#[],#[],[]⟩ with heap:=((((((((((World.holding Tryz.prog os ⟨#[],#[],[]⟩).heap.modify 5 (layN [.int .u8 0,.int .u8 1,.int .u8 2,.int .u8 0])).modify 6 (layN [.int .u8 0,.int .u8 4,.int .u8 5,.int .u8 5])).modify 7 (layN [.int .u32 0,.int .u32 1,.int .u32 2,.int .u32 262146,.int .u32 1,.int .u32 2])).modify 1 (layN [.int .u8 0,.int .u8 10,.int .u8 20,.int .u8 24,.int .u8 16,.int .u8 12])).modify 8 (layN [.int .u8 0,.int .u8 0,.int .u8 0,.int .u8 0,.int .u8 0,.int .u8 0,.int .u8 0,.int .u8 0,.int .u8 0,.int .u8 0,.int .u8 0,.int .u8 0,.int .u8 10,.int .u8 15,.int .u8 12,.int .u8 16,.int .u8 17,.int .u8 4,.int .u8 10,.int .u8 15,.int .u8 12,.int .u8 16,.int .u8 17,.int .u8 4,.int .u8 4,.int .u8 9,.int .u8 12,.int .u8 10,.int .u8 11,.int .u8 15,.int .u8 4,.int .u8 9,.int .u8 6,.int .u8 10,.int .u8 11,.int .u8 0])).modify 2 (layN [.int .u8 0,.int .u8 5,.int .u8 4,.int .u8 2,.int .u8 3])).modify 3 (layN [.int .u8 0,.int .u8 0,.int .u8 3,.int .u8 4,.int .u8 2,.int .u8 1])).modify 0 (layN [.int .u8 0,.int .u8 1,.int .u8 16,.int .u8 1,.int .u8 16])).modify 4 (layN [.int .u64 0,.int .u64 0,.int .u64 1,.int .u64 1,.int .u64 16,.int .u64 1,.int .u64 1,.int .u64 256,.int .u64 16,.int .u64 256])) }:World).forCall (fun _ _=>0) ⟨#[],#[.agg #[.int .i64 0,.slice none 0 0,.slice none 0 0,.slice none 0 0],.slice none 0 0],[]⟩).memory :=
  laidMet_of_run' 8 (by kernel_rfl) (by kernel_rfl)
theorem reads (os:Os) {H:Type} (enc:TypeId×Value→H):∃places,DataW.whole enc Tryz.prog (({ World.holding Tryz.prog os ⟨#[],#[],[]⟩ with heap:=((((((((((World.holding Tryz.prog os ⟨#[],#[],[]⟩).heap.modify 5 (layN [.int .u8 0,.int .u8 1,.int .u8 2,.int .u8 0])).modify 6 (layN [.int .u8 0,.int .u8 4,.int .u8 5,.int .u8 5])).modify 7 (layN [.int .u32 0,.int .u32 1,.int .u32 2,.int .u32 262146,.int .u32 1,.int .u32 2])).modify 1 (layN [.int .u8 0,.int .u8 10,.int .u8 20,.int .u8 24,.int .u8 16,.int .u8 12])).modify 8 (layN [.int .u8 0,.int .u8 0,.int .u8 0,.int .u8 0,.int .u8 0,.int .u8 0,.int .u8 0,.int .u8 0,.int .u8 0,.int .u8 0,.int .u8 0,.int .u8 0,.int .u8 10,.int .u8 15,.int .u8 12,.int .u8 16,.int .u8 17,.int .u8 4,.int .u8 10,.int .u8 15,.int .u8 12,.int .u8 16,.int .u8 17,.int .u8 4,.int .u8 4,.int .u8 9,.int .u8 12,.int .u8 10,.int .u8 11,.int .u8 15,.int .u8 4,.int .u8 9,.int .u8 6,.int .u8 10,.int .u8 11,.int .u8 0])).modify 2 (layN [.int .u8 0,.int .u8 5,.int .u8 4,.int .u8 2,.int .u8 3])).modify 3 (layN [.int .u8 0,.int .u8 0,.int .u8 3,.int .u8 4,.int .u8 2,.int .u8 1])).modify 0 (layN [.int .u8 0,.int .u8 1,.int .u8 16,.int .u8 1,.int .u8 16])).modify 4 (layN [.int .u64 0,.int .u64 0,.int .u64 1,.int .u64 1,.int .u64 16,.int .u64 1,.int .u64 1,.int .u64 256,.int .u64 16,.int .u64 256])) }:World).forCall (fun _ _=>0) ⟨#[],#[.agg #[.int .i64 0,.slice none 0 0,.slice none 0 0,.slice none 0 0],.slice none 0 0],[]⟩).memory Tryz.f6.params.toList Rows.staleNoneSpec.vars false #[(.agg #[.int .i64 0,.slice none 0 0,.slice none 0 0,.slice none 0 0]:Value),(.slice none 0 0:Value)].toList 8=some ([.agg [.lit (.int .i64 0),.nil,.nil,.nil],.nil],[],places) :=
  ⟨[],by kernel_rfl⟩
set_option maxRecDepth 100000 in
theorem lifted (os:Os) (started:os.Started) (H:Type) (enc:TypeId×Value→H) (F:Stop.Interp) :
    ReturnsInHanded {} Tryz.checked os 6 .any ((Rows.OpenSpec.upto Rows.staleNoneSpec).preRow enc Tryz.prog Tryz.f6 Rows.staleNoneUptoRow.domain false Rows.staleNoneUptoRow.laid) (((Rows.OpenSpec.upto Rows.staleNoneSpec).at F).post enc Tryz.prog Tryz.f6 false true false false):=by
  obtain ⟨places,hx⟩:=reads os enc
  refine returnsInHanded_of_row (C:=Tryz.checked) (s:=Rows.OpenSpec.upto Rows.staleNoneSpec) own started (by kernel_rfl) Tryz.func6
    (witness_row_at (enc:=enc) (C:=Tryz.checked) false ({ World.holding Tryz.prog os ⟨#[],#[],[]⟩ with heap:=((((((((((World.holding Tryz.prog os ⟨#[],#[],[]⟩).heap.modify 5 (layN [.int .u8 0,.int .u8 1,.int .u8 2,.int .u8 0])).modify 6 (layN [.int .u8 0,.int .u8 4,.int .u8 5,.int .u8 5])).modify 7 (layN [.int .u32 0,.int .u32 1,.int .u32 2,.int .u32 262146,.int .u32 1,.int .u32 2])).modify 1 (layN [.int .u8 0,.int .u8 10,.int .u8 20,.int .u8 24,.int .u8 16,.int .u8 12])).modify 8 (layN [.int .u8 0,.int .u8 0,.int .u8 0,.int .u8 0,.int .u8 0,.int .u8 0,.int .u8 0,.int .u8 0,.int .u8 0,.int .u8 0,.int .u8 0,.int .u8 0,.int .u8 10,.int .u8 15,.int .u8 12,.int .u8 16,.int .u8 17,.int .u8 4,.int .u8 10,.int .u8 15,.int .u8 12,.int .u8 16,.int .u8 17,.int .u8 4,.int .u8 4,.int .u8 9,.int .u8 12,.int .u8 10,.int .u8 11,.int .u8 15,.int .u8 4,.int .u8 9,.int .u8 6,.int .u8 10,.int .u8 11,.int .u8 0])).modify 2 (layN [.int .u8 0,.int .u8 5,.int .u8 4,.int .u8 2,.int .u8 3])).modify 3 (layN [.int .u8 0,.int .u8 0,.int .u8 3,.int .u8 4,.int .u8 2,.int .u8 1])).modify 0 (layN [.int .u8 0,.int .u8 1,.int .u8 16,.int .u8 1,.int .u8 16])).modify 4 (layN [.int .u64 0,.int .u64 0,.int .u64 1,.int .u64 1,.int .u64 16,.int .u64 1,.int .u64 1,.int .u64 256,.int .u64 16,.int .u64 256])) }:World) #[.agg #[.int .i64 0,.slice none 0 0,.slice none 0 0,.slice none 0 0],.slice none 0 0] rfl (by kernel_rfl) (by kernel_rfl) (by kernel_rfl)
      (OpenSpec.preRow_of_cond 8 hx (by kernel_rfl) (fun k hk=>by cases hk; kernel_rfl) (by kernel_rfl) (laid_met os))) ?_
  intro W base args ds gs before hval hW _ hcond hwt hL hS _
  exact contract H enc W base args ds gs before hval hW hL (hcond _ rfl)
theorem said:Rows.StaleNoneUptoSaid :=
  OpenClaim.holds_of_cond 6 Tryz.f6 rfl rfl rfl rfl rfl rfl rfl ⟨rfl,rfl,rfl,rfl,rfl⟩ rfl rfl rfl rfl rfl (by kernel_rfl) Tryz.func6 (by kernel_rfl)
    (of_decide_eq_true (by kernel_rfl)) (by unfold Func.isWrapper; first|(rw [if_pos (by decide +kernel)]; kernel_rfl)|(rw [if_neg (by decide +kernel)]; exact ⟨rfl,rfl⟩))
    (fun os started H enc _ F=>by rw [OpenClaim.pre_eq_preRow]; exact lifted os started H enc F)
theorem plain (f : FuncId) (fn : Func) (hf : Tryz.pinned.checked.prog.funcNamed "atlas/atlaslaw12.StaleNone" = some f) (hfn : Tryz.pinned.checked.prog.funcs[f]? = some fn) :
    false=Tryz.pinned.checked.prog.looks []∧∀(j:Nat) t,fn.params[j]? =some t→Tryz.pinned.checked.prog.wantsStandIn t=false:=by
  obtain rfl : f = 6 := Option.some.inj ((show Tryz.prog.funcNamed "atlas/atlaslaw12.StaleNone" = some 6 by kernel_rfl).symm.trans hf) |>.symm
  obtain rfl:fn=Tryz.f6:=(Option.some.inj (Tryz.func6.symm.trans hfn)).symm
  refine ⟨by kernel_rfl,fun j t ht=> ?_⟩
  rw [Tryz.params6] at ht
  have hm:=Array.mem_of_getElem? ht
  have hm2:t=26∨t=27:=by simpa using hm
  rcases hm2 with rfl|rfl
  · exact (show Tryz.prog.wantsStandIn 26=false by kernel_rfl)
  · exact (show Tryz.prog.wantsStandIn 27=false by kernel_rfl)
end Go.Proofs.YtnjlajjjcmhfgaaGreatDoor.staleNone
namespace Go.Proofs.YtnjlajjjcmhfgaaGreatDoor
theorem staleNone_card:Rows.StaleNoneUptoCardSaid :=
  Claim7.holds_tied_plain_at .later [] _ _ _ _ staleNone.said (fun _ h=>by cases h) (by kernel_rfl) (fun _ h=>by cases h) staleNoneUpto_row_tie rfl ⟨rfl,rfl⟩ (by kernel_rfl) rfl staleNone.plain (by kernel_rfl)
#print axioms staleNone_card
end Go.Proofs.YtnjlajjjcmhfgaaGreatDoor
