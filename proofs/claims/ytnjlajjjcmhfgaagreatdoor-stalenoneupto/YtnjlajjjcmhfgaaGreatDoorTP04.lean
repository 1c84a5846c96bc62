import Derived.Shelf.SlSortCmp.NoneTotal
import Derived.Ground.SlsfProg
import Derived.Test.YtnjlajjjcmhfgaaGreatDoorProg
import Derived.Test.YtnjlajjjcmhfgaaGreatDoorTA21
import Derived.Test.YtnjlajjjcmhfgaaGreatDoorTP03
import Derived.Test.YtnjlajjjcmhfgaaGreatDoorTA22
namespace Go.Proofs.YtnjlajjjcmhfgaaGreatDoor
open Go.Shelf
def Tryz.sortLR_ren:Go.Shelf.Ren:=⟨fun|6=>103|15=>84|14=>142|28=>123|29=>124|20=>185|21=>186|22=>187|23=>188|24=>189|25=>190|26=>191|27=>192|46=>217|47=>165|48=>166|49=>218|50=>219|57=>233|n=>n,fun|22=>92|24=>95|25=>186|3=>3|39=>125|0=>0|53=>32|55=>35|4=>4|46=>201|45=>200|50=>205|5=>5|9=>9|66=>247|70=>250|76=>282|77=>283|n=>n,fun|n=>n⟩
theorem Tryz.sortLR:Go.Proofs.SlLaysF0.n6 Tryz.prog Tryz.sortLR_ren:={
  mixed:=by kernel_rfl
  f6:=⟨Tryz.f103.name,by decide,Tryz.func103.trans (congrArg some (by kernel_rfl))⟩
  f14:=⟨Tryz.f142.name,by decide,Tryz.func142.trans (congrArg some (by kernel_rfl))⟩
  f15:=Tryz.func84.trans (congrArg some (by kernel_rfl))
  f20:=⟨Tryz.f185.name,by decide,Tryz.func185.trans (congrArg some (by kernel_rfl))⟩
  f21:=⟨Tryz.f186.name,by decide,Tryz.func186.trans (congrArg some (by kernel_rfl))⟩
  f22:=⟨Tryz.f187.name,by decide,Tryz.func187.trans (congrArg some (by kernel_rfl))⟩
  f23:=⟨Tryz.f188.name,by decide,Tryz.func188.trans (congrArg some (by kernel_rfl))⟩
  f24:=⟨Tryz.f189.name,by decide,Tryz.func189.trans (congrArg some (by kernel_rfl))⟩
  f25:=⟨Tryz.f190.name,by decide,Tryz.func190.trans (congrArg some (by kernel_rfl))⟩
  f26:=⟨Tryz.f191.name,by decide,Tryz.func191.trans (congrArg some (by kernel_rfl))⟩
  f27:=⟨Tryz.f192.name,by decide,Tryz.func192.trans (congrArg some (by kernel_rfl))⟩
  f28:=Tryz.func123.trans (congrArg some (by kernel_rfl))
  f29:=Tryz.func124.trans (congrArg some (by kernel_rfl))
  f46:=⟨Tryz.f217.name,by decide,Tryz.func217.trans (congrArg some (by kernel_rfl))⟩
  f47:=Tryz.func165.trans (congrArg some (by kernel_rfl))
  f48:=Tryz.func166.trans (congrArg some (by kernel_rfl))
  f49:=⟨Tryz.f218.name,by decide,Tryz.func218.trans (congrArg some (by kernel_rfl))⟩
  f50:=⟨Tryz.f219.name,by decide,Tryz.func219.trans (congrArg some (by kernel_rfl))⟩
  f57:=⟨Tryz.f233.name,by decide,Tryz.func233.trans (congrArg some (by kernel_rfl))⟩
  t0:=Tryz.underlying0
  a0:=Tryz.isAgg0
  z0:=Tryz.sizeOf0
  v0:=Tryz.zeroValue0
  t3:=Tryz.underlying3
  a3:=Tryz.isAgg3
  z3:=Tryz.sizeOf3
  v3:=Tryz.zeroValue3
  t4:=Tryz.underlying4
  a4:=Tryz.isAgg4
  z4:=Tryz.sizeOf4
  v4:=Tryz.zeroValue4
  t5:=Tryz.underlying5
  a5:=Tryz.isAgg5
  z5:=Tryz.sizeOf5
  v5:=Tryz.zeroValue5
  t9:=Tryz.underlying9
  a9:=Tryz.isAgg9
  z9:=Tryz.sizeOf9
  v9:=Tryz.zeroValue9
  t22:=Tryz.underlying92
  a22:=Tryz.isAgg92
  z22:=Tryz.sizeOf92
  v22:=Tryz.zeroValue92
  t25:=Tryz.underlying186
  a25:=Tryz.isAgg186
  z25:=Tryz.sizeOf186
  v25:=Tryz.zeroValue186
  t39:=Tryz.underlying125
  a39:=Tryz.isAgg125
  z39:=Tryz.sizeOf125
  v39:=Tryz.zeroValue125
  t45:=Tryz.underlying200
  a45:=Tryz.isAgg200
  z45:=Tryz.sizeOf200
  v45:=Tryz.zeroValue200
  t46:=Tryz.underlying201
  a46:=Tryz.isAgg201
  z46:=Tryz.sizeOf201
  v46:=Tryz.zeroValue201
  t50:=Tryz.underlying205
  a50:=Tryz.isAgg205
  z50:=Tryz.sizeOf205
  v50:=Tryz.zeroValue205
  t53:=Tryz.underlying32
  a53:=Tryz.isAgg32
  z53:=Tryz.sizeOf32
  v53:=Tryz.zeroValue32
  t55:=Tryz.underlying35
  a55:=Tryz.isAgg35
  z55:=Tryz.sizeOf35
  v55:=Tryz.zeroValue35
  t66:=Tryz.underlying247
  a66:=Tryz.isAgg247
  z66:=Tryz.sizeOf247
  v66:=Tryz.zeroValue247
  t70:=Tryz.underlying250
  a70:=Tryz.isAgg250
  z70:=Tryz.sizeOf250
  v70:=Tryz.zeroValue250
  t76:=Tryz.underlying282
  a76:=Tryz.isAgg282
  z76:=Tryz.sizeOf282
  v76:=Tryz.zeroValue282
  t77:=Tryz.underlying283
  a77:=Tryz.isAgg283
  z77:=Tryz.sizeOf283
  v77:=Tryz.zeroValue283 }
end Go.Proofs.YtnjlajjjcmhfgaaGreatDoor
namespace Go.Proofs.YtnjlajjjcmhfgaaGreatDoor
open Go.RowKit Go.Sort Go.Shelf Go.Lib
open Mm (Turn gr RowAt)
set_option linter.unusedVariables false
set_option linter.unusedSimpArgs false
abbrev Rm:=Bs.Sp Unit
def cvR (L:List Rm) (x:Int):Prop:=∃r∈L,r.lo≤x∧x≤r.hi
def RoK (L:List Rm):Prop:=∀r∈L,0≤r.lo∧r.lo≤r.hi∧r.hi≤1052671
def IsJ (L R:List Rm):Prop:=Bs.Good 0 none R∧∀x,0≤x→x≤18446744073709551615→(Bs.get R x=some ()↔cvR L x)
structure IsM (L:List Rm) (A:List (Bs.Sp Bool)):Prop where
  good:Bs.Good 0 none A
  yes:∀x,cvR L x→Bs.get A x=some true
  no:∀x,¬cvR L x→Bs.get A x=none
theorem IsM.nil:IsM [] []:=⟨trivial,fun x h=>(by obtain ⟨r,hr,_⟩:=h; simp at hr),fun x _=>rfl⟩
theorem cvR_snoc {L:List Rm} {r:Rm} {x:Int}:cvR (L++[r]) x↔cvR L x∨(r.lo≤x∧x≤r.hi):=by
  unfold cvR
  constructor
  · rintro ⟨s,hs,h⟩
    rcases List.mem_append.1 hs with hs|hs
    · exact .inl ⟨s,hs,h⟩
    · rw [List.mem_singleton] at hs; subst hs; exact .inr h
  · rintro (⟨s,hs,h⟩|h)
    · exact ⟨s,List.mem_append_left _ hs,h⟩
    · exact ⟨r,by simp,h⟩
theorem IsM.set {L:List Rm} {A:List (Bs.Sp Bool)} {r:Rm} (h:IsM L A) (h1:0≤r.lo) (h2:r.lo≤r.hi) (h3:r.hi≤1052671):IsM (L++[r]) (Bs.setR A r.lo r.hi true):=by
  have e:Bs.setR A r.lo r.hi true=Bs.setL A r.lo r.hi true:=if_pos h2
  rw [e]
  have hg:=fun k=>Bs.setL_get h.good h1 h2 (by omega) true k
  refine ⟨Bs.setL_good h.good h1 h2 (by omega) true,fun x hx=> ?_,fun x hx=> ?_⟩
  · rw [hg]
    by_cases q:r.lo≤x∧x≤r.hi
    · rw [if_pos q]
    · rw [if_neg q]; exact h.yes x ((cvR_snoc.1 hx).resolve_right q)
  · have q:¬(r.lo≤x∧x≤r.hi):=fun q=>hx (cvR_snoc.2 (.inr q))
    rw [hg,if_neg q]
    exact h.no x (fun c=>hx (cvR_snoc.2 (.inl c)))
theorem good_in {c:Int} {u:Option Bool} {A:List (Bs.Sp Bool)} (h:Bs.Good c u A):∀s∈A,c≤s.lo∧s.lo≤s.hi∧Bs.get A s.hi=some s.val:=by
  induction A generalizing c u with
  | nil=>intro s hs; cases hs
  | cons t r ih =>
    obtain ⟨h1,h2,h3,h4,h5⟩:=h
    intro s hs
    rcases List.mem_cons.1 hs with rfl|hs
    · exact ⟨h1,h2,if_pos ⟨h2,Int.le_refl _⟩⟩
    · obtain ⟨a,b,e⟩:=ih h5 s hs
      refine ⟨by omega,b,?_⟩
      rw [Bs.get,if_neg (by omega)]
      exact e
theorem good_len {c H:Int} {u:Option Bool} {A:List (Bs.Sp Bool)} (h:Bs.Good c u A) (hH:∀s∈A,s.hi≤H) (hc:c≤H+1):(A.length:Int)≤H+1-c:=by
  induction A generalizing c u with
  | nil=>simp; omega
  | cons t r ih =>
    obtain ⟨h1,h2,h3,h4,h5⟩:=h
    have a:=hH t (by simp)
    have:=ih h5 (fun s hs=>hH s (by simp [hs])) (by omega)
    simp only [List.length_cons]
    omega
theorem IsM.len {L:List Rm} {A:List (Bs.Sp Bool)} (h:IsM L A) (hL:RoK L):A.length≤1052672:=by
  have:=good_len (H:=1052671) h.good (fun s hs=>by
    obtain ⟨_,_,e⟩:=good_in h.good s hs
    refine Classical.byContradiction fun hn=> ?_
    have:¬cvR L s.hi:=fun ⟨r,hr,h1,h2⟩=>by have:=hL r hr; omega
    rw [h.no _ this] at e
    cases e) (by omega)
  omega
theorem IsM.joined {L R:List Rm} {A:List (Bs.Sp Bool)} (h:IsM L A) (hd:Bs.DiffIs A [] R):IsJ L R:=by
  refine ⟨hd.1,fun x h0 h1=> ?_⟩
  rw [hd.2 x h0 h1,Bs.partF]
  by_cases c:cvR L x
  · rw [h.yes x c]; simp [c,Bs.get]
  · rw [h.no x c]; simp [c,Bs.get]
theorem IsJ.perm {L L' R:List Rm} (h:IsJ L' R) (hp:∀r,r∈L'↔r∈L):IsJ L R :=
  ⟨h.1,fun x h0 h1=>(h.2 x h0 h1).trans ⟨fun ⟨r,hr,c⟩=>⟨r,(hp r).1 hr,c⟩,fun ⟨r,hr,c⟩=>⟨r,(hp r).2 hr,c⟩⟩⟩
def cmR (a b:Rm):Int:=Lib.compareInt a.lo b.lo
theorem ltR_iff (a b:Rm):ltOf cmR a b=true↔a.lo<b.lo:=by
  unfold ltOf cmR Lib.compareInt
  by_cases h:a.lo<b.lo
  · simp [h]
  · by_cases h2:b.lo<a.lo <;>simp [h,h2]
theorem ltR_not (a b:Rm):ltOf cmR a b=false↔¬a.lo<b.lo:=by rw [←ltR_iff]; simp
theorem swoR:SWO (ltOf cmR):=⟨fun x=>(ltR_not _ _).2 (by omega),fun x y z h1 h2=>(ltR_iff _ _).2 (by have:=(ltR_iff _ _).1 h1; have:=(ltR_iff _ _).1 h2; omega),fun x y z h1 h2=>(ltR_not _ _).2 (by have:=(ltR_not _ _).1 h1; have:=(ltR_not _ _).1 h2; omega)⟩
theorem encR_len (r:Rm):(Bs.encR r).length=2:=rfl
theorem encR_one (r:Rm):∀v∈Bs.encR r,v.oneCell'=true:=by
  intro v hv
  simp only [Bs.encR,List.mem_cons,List.not_mem_nil,or_false] at hv
  rcases hv with rfl|rfl <;>rfl
set_option maxRecDepth 100000 in
set_option maxHeartbeats 4000000 in
theorem compareR_any (a b:Rm) (w:World):Calls Tryz.prog 104 #[.agg #[.int .u64 a.lo,.int .u64 a.hi],.agg #[.int .u64 b.lo,.int .u64 b.hi]] w fun e w'=>e= .returned (.int .i64 (cmR a b))∧Below w.heap.size w w'∧w.drawn≤w'.drawn:=by
  have HU:=hidW cmpU_any
  have HZ:Hid (Below w.heap.size w ((w.alloc (.cells #[.int .u64 a.lo,.int .u64 a.hi] 95)).alloc (.cells #[.int .u64 b.lo,.int .u64 b.hi] 95))∧w.drawn≤((w.alloc (.cells #[.int .u64 a.lo,.int .u64 a.hi] 95)).alloc (.cells #[.int .u64 b.lo,.int .u64 b.hi] 95)).drawn):=⟨Below.step (below_new _ _) (below_new _ _),Nat.le_refl _⟩
  go_enter Tryz.func104,Tryz.ntmps104
  go_wp2_with (go_at_call 95; refine (HU.out _ _ _).mono ?_; rintro e w3 ⟨rfl,rfl⟩)
  go_ret
  exact ⟨rfl,HZ.out⟩
theorem cmpLaysR [Inhabited Rm] (blk off size:Nat) (w:World):CmpLays Tryz.prog 104 #[] Bs.encR 2 cmR blk off size w:=by
  intro m os dk hs x y
  generalize sortWorldK Bs.encR 2 w blk off m dk os=W
  refine (show Calls Tryz.prog 104 #[.agg #[.int .u64 x.lo,.int .u64 x.hi],.agg #[.int .u64 y.lo,.int .u64 y.hi]] W _ from (compareR_any x y W)).mono ?_
  rintro e w' ⟨rfl,hb,hd⟩
  exact ⟨rfl,grow_of hb hd⟩
theorem sortR_none (p:Option Addr) (cap:Nat) (w:World):Calls Tryz.prog 103 #[.slice p 0 cap,.func (.func 104) #[] #[]] w fun e w'=>e= .returned (.tuple #[])∧w'=w :=
  AnyF.slices_SortFunc_none (P:=Tryz.prog) (ρ:=Tryz.sortLR_ren) { Tryz.sortLR with } p cap _ w
theorem sortR_row (w:World) (g cap:Nat) (l:List Rm) (rest:List Value) (hR:RowAt w g 95 (rowG Bs.encR l++rest)) (hl:l.length<4611686018427387904) :
    Calls Tryz.prog 103 #[.slice (some ⟨g,0,none⟩) l.length cap,.func (.func 104) #[] #[]] w fun e w'=>e= .returned (.tuple #[])∧∃m,m.length=l.length∧(∀r,r∈m↔r∈l)∧RowAt w' g 95 (rowG Bs.encR m++rest)∧Turn (fun x=>x=g) w w':=by
  haveI:Inhabited Rm:=⟨⟨0,0,()⟩⟩
  have eg:∀args w,(callFunc 104 args).run Tryz.prog w= .ok (.enter 104 args) w:=enters_of Tryz.func104 (by kernel_rfl) rfl
  have h:=AnyQ.slices_SortFunc Tryz.sortLR 2 (fun w=>by kernel_rfl) (fun w=>by kernel_rfl) Bs.encR encR_len encR_one cmR swoR 104 #[] g 0 cap l.toArray w eg (cmpLaysR g 0 _ w) (holdsG encR_len (by decide) hR) hR.lt (by simpa using hl)
  refine (show Calls Tryz.prog 103 #[.slice (some ⟨g,0,none⟩) l.length cap,.func (.func 104) #[] #[]] w _ from h).mono ?_
  rintro e w' ⟨rfl,d,n,os,⟨hp1,_,hp2⟩,_,rfl⟩
  have hz:d.size=l.length:=by simpa using hp1
  rw [Array.extract_eq_self_of_le (by simp [hz]),Array.extract_eq_self_of_le (by simp)] at hp2
  have hs:=sortedG (m:=d.toList) (n:=n) (os:=os) encR_len (by decide) hR (by simpa using hz)
  rw [Array.toArray_toList] at hs
  exact ⟨rfl,d.toList,by simpa using hz,fun r=>by simpa using hp2.mem_iff (a:=r),hs.1,hs.2⟩
end Go.Proofs.YtnjlajjjcmhfgaaGreatDoor
namespace Go.Proofs.YtnjlajjjcmhfgaaGreatDoor
open Go.RowKit Go.Sort Go.Shelf Go.Lib
open Mm (Turn gr RowAt)
set_option linter.unusedVariables false
set_option linter.unusedSimpArgs false
theorem own_lower {w:World} {lo lo' n k:Nat} {T:TypeId} {v:Value} {xs:List Value} (h:w.ownsRow lo T k v n xs) (hl:lo'≤lo):w.ownsRow lo' T k v n xs:=by
  obtain ⟨h0,h1|⟨b,cap,cur,e,hb,r⟩⟩:=h
  · exact ⟨h0,.inl h1⟩
  · exact ⟨h0,.inr ⟨b,cap,cur,e,Nat.le_trans hl hb,r⟩⟩
def VwR (B:Nat) (w:World) (a:Option Addr) (m:List Rm):Prop:=∀i r,m[i]? =some r→∃g,a=some ⟨g,0,none⟩∧g<B∧w.cell? ⟨g,i*2,none⟩=some (.int .u64 r.lo)∧w.cell? ⟨g,i*2+1,none⟩=some (.int .u64 r.hi)
theorem VwR.turn {B:Nat} {w w':World} {a:Option Addr} {m:List Rm} {X:Nat→Prop} (h:VwR B w a m) (T:Turn X w w') (hX:∀x,X x→B≤x) (hB:B≤w.heap.size):VwR B w' a m:=fun i r hr=>by
  obtain ⟨g,e,hg,c0,c1⟩:=h i r hr
  have hn:¬X g:=fun hx=>by have:=hX g hx; omega
  exact ⟨g,e,hg,(T.cell (by omega) hn _).trans c0,(T.cell (by omega) hn _).trans c1⟩
theorem VwR.row {w:World} {g:Nat} {m:List Rm} {rest:List Value} (h:RowAt w g 95 (rowG Bs.encR m++rest)) {B:Nat} (hB:g<B):VwR B w (some ⟨g,0,none⟩) m:=fun i r hr=>by
  have hi:=(List.getElem?_eq_some_iff.1 hr).1
  have hl:(rowG Bs.encR m).length=m.length*2:=rowG_len encR_len m
  have c:∀j,j<2→w.cell? ⟨g,i*2+j,none⟩=(Bs.encR r)[j]? :=fun j hj=>by
    rw [h.cell,List.getElem?_append_left (by rw [hl]; omega)]
    exact Bs.cat_at Bs.encR 2 encR_len hr j hj
  exact ⟨g,rfl,hB,c 0 (by omega),c 1 (by omega)⟩
theorem sortR_any (W:World) (lo cap:Nat) (a:Option Addr) (L:List Rm) (h:W.ownsRow lo 95 2 (.slice a L.length cap) L.length (rowG Bs.encR L)) (hl:L.length<4611686018427387904) :
    Calls Tryz.prog 103 #[.slice a L.length cap,.func (.func 104) #[] #[]] W fun e w'=>e= .returned (.tuple #[])∧∃m,m.length=L.length∧(∀r,r∈m↔r∈L)∧VwR W.heap.size w' a m∧Turn (fun x=>(Value.slice a L.length cap).ownBlock=some x) W w':=by
  rcases LtG.own encR_len h with ⟨e,rfl⟩|⟨g,cap',rest,e,hg,hR⟩
  · refine (sortR_none _ _ _).mono ?_
    rintro e w' ⟨rfl,rfl⟩
    exact ⟨rfl,[],rfl,fun r=>Iff.rfl,fun i r hr=>by simp at hr,Turn.refl _ _⟩
  · cases e
    refine (sortR_row W g cap L rest hR hl).mono ?_
    rintro e w' ⟨rfl,m,h1,h2,h3,h4⟩
    exact ⟨rfl,m,h1,h2,VwR.row h3 hR.lt,h4.mono (fun x _ hx=>by subst hx; rfl)⟩
structure JX (W wr:World) (X:Nat→Prop) (a:Option Addr) (p:Nat) (m:List Rm) (k:Nat) (vm:Value) (A:List (Bs.Sp Bool)):Prop where
  tu:Turn X W wr
  vw:VwR W.heap.size wr a m
  mp:Bs.MapAt wr W.heap.size p vm A
  im:IsM (m.take k) A
section
variable {W wr w':World} {X:Nat→Prop} {a:Option Addr} {p:Nat} {m:List Rm} {k:Nat} {vm:Value} {A:List (Bs.Sp Bool)}
theorem JX.below (h:JX W wr X a p m k vm A) (hb:Below wr.heap.size wr w'):JX W w' X a p m k vm A :=
  ⟨h.tu.trans (Turn.below (S:=fun _=>False) hb) (fun _ h=>h.elim),h.vw.turn (Turn.below (S:=fun _=>False) hb) (fun _ h=>h.elim) h.tu.size,h.mp.keep hb,h.im⟩
theorem RoK.take (h:RoK m):RoK (m.take k):=fun r hr=>h r (List.mem_of_mem_take hr)
theorem JX.set (h:JX W wr X a p m k vm A) (hm:RoK m) {r:Rm} (hr:m[k]? =some r) :
    Calls Tryz.prog 106 #[.pointer (some ⟨p,0,none⟩),.int .u64 r.lo,.int .u64 r.hi,.bool true] wr fun e w'=>(∃v,e= .returned v)∧∃vm' A',JX W w' X a p m (k+1) vm' A':=by
  obtain ⟨h1,h2,h3⟩:=hm r (List.mem_of_getElem? hr)
  have hl:=h.im.len (RoK.take hm)
  refine (Bs.set_any wr W.heap.size p vm A r.lo r.hi true h.mp (by omega) h1 (by omega)).mono ?_
  rintro e w' ⟨rfl,v',hM,T,_⟩
  have T':Turn (fun x=>x=p∨vm.ownBlock=some x) wr w':=⟨T.os,T.tape,T.output,T.size,fun k hk hn=>T.block k hk (fun e=>hn (.inl e)) (fun e=>hn (.inr e.symm))⟩
  have hX:∀x,(x=p∨vm.ownBlock=some x)→W.heap.size≤x:=fun x hx=>hx.elim (fun e=>e▸h.mp.low) (fun e=>(h.mp.own.lt x e).1)
  refine ⟨⟨_,rfl⟩,v',_,⟨h.tu.trans T' (fun x hx=> .inr (hX x hx)),h.vw.turn T' hX h.tu.size,hM,?_⟩⟩
  have hk:=(List.getElem?_eq_some_iff.1 hr).1
  have:m.take (k+1)=m.take k++[r]:=by
    rw [List.take_add_one,hr]; rfl
  rw [this]
  exact h.im.set h1 h2 h3
end
set_option maxRecDepth 100000 in
set_option maxHeartbeats 4000000 in
theorem joined_any (W:World) (lo cap:Nat) (a:Option Addr) (L:List Rm) (h:W.ownsRow lo 95 2 (.slice a L.length cap) L.length (rowG Bs.encR L)) (hl:L.length<4611686018427387904) (hL:RoK L) :
    Calls Tryz.prog 65 #[.slice a L.length cap] W fun e w'=>∃v,e= .returned v∧(∃R,Bs.Lm w' W.heap.size v R∧IsJ L R)∧Turn (fun x=>(Value.slice a L.length cap).ownBlock=some x) W w':=by
  have HS:=hidW (sortR_any W lo cap a L h hl)
  clear h
  generalize hX:(fun x=>(Value.slice a L.length cap).ownBlock=some x)=X at *
  generalize hn:L.length=n at *
  have HX:=hidW hX
  clear hX
  have HNn:=hidW hn
  clear hn
  have HN:=hidW Bs.new_any
  have HD:=hidW Bs.diff_any
  go_enter Tryz.func65,Tryz.ntmps65
  go_wp2_with fail
  go_at_call 103
  refine HS.out.mono ?_
  rintro e w1 ⟨rfl,m,hml,hmm,hv1,T1⟩
  have hmR:RoK m:=fun r hr=>hL r ((hmm r).1 hr)
  have hbn:=below_new w1 (.cells #[.slice none 0 0] 227)
  have HJ:Hid (JX W (w1.alloc (.cells #[.slice none 0 0] 227)) X a w1.heap.size m 0 (.slice none 0 0) []) :=
    ⟨T1.alloc _,hv1.turn (Turn.below (S:=fun _=>False) hbn) (fun _ h=>h.elim) T1.size,⟨heap_alloc_new _ _,World.ownsRow_nil _ _ _ _,T1.size,trivial⟩,by rw [List.take_zero]; exact IsM.nil⟩
  have HM:=hidW hmm
  have HL:=hidW hml
  have HR:=hidW hmR
  clear hbn T1 hv1 hmR hmm hml HS hL
  go_wp2_with (go_at_call 105; refine (HN.out _).mono ?_; rintro e w2 ⟨rfl,rfl⟩)
  generalize w1.heap.size=p at *
  generalize w1.alloc (.cells #[.slice none 0 0] 227)=w2 at *
  go_loopw [11] (fun i wr=>∃(k:Nat) (vm:Value) (A:List (Bs.Sp Bool)),k≤n∧i= .int .i64 k∧Hid (JX W wr X a p m k vm A)) (fun i _=>n-(intOf i).toNat)
  case atStart=>exact ⟨0,_,_,Nat.zero_le _,rfl,HJ⟩
  case round =>
    obtain ⟨k,vm,A,hk,rfl,HJ1⟩:=hrel
    clear HJ
    by_cases hlt:k<n
    · obtain ⟨r,hr⟩:∃r,m[k]? =some r:=⟨_,List.getElem?_eq_getElem (by have:=HL.out; have:m.length=n:=this; omega)⟩
      obtain ⟨g,rfl,hgl,q0,q1⟩:=HJ1.out.vw k r hr
      have hltz:(k:Int)<(n:Int):=by omega
      have hk0:(0:Int)≤(k:Int):=by omega
      have hbn:=below_new wr (.cells #[.int .u64 r.lo,.int .u64 r.hi] 95)
      have HS:=hidW ((HJ1.out.below hbn).set HR.out hr)
      have cR:=(Bl.new wr 95 [.int .u64 r.lo,.int .u64 r.hi]).cell
      clear hbn hr
      go_wp2_with fail
      go_at_call 106
      refine HS.out.mono ?_
      rintro e w4 ⟨⟨v4,rfl⟩,vm4,A4,hJ4⟩
      have HJ4:=hidW hJ4
      clear hJ4 HS q0 q1 cR
      go_wp2
      go_roundw
      case rel=>exact ⟨k+1,vm4,A4,by omega,by go_num,HJ4⟩
      case measure=>simp [intOf]; omega
    · have hkn:k=n:=by omega
      have hbn:=below_new wr (.cells #[.slice none 0 0] 227)
      have hJ:=HJ1.out.below hbn
      have hM:IsM m A:=by
        have:=HJ1.out.im
        rwa [List.take_of_length_le (by have:=HL.out; have:m.length=n:=this; omega)] at this
      have hA:=hM.len HR.out
      have hE:Bs.PM (wr.alloc (.cells #[.slice none 0 0] 227)) (some ⟨wr.heap.size,0,none⟩) []:=Bs.MapAt.pm (lo:=0) (v:= .slice none 0 0) ⟨heap_alloc_new _ _,World.ownsRow_nil _ _ _ _,Nat.zero_le _,trivial⟩
      have HD1:=hidW (HD.out _ _ _ _ _ hJ.mp.pm hE (by simp; omega))
      have HT:=hidW hJ.tu
      have HIM:=hidW hM
      clear hbn hJ hM hA hE HJ1 HD
      go_wp2_with fail
      go_at_call 105
      refine (HN.out _).mono ?_
      rintro e w5 ⟨rfl,rfl⟩
      go_wp2_with fail
      go_at_call 107
      refine HD1.out.mono ?_
      rintro e w6 ⟨v,rfl,⟨R,hR,hdi,_⟩,hb6⟩
      have HQ:Hid ((∃R,Bs.Lm w6 W.heap.size v R∧IsJ L R)∧Turn X W w6):=by
        have hs:=HT.out.size
        refine ⟨⟨R,?_,(HIM.out.joined hdi).perm HM.out⟩,HT.out.trans (Turn.below (S:=fun _=>False) hb6) (fun _ h=>h.elim)⟩
        exact own_lower hR hs
      clear hR hdi hb6 HD1
      go_wp2
      go_ret
      exact ⟨v,rfl,HQ.out⟩
end Go.Proofs.YtnjlajjjcmhfgaaGreatDoor
namespace Go.Proofs.YtnjlajjjcmhfgaaGreatDoor
open Go.RowKit Go.Sort Go.Shelf Go.Lib
open Mm (Turn gr RowAt)
set_option linter.unusedVariables false
set_option linter.unusedSimpArgs false
def lSaid:List Int:=[0,0,1,1,16,1,1,256,16,256]
def TSd (w:World):Prop:=Tb .u64 w 4 lSaid
theorem TSd.below {w w':World} (h:TSd w) (hb:Below w.heap.size w w'):TSd w':=Tb.below h hb
def wdN (s:Int):Nat:=if s=2∨s=4 then 16 else 1
def pgN (s:Int):Nat:=if s=1∨s=2 then 1 else 256
def stO (M:Mo) (c:Ctx) (t:Tra) (pg:Nat) (i:Nat):Option Rm :=
  if ((wk M c (((t.va / 4096+i*pg)*4096)%4294967296)).1.same t)=true then none else some ⟨t.va / 4096+i*pg,t.va / 4096+i*pg+pg-1,()⟩
def stT (M:Mo) (c:Ctx) (t:Tra) (pg:Nat) (n:Nat):List Rm:=(List.range n).filterMap (stO M c t pg)
def stL (M:Mo) (c:Ctx) (t:Tra):List Rm:=stT M c t (pgN t.size) (wdN t.size)
theorem stT_len (M:Mo) (c:Ctx) (t:Tra) (pg n:Nat):(stT M c t pg n).length≤n:=by
  have:=List.length_filterMap_le (stO M c t pg) (List.range n)
  rw [List.length_range] at this
  exact this
theorem stT_yes {M:Mo} {c:Ctx} {t:Tra} {pg n:Nat} (h:((wk M c (((t.va / 4096+n*pg)*4096)%4294967296)).1.same t)=true):stT M c t pg (n+1)=stT M c t pg n:=by
  unfold stT
  rw [List.range_succ,List.filterMap_append]
  simp [stO,h]
theorem stT_no {M:Mo} {c:Ctx} {t:Tra} {pg n:Nat} (h:((wk M c (((t.va / 4096+n*pg)*4096)%4294967296)).1.same t)=false):stT M c t pg (n+1)=stT M c t pg n++[⟨t.va / 4096+n*pg,t.va / 4096+n*pg+pg-1,()⟩]:=by
  unfold stT
  rw [List.range_succ,List.filterMap_append]
  simp [stO,h]
theorem infoR:(Tryz.prog.info? 95).map (fun i=>(i.zero,i.size,i.bytes))=some (some (.agg #[.int .u64 0,.int .u64 0]),2,16):=by kernel_rfl
structure StX (W wr:World) (L:List Rm) (v:Value):Prop where
  bel:Below W.heap.size W wr
  own:wr.ownsRow W.heap.size 95 2 v L.length (rowG Bs.encR L)
theorem StX.below {W wr w':World} {L:List Rm} {v:Value} (h:StX W wr L v) (hb:Below wr.heap.size wr w'):StX W w' L v :=
  ⟨Below.step h.bel hb,Mm.own_turn h.own (Turn.below (S:=fun _=>False) hb) (fun _ _ h=>h)⟩
theorem StX.app {W wr:World} {L:List Rm} {v:Value} (h:StX W wr L v) (r:Rm) (hl:L.length≤8000000000000) :
    ∃v' w',(∀ty,(Builtin.append_ #[92,92] ty #[v,.slice (some ⟨wr.heap.size,0,none⟩) 1 1]).run Tryz.prog (wr.alloc (.cells #[.int .u64 r.lo,.int .u64 r.hi] 95))= .ok v' w')∧StX W w' (L++[r]) v':=by
  obtain ⟨v',w',hr,ho,T1,hg⟩:=appG (by':=16) encR_len encR_one Tryz.underlying92 infoR rfl wr W.heap.size v L r h.own h.bel.size (by omega) (by omega)
  exact ⟨v',w',hr,h.bel.trans (T1.to (fun x hx=>(World.ownsRow.lt h.own x hx).1) h.bel.size),ho⟩
set_option maxRecDepth 100000 in
set_option maxHeartbeats 8000000 in
theorem strays_1 (W:World) (c:Ctx) (t:Tra) {S:Nat→Prop} {iv:Value} {M:Mo} (hm:MemP W S iv M) (ht:TS W) (hd:TSd W) (hc:c.Ok) (hs:t.size=1) (hv:0≤t.va∧t.va<4294967296) :
    Calls Tryz.prog 64 #[iv,.agg #[.bool c.on,.bool c.tre,.bool c.afe,.int .i64 c.n,.bool c.pd0,.bool c.pd1,.int .u64 c.b0,.int .u64 c.b1,.int .u32 c.dacr,.int .u32 c.prrr,.int .u32 c.nmrr,.int .i64 c.asid],(.agg #[.int .i64 1,.int .u32 t.va,.int .u64 t.pa,.int .i64 t.dom,.int .i64 t.ap,.int .u32 t.bits,.bool t.ng,.bool t.xn])] W fun e w'=>∃v,e= .returned v∧w'.ownsRow W.heap.size 95 2 v (stT M c t 1 1).length (rowG Bs.encR (stT M c t 1 1))∧Below W.heap.size W w':=by
  have hb0:Below W.heap.size W ((W.alloc (.cells ([.bool c.on,.bool c.tre,.bool c.afe,.int .i64 c.n,.bool c.pd0,.bool c.pd1,.int .u64 c.b0,.int .u64 c.b1,.int .u32 c.dacr,.int .u32 c.prrr,.int .u32 c.nmrr,.int .i64 c.asid]).toArray 47)).alloc (.cells #[.int .i64 1,.int .u32 t.va,.int .u64 t.pa,.int .i64 t.dom,.int .i64 t.ap,.int .u32 t.bits,.bool t.ng,.bool t.xn] 43)):=Below.step (below_new _ _) (below_new _ _)
  have HB:=hidW hb0
  have HC:Hid (Bl ((W.alloc (.cells ([.bool c.on,.bool c.tre,.bool c.afe,.int .i64 c.n,.bool c.pd0,.bool c.pd1,.int .u64 c.b0,.int .u64 c.b1,.int .u32 c.dacr,.int .u32 c.prrr,.int .u32 c.nmrr,.int .i64 c.asid]).toArray 47)).alloc (.cells #[.int .i64 1,.int .u32 t.va,.int .u64 t.pa,.int .i64 t.dom,.int .i64 t.ap,.int .u32 t.bits,.bool t.ng,.bool t.xn] 43)) W.heap.size 47 ([.bool c.on,.bool c.tre,.bool c.afe,.int .i64 c.n,.bool c.pd0,.bool c.pd1,.int .u64 c.b0,.int .u64 c.b1,.int .u32 c.dacr,.int .u32 c.prrr,.int .u32 c.nmrr,.int .i64 c.asid])):=(Bl.new W _ _).below (below_new _ _)
  have HT:Hid (Bl ((W.alloc (.cells ([.bool c.on,.bool c.tre,.bool c.afe,.int .i64 c.n,.bool c.pd0,.bool c.pd1,.int .u64 c.b0,.int .u64 c.b1,.int .u32 c.dacr,.int .u32 c.prrr,.int .u32 c.nmrr,.int .i64 c.asid]).toArray 47)).alloc (.cells #[.int .i64 1,.int .u32 t.va,.int .u64 t.pa,.int .i64 t.dom,.int .i64 t.ap,.int .u32 t.bits,.bool t.ng,.bool t.xn] 43)) (W.heap.size+1) 43 [.int .i64 1,.int .u32 t.va,.int .u64 t.pa,.int .i64 t.dom,.int .i64 t.ap,.int .u32 t.bits,.bool t.ng,.bool t.xn]):=Bl.new1 _ _ _ _
  have HW:Hid (∀va w,0≤va∧va<4294967296→Below (((W.alloc (.cells ([.bool c.on,.bool c.tre,.bool c.afe,.int .i64 c.n,.bool c.pd0,.bool c.pd1,.int .u64 c.b0,.int .u64 c.b1,.int .u32 c.dacr,.int .u32 c.prrr,.int .u32 c.nmrr,.int .i64 c.asid]).toArray 47)).alloc (.cells #[.int .i64 1,.int .u32 t.va,.int .u64 t.pa,.int .i64 t.dom,.int .i64 t.ap,.int .u32 t.bits,.bool t.ng,.bool t.xn] 43))).heap.size ((W.alloc (.cells ([.bool c.on,.bool c.tre,.bool c.afe,.int .i64 c.n,.bool c.pd0,.bool c.pd1,.int .u64 c.b0,.int .u64 c.b1,.int .u32 c.dacr,.int .u32 c.prrr,.int .u32 c.nmrr,.int .i64 c.asid]).toArray 47)).alloc (.cells #[.int .i64 1,.int .u32 t.va,.int .u64 t.pa,.int .i64 t.dom,.int .i64 t.ap,.int .u32 t.bits,.bool t.ng,.bool t.xn] 43)) w→Calls Tryz.prog 32 #[iv,.agg #[.bool c.on,.bool c.tre,.bool c.afe,.int .i64 c.n,.bool c.pd0,.bool c.pd1,.int .u64 c.b0,.int .u64 c.b1,.int .u32 c.dacr,.int .u32 c.prrr,.int .u32 c.nmrr,.int .i64 c.asid],.int .u32 va] w fun e w'=>e= .returned (.tuple #[.agg #[.int .i64 ((wk M c va).1).size,.int .u32 ((wk M c va).1).va,.int .u64 ((wk M c va).1).pa,.int .i64 ((wk M c va).1).dom,.int .i64 ((wk M c va).1).ap,.int .u32 ((wk M c va).1).bits,.bool ((wk M c va).1).ng,.bool ((wk M c va).1).xn],.agg #[.int .i64 ((wk M c va).2).k,.int .i64 ((wk M c va).2).l,.int .i64 ((wk M c va).2).d]])∧Below w.heap.size w w') :=
    fun va w h1 h2=>walk_pure c va w ((hm.below hb0).below h2) ((ht.below hb0).below h2).tw hc h1
  have HD:=hidW (hd.below hb0)
  have HE:Hid (∀(U:Tra) (w:World),(Op.equalIn 10000 43 (.agg #[.int .i64 U.size,.int .u32 U.va,.int .u64 U.pa,.int .i64 U.dom,.int .i64 U.ap,.int .u32 U.bits,.bool U.ng,.bool U.xn]) (.agg #[.int .i64 1,.int .u32 t.va,.int .u64 t.pa,.int .i64 t.dom,.int .i64 t.ap,.int .u32 t.bits,.bool t.ng,.bool t.xn])).run Tryz.prog w= .ok (U.same t) w):=fun U w=>by have:=eqT U t w; rwa [hs] at this
  have hlo:0≤t.va / 4096∧t.va / 4096<1048576:=by omega
  have k1:=HD.out 2 _ rfl
  have k2:=HD.out 3 _ rfl
  have HR:Hid (∀x,x=stT M c t 1 1→x=stT M c t 1 1):=fun _ h=>h
  clear hm ht hd hc hb0 hs
  generalize hRR:stT M c t 1 1=R at HR ⊢
  have HRR:=hidW hRR
  clear hRR HR
  go_enter Tryz.func64,Tryz.ntmps64
  go_wp2
  have HX0:Hid (StX ((W.alloc (.cells ([.bool c.on,.bool c.tre,.bool c.afe,.int .i64 c.n,.bool c.pd0,.bool c.pd1,.int .u64 c.b0,.int .u64 c.b1,.int .u32 c.dacr,.int .u32 c.prrr,.int .u32 c.nmrr,.int .i64 c.asid]).toArray 47)).alloc (.cells #[.int .i64 1,.int .u32 t.va,.int .u64 t.pa,.int .i64 t.dom,.int .i64 t.ap,.int .u32 t.bits,.bool t.ng,.bool t.xn] 43)) ((W.alloc (.cells ([.bool c.on,.bool c.tre,.bool c.afe,.int .i64 c.n,.bool c.pd0,.bool c.pd1,.int .u64 c.b0,.int .u64 c.b1,.int .u32 c.dacr,.int .u32 c.prrr,.int .u32 c.nmrr,.int .i64 c.asid]).toArray 47)).alloc (.cells #[.int .i64 1,.int .u32 t.va,.int .u64 t.pa,.int .i64 t.dom,.int .i64 t.ap,.int .u32 t.bits,.bool t.ng,.bool t.xn] 43)) (stT M c t 1 0) (.slice none 0 0)):=⟨Below.refl _ _,World.ownsRow_nil _ _ _ _⟩
  have hsz:W.heap.size≤(((W.alloc (.cells ([.bool c.on,.bool c.tre,.bool c.afe,.int .i64 c.n,.bool c.pd0,.bool c.pd1,.int .u64 c.b0,.int .u64 c.b1,.int .u32 c.dacr,.int .u32 c.prrr,.int .u32 c.nmrr,.int .i64 c.asid]).toArray 47)).alloc (.cells #[.int .i64 1,.int .u32 t.va,.int .u64 t.pa,.int .i64 t.dom,.int .i64 t.ap,.int .u32 t.bits,.bool t.ng,.bool t.xn] 43))).heap.size:=HB.out.size
  generalize ((W.alloc (.cells ([.bool c.on,.bool c.tre,.bool c.afe,.int .i64 c.n,.bool c.pd0,.bool c.pd1,.int .u64 c.b0,.int .u64 c.b1,.int .u32 c.dacr,.int .u32 c.prrr,.int .u32 c.nmrr,.int .i64 c.asid]).toArray 47)).alloc (.cells #[.int .i64 1,.int .u32 t.va,.int .u64 t.pa,.int .i64 t.dom,.int .i64 t.ap,.int .u32 t.bits,.bool t.ng,.bool t.xn] 43))=W2 at *
  generalize W.heap.size+1=bt at *
  generalize hbc:W.heap.size=bc at *
  have hbt:bt<W2.heap.size:=HT.out.lt
  have hbl:bc<W2.heap.size:=HC.out.lt
  clear k1 k2
  go_loopw [7,8,21] (fun v l i wr=>∃(k:Nat),k≤1∧i= .int .u64 k∧l= .int .u64 (t.va / 4096+k*1)∧∃u,u=v∧Hid (StX W2 wr (stT M c t 1 k) u)) (fun _ _ i _=>1-(intOf i).toNat)
  case atStart=>exact ⟨0,by omega,rfl,by simp,_,rfl,HX0⟩
  case round =>
    obtain ⟨k,hk,rfl,rfl,u,rfl,HX⟩:=hrel
    clear HX0
    by_cases hlt:k<1
    · have hltz:(k:Int)<1:=by omega
      have hk0:(0:Int)≤(k:Int):=by omega
      have hbw:=HX.out.bel
      have k1:=(HD.out.below hbw) 2 _ rfl
      have k2:=(HD.out.below hbw) 3 _ rfl
      have cC:=(HC.out.below hbw).cell
      have cT:=(HT.out.below hbw).cell
      clear hbw
      have ha1:(t.va / 4096+k*1)+1<18446744073709551616:=by omega
      have ha0:0≤(t.va / 4096+k*1):=by omega
      have HV:=hidW ha0
      have hdef:∃lk,lk=t.va / 4096+k*1:=⟨_,rfl⟩
      obtain ⟨lk,hlk⟩:=hdef
      rw [←hlk] at ha1 ha0 ⊢
      have hlb:lk<2000000:=by omega
      have HLK:=hidW hlk
      clear hlk
      go_wp2_with fail
      go_at_call 32
      refine (HW.out _ _ ?_ HX.out.bel).mono ?_
      · omega
      have HLV:Hid (((t.va / 4096+(k:Int)*((1:Nat):Int))*4096)%4294967296=lk*4096%4294967296):=by rw [HLK.out]; rfl
      generalize lk*4096%4294967296=va at *
      rintro e w1 ⟨rfl,hb1⟩
      have HYes:Hid ((wk M c va).1.same t=true→stT M c t 1 (k+1)=stT M c t 1 k):=fun h=>stT_yes (by rw [HLV.out]; exact h)
      have HNo:Hid ((wk M c va).1.same t=false→stT M c t 1 (k+1)=stT M c t 1 k++[⟨lk,lk+1-1,()⟩]):=fun h=>by rw [HLK.out]; exact stT_no (by rw [HLV.out]; exact h)
      generalize (wk M c va).1=U at *
      generalize (wk M c va).2=F at *
      have hb2:Below wr.heap.size wr ((w1.alloc (.cells ([.int .i64 U.size,.int .u32 U.va,.int .u64 U.pa,.int .i64 U.dom,.int .i64 U.ap,.int .u32 U.bits,.bool U.ng,.bool U.xn]).toArray 43)).alloc (.cells ([.int .i64 F.k,.int .i64 F.l,.int .i64 F.d]).toArray 88)):=Below.step hb1 (Below.step (below_new _ _) (below_new _ _))
      have HX2:=hidW (HX.out.below hb2)
      have cU:=((Bl.new w1 43 ([.int .i64 U.size,.int .u32 U.va,.int .u64 U.pa,.int .i64 U.dom,.int .i64 U.ap,.int .u32 U.bits,.bool U.ng,.bool U.xn])).below (below_new _ (.cells ([.int .i64 F.k,.int .i64 F.l,.int .i64 F.d]).toArray 88))).cell
      have cT2:=(HT.out.below HX2.out.bel).cell
      have hw1:bt<w1.heap.size:=by have:=HX.out.bel.size; have:=hb1.size; omega
      have n1:¬w1.heap.size=bt:=by omega
      have eT:=HE.out U
      have hlk1:0≤lk+1∧lk+1<18446744073709551616:=by omega
      clear hb1 hb2 cT HX k1 k2 cC
      generalize U.same t=sb at *
      cases sb
      · obtain ⟨v',w6,happ,hX6⟩:=HX2.out.app ⟨lk,lk+1-1,()⟩ (by have:=stT_len M c t 1 k; omega)
        have HX6:Hid (StX W2 w6 (stT M c t 1 (k+1)) v'):=by
          show StX W2 w6 (stT M c t 1 (k+1)) v'
          rw [HNo.out rfl]; exact hX6
        have hsz5:((w1.alloc (.cells ([.int .i64 U.size,.int .u32 U.va,.int .u64 U.pa,.int .i64 U.dom,.int .i64 U.ap,.int .u32 U.bits,.bool U.ng,.bool U.xn]).toArray 43)).alloc (.cells ([.int .i64 F.k,.int .i64 F.l,.int .i64 F.d]).toArray 88)).heap.size=w1.heap.size+1+1:=by simp
        rw [hsz5] at happ
        try simp only [Int.add_sub_cancel] at happ
        clear hX6 HYes HNo HX2 hsz5
        go_wp2_with (at_builtin; refine Lib.wpList_append_run _ rfl _ _ 92 92 rfl _ _ rfl rfl _ _ (happ _) ?_; clear happ)
        go_roundw
        case rel=>exact ⟨k+1,by omega,by go_num,by rw [HLK.out]; congr 1; push_cast; omega,_,rfl,HX6⟩
        case measure=>simp [intOf]; omega
      · have HX6:Hid (StX W2 ((w1.alloc (.cells ([.int .i64 U.size,.int .u32 U.va,.int .u64 U.pa,.int .i64 U.dom,.int .i64 U.ap,.int .u32 U.bits,.bool U.ng,.bool U.xn]).toArray 43)).alloc (.cells ([.int .i64 F.k,.int .i64 F.l,.int .i64 F.d]).toArray 88)) (stT M c t 1 (k+1)) u):=by
          show StX W2 _ (stT M c t 1 (k+1)) u
          rw [HYes.out rfl]; exact HX2.out
        clear HYes HNo HX2
        go_wp2
        go_roundw
        case rel=>exact ⟨k+1,by omega,by go_num,by rw [HLK.out]; congr 1; push_cast; omega,_,rfl,HX6⟩
        case measure=>simp [intOf]; omega
    · have hkn:k=1:=by omega
      subst hkn
      have HQ:Hid (wr.ownsRow bc 95 2 u R.length (rowG Bs.encR R)∧Below bc W wr):=by
        have h1:=HX.out
        rw [HRR.out] at h1
        exact ⟨own_lower h1.own hsz,HB.out.trans (h1.bel.mono hsz)⟩
      clear HX
      go_wp2
      go_ret
      subst hbc
      exact ⟨_,rfl,HQ.out⟩
set_option maxRecDepth 100000 in
set_option maxHeartbeats 8000000 in
theorem strays_2 (W:World) (c:Ctx) (t:Tra) {S:Nat→Prop} {iv:Value} {M:Mo} (hm:MemP W S iv M) (ht:TS W) (hd:TSd W) (hc:c.Ok) (hs:t.size=2) (hv:0≤t.va∧t.va<4294967296) :
    Calls Tryz.prog 64 #[iv,.agg #[.bool c.on,.bool c.tre,.bool c.afe,.int .i64 c.n,.bool c.pd0,.bool c.pd1,.int .u64 c.b0,.int .u64 c.b1,.int .u32 c.dacr,.int .u32 c.prrr,.int .u32 c.nmrr,.int .i64 c.asid],(.agg #[.int .i64 2,.int .u32 t.va,.int .u64 t.pa,.int .i64 t.dom,.int .i64 t.ap,.int .u32 t.bits,.bool t.ng,.bool t.xn])] W fun e w'=>∃v,e= .returned v∧w'.ownsRow W.heap.size 95 2 v (stT M c t 1 16).length (rowG Bs.encR (stT M c t 1 16))∧Below W.heap.size W w':=by
  have hb0:Below W.heap.size W ((W.alloc (.cells ([.bool c.on,.bool c.tre,.bool c.afe,.int .i64 c.n,.bool c.pd0,.bool c.pd1,.int .u64 c.b0,.int .u64 c.b1,.int .u32 c.dacr,.int .u32 c.prrr,.int .u32 c.nmrr,.int .i64 c.asid]).toArray 47)).alloc (.cells #[.int .i64 2,.int .u32 t.va,.int .u64 t.pa,.int .i64 t.dom,.int .i64 t.ap,.int .u32 t.bits,.bool t.ng,.bool t.xn] 43)):=Below.step (below_new _ _) (below_new _ _)
  have HB:=hidW hb0
  have HC:Hid (Bl ((W.alloc (.cells ([.bool c.on,.bool c.tre,.bool c.afe,.int .i64 c.n,.bool c.pd0,.bool c.pd1,.int .u64 c.b0,.int .u64 c.b1,.int .u32 c.dacr,.int .u32 c.prrr,.int .u32 c.nmrr,.int .i64 c.asid]).toArray 47)).alloc (.cells #[.int .i64 2,.int .u32 t.va,.int .u64 t.pa,.int .i64 t.dom,.int .i64 t.ap,.int .u32 t.bits,.bool t.ng,.bool t.xn] 43)) W.heap.size 47 ([.bool c.on,.bool c.tre,.bool c.afe,.int .i64 c.n,.bool c.pd0,.bool c.pd1,.int .u64 c.b0,.int .u64 c.b1,.int .u32 c.dacr,.int .u32 c.prrr,.int .u32 c.nmrr,.int .i64 c.asid])):=(Bl.new W _ _).below (below_new _ _)
  have HT:Hid (Bl ((W.alloc (.cells ([.bool c.on,.bool c.tre,.bool c.afe,.int .i64 c.n,.bool c.pd0,.bool c.pd1,.int .u64 c.b0,.int .u64 c.b1,.int .u32 c.dacr,.int .u32 c.prrr,.int .u32 c.nmrr,.int .i64 c.asid]).toArray 47)).alloc (.cells #[.int .i64 2,.int .u32 t.va,.int .u64 t.pa,.int .i64 t.dom,.int .i64 t.ap,.int .u32 t.bits,.bool t.ng,.bool t.xn] 43)) (W.heap.size+1) 43 [.int .i64 2,.int .u32 t.va,.int .u64 t.pa,.int .i64 t.dom,.int .i64 t.ap,.int .u32 t.bits,.bool t.ng,.bool t.xn]):=Bl.new1 _ _ _ _
  have HW:Hid (∀va w,0≤va∧va<4294967296→Below (((W.alloc (.cells ([.bool c.on,.bool c.tre,.bool c.afe,.int .i64 c.n,.bool c.pd0,.bool c.pd1,.int .u64 c.b0,.int .u64 c.b1,.int .u32 c.dacr,.int .u32 c.prrr,.int .u32 c.nmrr,.int .i64 c.asid]).toArray 47)).alloc (.cells #[.int .i64 2,.int .u32 t.va,.int .u64 t.pa,.int .i64 t.dom,.int .i64 t.ap,.int .u32 t.bits,.bool t.ng,.bool t.xn] 43))).heap.size ((W.alloc (.cells ([.bool c.on,.bool c.tre,.bool c.afe,.int .i64 c.n,.bool c.pd0,.bool c.pd1,.int .u64 c.b0,.int .u64 c.b1,.int .u32 c.dacr,.int .u32 c.prrr,.int .u32 c.nmrr,.int .i64 c.asid]).toArray 47)).alloc (.cells #[.int .i64 2,.int .u32 t.va,.int .u64 t.pa,.int .i64 t.dom,.int .i64 t.ap,.int .u32 t.bits,.bool t.ng,.bool t.xn] 43)) w→Calls Tryz.prog 32 #[iv,.agg #[.bool c.on,.bool c.tre,.bool c.afe,.int .i64 c.n,.bool c.pd0,.bool c.pd1,.int .u64 c.b0,.int .u64 c.b1,.int .u32 c.dacr,.int .u32 c.prrr,.int .u32 c.nmrr,.int .i64 c.asid],.int .u32 va] w fun e w'=>e= .returned (.tuple #[.agg #[.int .i64 ((wk M c va).1).size,.int .u32 ((wk M c va).1).va,.int .u64 ((wk M c va).1).pa,.int .i64 ((wk M c va).1).dom,.int .i64 ((wk M c va).1).ap,.int .u32 ((wk M c va).1).bits,.bool ((wk M c va).1).ng,.bool ((wk M c va).1).xn],.agg #[.int .i64 ((wk M c va).2).k,.int .i64 ((wk M c va).2).l,.int .i64 ((wk M c va).2).d]])∧Below w.heap.size w w') :=
    fun va w h1 h2=>walk_pure c va w ((hm.below hb0).below h2) ((ht.below hb0).below h2).tw hc h1
  have HD:=hidW (hd.below hb0)
  have HE:Hid (∀(U:Tra) (w:World),(Op.equalIn 10000 43 (.agg #[.int .i64 U.size,.int .u32 U.va,.int .u64 U.pa,.int .i64 U.dom,.int .i64 U.ap,.int .u32 U.bits,.bool U.ng,.bool U.xn]) (.agg #[.int .i64 2,.int .u32 t.va,.int .u64 t.pa,.int .i64 t.dom,.int .i64 t.ap,.int .u32 t.bits,.bool t.ng,.bool t.xn])).run Tryz.prog w= .ok (U.same t) w):=fun U w=>by have:=eqT U t w; rwa [hs] at this
  have hlo:0≤t.va / 4096∧t.va / 4096<1048576:=by omega
  have k1:=HD.out 4 _ rfl
  have k2:=HD.out 5 _ rfl
  have HR:Hid (∀x,x=stT M c t 1 16→x=stT M c t 1 16):=fun _ h=>h
  clear hm ht hd hc hb0 hs
  generalize hRR:stT M c t 1 16=R at HR ⊢
  have HRR:=hidW hRR
  clear hRR HR
  go_enter Tryz.func64,Tryz.ntmps64
  go_wp2
  have HX0:Hid (StX ((W.alloc (.cells ([.bool c.on,.bool c.tre,.bool c.afe,.int .i64 c.n,.bool c.pd0,.bool c.pd1,.int .u64 c.b0,.int .u64 c.b1,.int .u32 c.dacr,.int .u32 c.prrr,.int .u32 c.nmrr,.int .i64 c.asid]).toArray 47)).alloc (.cells #[.int .i64 2,.int .u32 t.va,.int .u64 t.pa,.int .i64 t.dom,.int .i64 t.ap,.int .u32 t.bits,.bool t.ng,.bool t.xn] 43)) ((W.alloc (.cells ([.bool c.on,.bool c.tre,.bool c.afe,.int .i64 c.n,.bool c.pd0,.bool c.pd1,.int .u64 c.b0,.int .u64 c.b1,.int .u32 c.dacr,.int .u32 c.prrr,.int .u32 c.nmrr,.int .i64 c.asid]).toArray 47)).alloc (.cells #[.int .i64 2,.int .u32 t.va,.int .u64 t.pa,.int .i64 t.dom,.int .i64 t.ap,.int .u32 t.bits,.bool t.ng,.bool t.xn] 43)) (stT M c t 1 0) (.slice none 0 0)):=⟨Below.refl _ _,World.ownsRow_nil _ _ _ _⟩
  have hsz:W.heap.size≤(((W.alloc (.cells ([.bool c.on,.bool c.tre,.bool c.afe,.int .i64 c.n,.bool c.pd0,.bool c.pd1,.int .u64 c.b0,.int .u64 c.b1,.int .u32 c.dacr,.int .u32 c.prrr,.int .u32 c.nmrr,.int .i64 c.asid]).toArray 47)).alloc (.cells #[.int .i64 2,.int .u32 t.va,.int .u64 t.pa,.int .i64 t.dom,.int .i64 t.ap,.int .u32 t.bits,.bool t.ng,.bool t.xn] 43))).heap.size:=HB.out.size
  generalize ((W.alloc (.cells ([.bool c.on,.bool c.tre,.bool c.afe,.int .i64 c.n,.bool c.pd0,.bool c.pd1,.int .u64 c.b0,.int .u64 c.b1,.int .u32 c.dacr,.int .u32 c.prrr,.int .u32 c.nmrr,.int .i64 c.asid]).toArray 47)).alloc (.cells #[.int .i64 2,.int .u32 t.va,.int .u64 t.pa,.int .i64 t.dom,.int .i64 t.ap,.int .u32 t.bits,.bool t.ng,.bool t.xn] 43))=W2 at *
  generalize W.heap.size+1=bt at *
  generalize hbc:W.heap.size=bc at *
  have hbt:bt<W2.heap.size:=HT.out.lt
  have hbl:bc<W2.heap.size:=HC.out.lt
  clear k1 k2
  go_loopw [7,8,21] (fun v l i wr=>∃(k:Nat),k≤16∧i= .int .u64 k∧l= .int .u64 (t.va / 4096+k*1)∧∃u,u=v∧Hid (StX W2 wr (stT M c t 1 k) u)) (fun _ _ i _=>16-(intOf i).toNat)
  case atStart=>exact ⟨0,by omega,rfl,by simp,_,rfl,HX0⟩
  case round =>
    obtain ⟨k,hk,rfl,rfl,u,rfl,HX⟩:=hrel
    clear HX0
    by_cases hlt:k<16
    · have hltz:(k:Int)<16:=by omega
      have hk0:(0:Int)≤(k:Int):=by omega
      have hbw:=HX.out.bel
      have k1:=(HD.out.below hbw) 4 _ rfl
      have k2:=(HD.out.below hbw) 5 _ rfl
      have cC:=(HC.out.below hbw).cell
      have cT:=(HT.out.below hbw).cell
      clear hbw
      have ha1:(t.va / 4096+k*1)+1<18446744073709551616:=by omega
      have ha0:0≤(t.va / 4096+k*1):=by omega
      have HV:=hidW ha0
      have hdef:∃lk,lk=t.va / 4096+k*1:=⟨_,rfl⟩
      obtain ⟨lk,hlk⟩:=hdef
      rw [←hlk] at ha1 ha0 ⊢
      have hlb:lk<2000000:=by omega
      have HLK:=hidW hlk
      clear hlk
      go_wp2_with fail
      go_at_call 32
      refine (HW.out _ _ ?_ HX.out.bel).mono ?_
      · omega
      have HLV:Hid (((t.va / 4096+(k:Int)*((1:Nat):Int))*4096)%4294967296=lk*4096%4294967296):=by rw [HLK.out]; rfl
      generalize lk*4096%4294967296=va at *
      rintro e w1 ⟨rfl,hb1⟩
      have HYes:Hid ((wk M c va).1.same t=true→stT M c t 1 (k+1)=stT M c t 1 k):=fun h=>stT_yes (by rw [HLV.out]; exact h)
      have HNo:Hid ((wk M c va).1.same t=false→stT M c t 1 (k+1)=stT M c t 1 k++[⟨lk,lk+1-1,()⟩]):=fun h=>by rw [HLK.out]; exact stT_no (by rw [HLV.out]; exact h)
      generalize (wk M c va).1=U at *
      generalize (wk M c va).2=F at *
      have hb2:Below wr.heap.size wr ((w1.alloc (.cells ([.int .i64 U.size,.int .u32 U.va,.int .u64 U.pa,.int .i64 U.dom,.int .i64 U.ap,.int .u32 U.bits,.bool U.ng,.bool U.xn]).toArray 43)).alloc (.cells ([.int .i64 F.k,.int .i64 F.l,.int .i64 F.d]).toArray 88)):=Below.step hb1 (Below.step (below_new _ _) (below_new _ _))
      have HX2:=hidW (HX.out.below hb2)
      have cU:=((Bl.new w1 43 ([.int .i64 U.size,.int .u32 U.va,.int .u64 U.pa,.int .i64 U.dom,.int .i64 U.ap,.int .u32 U.bits,.bool U.ng,.bool U.xn])).below (below_new _ (.cells ([.int .i64 F.k,.int .i64 F.l,.int .i64 F.d]).toArray 88))).cell
      have cT2:=(HT.out.below HX2.out.bel).cell
      have hw1:bt<w1.heap.size:=by have:=HX.out.bel.size; have:=hb1.size; omega
      have n1:¬w1.heap.size=bt:=by omega
      have eT:=HE.out U
      have hlk1:0≤lk+1∧lk+1<18446744073709551616:=by omega
      clear hb1 hb2 cT HX k1 k2 cC
      generalize U.same t=sb at *
      cases sb
      · obtain ⟨v',w6,happ,hX6⟩:=HX2.out.app ⟨lk,lk+1-1,()⟩ (by have:=stT_len M c t 1 k; omega)
        have HX6:Hid (StX W2 w6 (stT M c t 1 (k+1)) v'):=by
          show StX W2 w6 (stT M c t 1 (k+1)) v'
          rw [HNo.out rfl]; exact hX6
        have hsz5:((w1.alloc (.cells ([.int .i64 U.size,.int .u32 U.va,.int .u64 U.pa,.int .i64 U.dom,.int .i64 U.ap,.int .u32 U.bits,.bool U.ng,.bool U.xn]).toArray 43)).alloc (.cells ([.int .i64 F.k,.int .i64 F.l,.int .i64 F.d]).toArray 88)).heap.size=w1.heap.size+1+1:=by simp
        rw [hsz5] at happ
        try simp only [Int.add_sub_cancel] at happ
        clear hX6 HYes HNo HX2 hsz5
        go_wp2_with (at_builtin; refine Lib.wpList_append_run _ rfl _ _ 92 92 rfl _ _ rfl rfl _ _ (happ _) ?_; clear happ)
        go_roundw
        case rel=>exact ⟨k+1,by omega,by go_num,by rw [HLK.out]; congr 1; push_cast; omega,_,rfl,HX6⟩
        case measure=>simp [intOf]; omega
      · have HX6:Hid (StX W2 ((w1.alloc (.cells ([.int .i64 U.size,.int .u32 U.va,.int .u64 U.pa,.int .i64 U.dom,.int .i64 U.ap,.int .u32 U.bits,.bool U.ng,.bool U.xn]).toArray 43)).alloc (.cells ([.int .i64 F.k,.int .i64 F.l,.int .i64 F.d]).toArray 88)) (stT M c t 1 (k+1)) u):=by
          show StX W2 _ (stT M c t 1 (k+1)) u
          rw [HYes.out rfl]; exact HX2.out
        clear HYes HNo HX2
        go_wp2
        go_roundw
        case rel=>exact ⟨k+1,by omega,by go_num,by rw [HLK.out]; congr 1; push_cast; omega,_,rfl,HX6⟩
        case measure=>simp [intOf]; omega
    · have hkn:k=16:=by omega
      subst hkn
      have HQ:Hid (wr.ownsRow bc 95 2 u R.length (rowG Bs.encR R)∧Below bc W wr):=by
        have h1:=HX.out
        rw [HRR.out] at h1
        exact ⟨own_lower h1.own hsz,HB.out.trans (h1.bel.mono hsz)⟩
      clear HX
      go_wp2
      go_ret
      subst hbc
      exact ⟨_,rfl,HQ.out⟩
set_option maxRecDepth 100000 in
set_option maxHeartbeats 8000000 in
theorem strays_3 (W:World) (c:Ctx) (t:Tra) {S:Nat→Prop} {iv:Value} {M:Mo} (hm:MemP W S iv M) (ht:TS W) (hd:TSd W) (hc:c.Ok) (hs:t.size=3) (hv:0≤t.va∧t.va<4294967296) :
    Calls Tryz.prog 64 #[iv,.agg #[.bool c.on,.bool c.tre,.bool c.afe,.int .i64 c.n,.bool c.pd0,.bool c.pd1,.int .u64 c.b0,.int .u64 c.b1,.int .u32 c.dacr,.int .u32 c.prrr,.int .u32 c.nmrr,.int .i64 c.asid],(.agg #[.int .i64 3,.int .u32 t.va,.int .u64 t.pa,.int .i64 t.dom,.int .i64 t.ap,.int .u32 t.bits,.bool t.ng,.bool t.xn])] W fun e w'=>∃v,e= .returned v∧w'.ownsRow W.heap.size 95 2 v (stT M c t 256 1).length (rowG Bs.encR (stT M c t 256 1))∧Below W.heap.size W w':=by
  have hb0:Below W.heap.size W ((W.alloc (.cells ([.bool c.on,.bool c.tre,.bool c.afe,.int .i64 c.n,.bool c.pd0,.bool c.pd1,.int .u64 c.b0,.int .u64 c.b1,.int .u32 c.dacr,.int .u32 c.prrr,.int .u32 c.nmrr,.int .i64 c.asid]).toArray 47)).alloc (.cells #[.int .i64 3,.int .u32 t.va,.int .u64 t.pa,.int .i64 t.dom,.int .i64 t.ap,.int .u32 t.bits,.bool t.ng,.bool t.xn] 43)):=Below.step (below_new _ _) (below_new _ _)
  have HB:=hidW hb0
  have HC:Hid (Bl ((W.alloc (.cells ([.bool c.on,.bool c.tre,.bool c.afe,.int .i64 c.n,.bool c.pd0,.bool c.pd1,.int .u64 c.b0,.int .u64 c.b1,.int .u32 c.dacr,.int .u32 c.prrr,.int .u32 c.nmrr,.int .i64 c.asid]).toArray 47)).alloc (.cells #[.int .i64 3,.int .u32 t.va,.int .u64 t.pa,.int .i64 t.dom,.int .i64 t.ap,.int .u32 t.bits,.bool t.ng,.bool t.xn] 43)) W.heap.size 47 ([.bool c.on,.bool c.tre,.bool c.afe,.int .i64 c.n,.bool c.pd0,.bool c.pd1,.int .u64 c.b0,.int .u64 c.b1,.int .u32 c.dacr,.int .u32 c.prrr,.int .u32 c.nmrr,.int .i64 c.asid])):=(Bl.new W _ _).below (below_new _ _)
  have HT:Hid (Bl ((W.alloc (.cells ([.bool c.on,.bool c.tre,.bool c.afe,.int .i64 c.n,.bool c.pd0,.bool c.pd1,.int .u64 c.b0,.int .u64 c.b1,.int .u32 c.dacr,.int .u32 c.prrr,.int .u32 c.nmrr,.int .i64 c.asid]).toArray 47)).alloc (.cells #[.int .i64 3,.int .u32 t.va,.int .u64 t.pa,.int .i64 t.dom,.int .i64 t.ap,.int .u32 t.bits,.bool t.ng,.bool t.xn] 43)) (W.heap.size+1) 43 [.int .i64 3,.int .u32 t.va,.int .u64 t.pa,.int .i64 t.dom,.int .i64 t.ap,.int .u32 t.bits,.bool t.ng,.bool t.xn]):=Bl.new1 _ _ _ _
  have HW:Hid (∀va w,0≤va∧va<4294967296→Below (((W.alloc (.cells ([.bool c.on,.bool c.tre,.bool c.afe,.int .i64 c.n,.bool c.pd0,.bool c.pd1,.int .u64 c.b0,.int .u64 c.b1,.int .u32 c.dacr,.int .u32 c.prrr,.int .u32 c.nmrr,.int .i64 c.asid]).toArray 47)).alloc (.cells #[.int .i64 3,.int .u32 t.va,.int .u64 t.pa,.int .i64 t.dom,.int .i64 t.ap,.int .u32 t.bits,.bool t.ng,.bool t.xn] 43))).heap.size ((W.alloc (.cells ([.bool c.on,.bool c.tre,.bool c.afe,.int .i64 c.n,.bool c.pd0,.bool c.pd1,.int .u64 c.b0,.int .u64 c.b1,.int .u32 c.dacr,.int .u32 c.prrr,.int .u32 c.nmrr,.int .i64 c.asid]).toArray 47)).alloc (.cells #[.int .i64 3,.int .u32 t.va,.int .u64 t.pa,.int .i64 t.dom,.int .i64 t.ap,.int .u32 t.bits,.bool t.ng,.bool t.xn] 43)) w→Calls Tryz.prog 32 #[iv,.agg #[.bool c.on,.bool c.tre,.bool c.afe,.int .i64 c.n,.bool c.pd0,.bool c.pd1,.int .u64 c.b0,.int .u64 c.b1,.int .u32 c.dacr,.int .u32 c.prrr,.int .u32 c.nmrr,.int .i64 c.asid],.int .u32 va] w fun e w'=>e= .returned (.tuple #[.agg #[.int .i64 ((wk M c va).1).size,.int .u32 ((wk M c va).1).va,.int .u64 ((wk M c va).1).pa,.int .i64 ((wk M c va).1).dom,.int .i64 ((wk M c va).1).ap,.int .u32 ((wk M c va).1).bits,.bool ((wk M c va).1).ng,.bool ((wk M c va).1).xn],.agg #[.int .i64 ((wk M c va).2).k,.int .i64 ((wk M c va).2).l,.int .i64 ((wk M c va).2).d]])∧Below w.heap.size w w') :=
    fun va w h1 h2=>walk_pure c va w ((hm.below hb0).below h2) ((ht.below hb0).below h2).tw hc h1
  have HD:=hidW (hd.below hb0)
  have HE:Hid (∀(U:Tra) (w:World),(Op.equalIn 10000 43 (.agg #[.int .i64 U.size,.int .u32 U.va,.int .u64 U.pa,.int .i64 U.dom,.int .i64 U.ap,.int .u32 U.bits,.bool U.ng,.bool U.xn]) (.agg #[.int .i64 3,.int .u32 t.va,.int .u64 t.pa,.int .i64 t.dom,.int .i64 t.ap,.int .u32 t.bits,.bool t.ng,.bool t.xn])).run Tryz.prog w= .ok (U.same t) w):=fun U w=>by have:=eqT U t w; rwa [hs] at this
  have hlo:0≤t.va / 4096∧t.va / 4096<1048576:=by omega
  have k1:=HD.out 6 _ rfl
  have k2:=HD.out 7 _ rfl
  have HR:Hid (∀x,x=stT M c t 256 1→x=stT M c t 256 1):=fun _ h=>h
  clear hm ht hd hc hb0 hs
  generalize hRR:stT M c t 256 1=R at HR ⊢
  have HRR:=hidW hRR
  clear hRR HR
  go_enter Tryz.func64,Tryz.ntmps64
  go_wp2
  have HX0:Hid (StX ((W.alloc (.cells ([.bool c.on,.bool c.tre,.bool c.afe,.int .i64 c.n,.bool c.pd0,.bool c.pd1,.int .u64 c.b0,.int .u64 c.b1,.int .u32 c.dacr,.int .u32 c.prrr,.int .u32 c.nmrr,.int .i64 c.asid]).toArray 47)).alloc (.cells #[.int .i64 3,.int .u32 t.va,.int .u64 t.pa,.int .i64 t.dom,.int .i64 t.ap,.int .u32 t.bits,.bool t.ng,.bool t.xn] 43)) ((W.alloc (.cells ([.bool c.on,.bool c.tre,.bool c.afe,.int .i64 c.n,.bool c.pd0,.bool c.pd1,.int .u64 c.b0,.int .u64 c.b1,.int .u32 c.dacr,.int .u32 c.prrr,.int .u32 c.nmrr,.int .i64 c.asid]).toArray 47)).alloc (.cells #[.int .i64 3,.int .u32 t.va,.int .u64 t.pa,.int .i64 t.dom,.int .i64 t.ap,.int .u32 t.bits,.bool t.ng,.bool t.xn] 43)) (stT M c t 256 0) (.slice none 0 0)):=⟨Below.refl _ _,World.ownsRow_nil _ _ _ _⟩
  have hsz:W.heap.size≤(((W.alloc (.cells ([.bool c.on,.bool c.tre,.bool c.afe,.int .i64 c.n,.bool c.pd0,.bool c.pd1,.int .u64 c.b0,.int .u64 c.b1,.int .u32 c.dacr,.int .u32 c.prrr,.int .u32 c.nmrr,.int .i64 c.asid]).toArray 47)).alloc (.cells #[.int .i64 3,.int .u32 t.va,.int .u64 t.pa,.int .i64 t.dom,.int .i64 t.ap,.int .u32 t.bits,.bool t.ng,.bool t.xn] 43))).heap.size:=HB.out.size
  generalize ((W.alloc (.cells ([.bool c.on,.bool c.tre,.bool c.afe,.int .i64 c.n,.bool c.pd0,.bool c.pd1,.int .u64 c.b0,.int .u64 c.b1,.int .u32 c.dacr,.int .u32 c.prrr,.int .u32 c.nmrr,.int .i64 c.asid]).toArray 47)).alloc (.cells #[.int .i64 3,.int .u32 t.va,.int .u64 t.pa,.int .i64 t.dom,.int .i64 t.ap,.int .u32 t.bits,.bool t.ng,.bool t.xn] 43))=W2 at *
  generalize W.heap.size+1=bt at *
  generalize hbc:W.heap.size=bc at *
  have hbt:bt<W2.heap.size:=HT.out.lt
  have hbl:bc<W2.heap.size:=HC.out.lt
  clear k1 k2
  go_loopw [7,8,21] (fun v l i wr=>∃(k:Nat),k≤1∧i= .int .u64 k∧l= .int .u64 (t.va / 4096+k*256)∧∃u,u=v∧Hid (StX W2 wr (stT M c t 256 k) u)) (fun _ _ i _=>1-(intOf i).toNat)
  case atStart=>exact ⟨0,by omega,rfl,by simp,_,rfl,HX0⟩
  case round =>
    obtain ⟨k,hk,rfl,rfl,u,rfl,HX⟩:=hrel
    clear HX0
    by_cases hlt:k<1
    · have hltz:(k:Int)<1:=by omega
      have hk0:(0:Int)≤(k:Int):=by omega
      have hbw:=HX.out.bel
      have k1:=(HD.out.below hbw) 6 _ rfl
      have k2:=(HD.out.below hbw) 7 _ rfl
      have cC:=(HC.out.below hbw).cell
      have cT:=(HT.out.below hbw).cell
      clear hbw
      have ha1:(t.va / 4096+k*256)+256<18446744073709551616:=by omega
      have ha0:0≤(t.va / 4096+k*256):=by omega
      have HV:=hidW ha0
      have hdef:∃lk,lk=t.va / 4096+k*256:=⟨_,rfl⟩
      obtain ⟨lk,hlk⟩:=hdef
      rw [←hlk] at ha1 ha0 ⊢
      have hlb:lk<2000000:=by omega
      have HLK:=hidW hlk
      clear hlk
      go_wp2_with fail
      go_at_call 32
      refine (HW.out _ _ ?_ HX.out.bel).mono ?_
      · omega
      have HLV:Hid (((t.va / 4096+(k:Int)*((256:Nat):Int))*4096)%4294967296=lk*4096%4294967296):=by rw [HLK.out]; rfl
      generalize lk*4096%4294967296=va at *
      rintro e w1 ⟨rfl,hb1⟩
      have HYes:Hid ((wk M c va).1.same t=true→stT M c t 256 (k+1)=stT M c t 256 k):=fun h=>stT_yes (by rw [HLV.out]; exact h)
      have HNo:Hid ((wk M c va).1.same t=false→stT M c t 256 (k+1)=stT M c t 256 k++[⟨lk,lk+256-1,()⟩]):=fun h=>by rw [HLK.out]; exact stT_no (by rw [HLV.out]; exact h)
      generalize (wk M c va).1=U at *
      generalize (wk M c va).2=F at *
      have hb2:Below wr.heap.size wr ((w1.alloc (.cells ([.int .i64 U.size,.int .u32 U.va,.int .u64 U.pa,.int .i64 U.dom,.int .i64 U.ap,.int .u32 U.bits,.bool U.ng,.bool U.xn]).toArray 43)).alloc (.cells ([.int .i64 F.k,.int .i64 F.l,.int .i64 F.d]).toArray 88)):=Below.step hb1 (Below.step (below_new _ _) (below_new _ _))
      have HX2:=hidW (HX.out.below hb2)
      have cU:=((Bl.new w1 43 ([.int .i64 U.size,.int .u32 U.va,.int .u64 U.pa,.int .i64 U.dom,.int .i64 U.ap,.int .u32 U.bits,.bool U.ng,.bool U.xn])).below (below_new _ (.cells ([.int .i64 F.k,.int .i64 F.l,.int .i64 F.d]).toArray 88))).cell
      have cT2:=(HT.out.below HX2.out.bel).cell
      have hw1:bt<w1.heap.size:=by have:=HX.out.bel.size; have:=hb1.size; omega
      have n1:¬w1.heap.size=bt:=by omega
      have eT:=HE.out U
      have hlk1:0≤lk+256∧lk+256<18446744073709551616:=by omega
      clear hb1 hb2 cT HX k1 k2 cC
      generalize U.same t=sb at *
      cases sb
      · obtain ⟨v',w6,happ,hX6⟩:=HX2.out.app ⟨lk,lk+256-1,()⟩ (by have:=stT_len M c t 256 k; omega)
        have HX6:Hid (StX W2 w6 (stT M c t 256 (k+1)) v'):=by
          show StX W2 w6 (stT M c t 256 (k+1)) v'
          rw [HNo.out rfl]; exact hX6
        have hsz5:((w1.alloc (.cells ([.int .i64 U.size,.int .u32 U.va,.int .u64 U.pa,.int .i64 U.dom,.int .i64 U.ap,.int .u32 U.bits,.bool U.ng,.bool U.xn]).toArray 43)).alloc (.cells ([.int .i64 F.k,.int .i64 F.l,.int .i64 F.d]).toArray 88)).heap.size=w1.heap.size+1+1:=by simp
        rw [hsz5] at happ
        try simp only [Int.add_sub_cancel] at happ
        clear hX6 HYes HNo HX2 hsz5
        go_wp2_with (at_builtin; refine Lib.wpList_append_run _ rfl _ _ 92 92 rfl _ _ rfl rfl _ _ (happ _) ?_; clear happ)
        go_roundw
        case rel=>exact ⟨k+1,by omega,by go_num,by rw [HLK.out]; congr 1; push_cast; omega,_,rfl,HX6⟩
        case measure=>simp [intOf]; omega
      · have HX6:Hid (StX W2 ((w1.alloc (.cells ([.int .i64 U.size,.int .u32 U.va,.int .u64 U.pa,.int .i64 U.dom,.int .i64 U.ap,.int .u32 U.bits,.bool U.ng,.bool U.xn]).toArray 43)).alloc (.cells ([.int .i64 F.k,.int .i64 F.l,.int .i64 F.d]).toArray 88)) (stT M c t 256 (k+1)) u):=by
          show StX W2 _ (stT M c t 256 (k+1)) u
          rw [HYes.out rfl]; exact HX2.out
        clear HYes HNo HX2
        go_wp2
        go_roundw
        case rel=>exact ⟨k+1,by omega,by go_num,by rw [HLK.out]; congr 1; push_cast; omega,_,rfl,HX6⟩
        case measure=>simp [intOf]; omega
    · have hkn:k=1:=by omega
      subst hkn
      have HQ:Hid (wr.ownsRow bc 95 2 u R.length (rowG Bs.encR R)∧Below bc W wr):=by
        have h1:=HX.out
        rw [HRR.out] at h1
        exact ⟨own_lower h1.own hsz,HB.out.trans (h1.bel.mono hsz)⟩
      clear HX
      go_wp2
      go_ret
      subst hbc
      exact ⟨_,rfl,HQ.out⟩
set_option maxRecDepth 100000 in
set_option maxHeartbeats 8000000 in
theorem strays_4 (W:World) (c:Ctx) (t:Tra) {S:Nat→Prop} {iv:Value} {M:Mo} (hm:MemP W S iv M) (ht:TS W) (hd:TSd W) (hc:c.Ok) (hs:t.size=4) (hv:0≤t.va∧t.va<4294967296) :
    Calls Tryz.prog 64 #[iv,.agg #[.bool c.on,.bool c.tre,.bool c.afe,.int .i64 c.n,.bool c.pd0,.bool c.pd1,.int .u64 c.b0,.int .u64 c.b1,.int .u32 c.dacr,.int .u32 c.prrr,.int .u32 c.nmrr,.int .i64 c.asid],(.agg #[.int .i64 4,.int .u32 t.va,.int .u64 t.pa,.int .i64 t.dom,.int .i64 t.ap,.int .u32 t.bits,.bool t.ng,.bool t.xn])] W fun e w'=>∃v,e= .returned v∧w'.ownsRow W.heap.size 95 2 v (stT M c t 256 16).length (rowG Bs.encR (stT M c t 256 16))∧Below W.heap.size W w':=by
  have hb0:Below W.heap.size W ((W.alloc (.cells ([.bool c.on,.bool c.tre,.bool c.afe,.int .i64 c.n,.bool c.pd0,.bool c.pd1,.int .u64 c.b0,.int .u64 c.b1,.int .u32 c.dacr,.int .u32 c.prrr,.int .u32 c.nmrr,.int .i64 c.asid]).toArray 47)).alloc (.cells #[.int .i64 4,.int .u32 t.va,.int .u64 t.pa,.int .i64 t.dom,.int .i64 t.ap,.int .u32 t.bits,.bool t.ng,.bool t.xn] 43)):=Below.step (below_new _ _) (below_new _ _)
  have HB:=hidW hb0
  have HC:Hid (Bl ((W.alloc (.cells ([.bool c.on,.bool c.tre,.bool c.afe,.int .i64 c.n,.bool c.pd0,.bool c.pd1,.int .u64 c.b0,.int .u64 c.b1,.int .u32 c.dacr,.int .u32 c.prrr,.int .u32 c.nmrr,.int .i64 c.asid]).toArray 47)).alloc (.cells #[.int .i64 4,.int .u32 t.va,.int .u64 t.pa,.int .i64 t.dom,.int .i64 t.ap,.int .u32 t.bits,.bool t.ng,.bool t.xn] 43)) W.heap.size 47 ([.bool c.on,.bool c.tre,.bool c.afe,.int .i64 c.n,.bool c.pd0,.bool c.pd1,.int .u64 c.b0,.int .u64 c.b1,.int .u32 c.dacr,.int .u32 c.prrr,.int .u32 c.nmrr,.int .i64 c.asid])):=(Bl.new W _ _).below (below_new _ _)
  have HT:Hid (Bl ((W.alloc (.cells ([.bool c.on,.bool c.tre,.bool c.afe,.int .i64 c.n,.bool c.pd0,.bool c.pd1,.int .u64 c.b0,.int .u64 c.b1,.int .u32 c.dacr,.int .u32 c.prrr,.int .u32 c.nmrr,.int .i64 c.asid]).toArray 47)).alloc (.cells #[.int .i64 4,.int .u32 t.va,.int .u64 t.pa,.int .i64 t.dom,.int .i64 t.ap,.int .u32 t.bits,.bool t.ng,.bool t.xn] 43)) (W.heap.size+1) 43 [.int .i64 4,.int .u32 t.va,.int .u64 t.pa,.int .i64 t.dom,.int .i64 t.ap,.int .u32 t.bits,.bool t.ng,.bool t.xn]):=Bl.new1 _ _ _ _
  have HW:Hid (∀va w,0≤va∧va<4294967296→Below (((W.alloc (.cells ([.bool c.on,.bool c.tre,.bool c.afe,.int .i64 c.n,.bool c.pd0,.bool c.pd1,.int .u64 c.b0,.int .u64 c.b1,.int .u32 c.dacr,.int .u32 c.prrr,.int .u32 c.nmrr,.int .i64 c.asid]).toArray 47)).alloc (.cells #[.int .i64 4,.int .u32 t.va,.int .u64 t.pa,.int .i64 t.dom,.int .i64 t.ap,.int .u32 t.bits,.bool t.ng,.bool t.xn] 43))).heap.size ((W.alloc (.cells ([.bool c.on,.bool c.tre,.bool c.afe,.int .i64 c.n,.bool c.pd0,.bool c.pd1,.int .u64 c.b0,.int .u64 c.b1,.int .u32 c.dacr,.int .u32 c.prrr,.int .u32 c.nmrr,.int .i64 c.asid]).toArray 47)).alloc (.cells #[.int .i64 4,.int .u32 t.va,.int .u64 t.pa,.int .i64 t.dom,.int .i64 t.ap,.int .u32 t.bits,.bool t.ng,.bool t.xn] 43)) w→Calls Tryz.prog 32 #[iv,.agg #[.bool c.on,.bool c.tre,.bool c.afe,.int .i64 c.n,.bool c.pd0,.bool c.pd1,.int .u64 c.b0,.int .u64 c.b1,.int .u32 c.dacr,.int .u32 c.prrr,.int .u32 c.nmrr,.int .i64 c.asid],.int .u32 va] w fun e w'=>e= .returned (.tuple #[.agg #[.int .i64 ((wk M c va).1).size,.int .u32 ((wk M c va).1).va,.int .u64 ((wk M c va).1).pa,.int .i64 ((wk M c va).1).dom,.int .i64 ((wk M c va).1).ap,.int .u32 ((wk M c va).1).bits,.bool ((wk M c va).1).ng,.bool ((wk M c va).1).xn],.agg #[.int .i64 ((wk M c va).2).k,.int .i64 ((wk M c va).2).l,.int .i64 ((wk M c va).2).d]])∧Below w.heap.size w w') :=
    fun va w h1 h2=>walk_pure c va w ((hm.below hb0).below h2) ((ht.below hb0).below h2).tw hc h1
  have HD:=hidW (hd.below hb0)
  have HE:Hid (∀(U:Tra) (w:World),(Op.equalIn 10000 43 (.agg #[.int .i64 U.size,.int .u32 U.va,.int .u64 U.pa,.int .i64 U.dom,.int .i64 U.ap,.int .u32 U.bits,.bool U.ng,.bool U.xn]) (.agg #[.int .i64 4,.int .u32 t.va,.int .u64 t.pa,.int .i64 t.dom,.int .i64 t.ap,.int .u32 t.bits,.bool t.ng,.bool t.xn])).run Tryz.prog w= .ok (U.same t) w):=fun U w=>by have:=eqT U t w; rwa [hs] at this
  have hlo:0≤t.va / 4096∧t.va / 4096<1048576:=by omega
  have k1:=HD.out 8 _ rfl
  have k2:=HD.out 9 _ rfl
  have HR:Hid (∀x,x=stT M c t 256 16→x=stT M c t 256 16):=fun _ h=>h
  clear hm ht hd hc hb0 hs
  generalize hRR:stT M c t 256 16=R at HR ⊢
  have HRR:=hidW hRR
  clear hRR HR
  go_enter Tryz.func64,Tryz.ntmps64
  go_wp2
  have HX0:Hid (StX ((W.alloc (.cells ([.bool c.on,.bool c.tre,.bool c.afe,.int .i64 c.n,.bool c.pd0,.bool c.pd1,.int .u64 c.b0,.int .u64 c.b1,.int .u32 c.dacr,.int .u32 c.prrr,.int .u32 c.nmrr,.int .i64 c.asid]).toArray 47)).alloc (.cells #[.int .i64 4,.int .u32 t.va,.int .u64 t.pa,.int .i64 t.dom,.int .i64 t.ap,.int .u32 t.bits,.bool t.ng,.bool t.xn] 43)) ((W.alloc (.cells ([.bool c.on,.bool c.tre,.bool c.afe,.int .i64 c.n,.bool c.pd0,.bool c.pd1,.int .u64 c.b0,.int .u64 c.b1,.int .u32 c.dacr,.int .u32 c.prrr,.int .u32 c.nmrr,.int .i64 c.asid]).toArray 47)).alloc (.cells #[.int .i64 4,.int .u32 t.va,.int .u64 t.pa,.int .i64 t.dom,.int .i64 t.ap,.int .u32 t.bits,.bool t.ng,.bool t.xn] 43)) (stT M c t 256 0) (.slice none 0 0)):=⟨Below.refl _ _,World.ownsRow_nil _ _ _ _⟩
  have hsz:W.heap.size≤(((W.alloc (.cells ([.bool c.on,.bool c.tre,.bool c.afe,.int .i64 c.n,.bool c.pd0,.bool c.pd1,.int .u64 c.b0,.int .u64 c.b1,.int .u32 c.dacr,.int .u32 c.prrr,.int .u32 c.nmrr,.int .i64 c.asid]).toArray 47)).alloc (.cells #[.int .i64 4,.int .u32 t.va,.int .u64 t.pa,.int .i64 t.dom,.int .i64 t.ap,.int .u32 t.bits,.bool t.ng,.bool t.xn] 43))).heap.size:=HB.out.size
  generalize ((W.alloc (.cells ([.bool c.on,.bool c.tre,.bool c.afe,.int .i64 c.n,.bool c.pd0,.bool c.pd1,.int .u64 c.b0,.int .u64 c.b1,.int .u32 c.dacr,.int .u32 c.prrr,.int .u32 c.nmrr,.int .i64 c.asid]).toArray 47)).alloc (.cells #[.int .i64 4,.int .u32 t.va,.int .u64 t.pa,.int .i64 t.dom,.int .i64 t.ap,.int .u32 t.bits,.bool t.ng,.bool t.xn] 43))=W2 at *
  generalize W.heap.size+1=bt at *
  generalize hbc:W.heap.size=bc at *
  have hbt:bt<W2.heap.size:=HT.out.lt
  have hbl:bc<W2.heap.size:=HC.out.lt
  clear k1 k2
  go_loopw [7,8,21] (fun v l i wr=>∃(k:Nat),k≤16∧i= .int .u64 k∧l= .int .u64 (t.va / 4096+k*256)∧∃u,u=v∧Hid (StX W2 wr (stT M c t 256 k) u)) (fun _ _ i _=>16-(intOf i).toNat)
  case atStart=>exact ⟨0,by omega,rfl,by simp,_,rfl,HX0⟩
  case round =>
    obtain ⟨k,hk,rfl,rfl,u,rfl,HX⟩:=hrel
    clear HX0
    by_cases hlt:k<16
    · have hltz:(k:Int)<16:=by omega
      have hk0:(0:Int)≤(k:Int):=by omega
      have hbw:=HX.out.bel
      have k1:=(HD.out.below hbw) 8 _ rfl
      have k2:=(HD.out.below hbw) 9 _ rfl
      have cC:=(HC.out.below hbw).cell
      have cT:=(HT.out.below hbw).cell
      clear hbw
      have ha1:(t.va / 4096+k*256)+256<18446744073709551616:=by omega
      have ha0:0≤(t.va / 4096+k*256):=by omega
      have HV:=hidW ha0
      have hdef:∃lk,lk=t.va / 4096+k*256:=⟨_,rfl⟩
      obtain ⟨lk,hlk⟩:=hdef
      rw [←hlk] at ha1 ha0 ⊢
      have hlb:lk<2000000:=by omega
      have HLK:=hidW hlk
      clear hlk
      go_wp2_with fail
      go_at_call 32
      refine (HW.out _ _ ?_ HX.out.bel).mono ?_
      · omega
      have HLV:Hid (((t.va / 4096+(k:Int)*((256:Nat):Int))*4096)%4294967296=lk*4096%4294967296):=by rw [HLK.out]; rfl
      generalize lk*4096%4294967296=va at *
      rintro e w1 ⟨rfl,hb1⟩
      have HYes:Hid ((wk M c va).1.same t=true→stT M c t 256 (k+1)=stT M c t 256 k):=fun h=>stT_yes (by rw [HLV.out]; exact h)
      have HNo:Hid ((wk M c va).1.same t=false→stT M c t 256 (k+1)=stT M c t 256 k++[⟨lk,lk+256-1,()⟩]):=fun h=>by rw [HLK.out]; exact stT_no (by rw [HLV.out]; exact h)
      generalize (wk M c va).1=U at *
      generalize (wk M c va).2=F at *
      have hb2:Below wr.heap.size wr ((w1.alloc (.cells ([.int .i64 U.size,.int .u32 U.va,.int .u64 U.pa,.int .i64 U.dom,.int .i64 U.ap,.int .u32 U.bits,.bool U.ng,.bool U.xn]).toArray 43)).alloc (.cells ([.int .i64 F.k,.int .i64 F.l,.int .i64 F.d]).toArray 88)):=Below.step hb1 (Below.step (below_new _ _) (below_new _ _))
      have HX2:=hidW (HX.out.below hb2)
      have cU:=((Bl.new w1 43 ([.int .i64 U.size,.int .u32 U.va,.int .u64 U.pa,.int .i64 U.dom,.int .i64 U.ap,.int .u32 U.bits,.bool U.ng,.bool U.xn])).below (below_new _ (.cells ([.int .i64 F.k,.int .i64 F.l,.int .i64 F.d]).toArray 88))).cell
      have cT2:=(HT.out.below HX2.out.bel).cell
      have hw1:bt<w1.heap.size:=by have:=HX.out.bel.size; have:=hb1.size; omega
      have n1:¬w1.heap.size=bt:=by omega
      have eT:=HE.out U
      have hlk1:0≤lk+256∧lk+256<18446744073709551616:=by omega
      clear hb1 hb2 cT HX k1 k2 cC
      generalize U.same t=sb at *
      cases sb
      · obtain ⟨v',w6,happ,hX6⟩:=HX2.out.app ⟨lk,lk+256-1,()⟩ (by have:=stT_len M c t 256 k; omega)
        have HX6:Hid (StX W2 w6 (stT M c t 256 (k+1)) v'):=by
          show StX W2 w6 (stT M c t 256 (k+1)) v'
          rw [HNo.out rfl]; exact hX6
        have hsz5:((w1.alloc (.cells ([.int .i64 U.size,.int .u32 U.va,.int .u64 U.pa,.int .i64 U.dom,.int .i64 U.ap,.int .u32 U.bits,.bool U.ng,.bool U.xn]).toArray 43)).alloc (.cells ([.int .i64 F.k,.int .i64 F.l,.int .i64 F.d]).toArray 88)).heap.size=w1.heap.size+1+1:=by simp
        rw [hsz5] at happ
        try simp only [Int.add_sub_cancel] at happ
        clear hX6 HYes HNo HX2 hsz5
        go_wp2_with (at_builtin; refine Lib.wpList_append_run _ rfl _ _ 92 92 rfl _ _ rfl rfl _ _ (happ _) ?_; clear happ)
        go_roundw
        case rel=>exact ⟨k+1,by omega,by go_num,by rw [HLK.out]; congr 1; push_cast; omega,_,rfl,HX6⟩
        case measure=>simp [intOf]; omega
      · have HX6:Hid (StX W2 ((w1.alloc (.cells ([.int .i64 U.size,.int .u32 U.va,.int .u64 U.pa,.int .i64 U.dom,.int .i64 U.ap,.int .u32 U.bits,.bool U.ng,.bool U.xn]).toArray 43)).alloc (.cells ([.int .i64 F.k,.int .i64 F.l,.int .i64 F.d]).toArray 88)) (stT M c t 256 (k+1)) u):=by
          show StX W2 _ (stT M c t 256 (k+1)) u
          rw [HYes.out rfl]; exact HX2.out
        clear HYes HNo HX2
        go_wp2
        go_roundw
        case rel=>exact ⟨k+1,by omega,by go_num,by rw [HLK.out]; congr 1; push_cast; omega,_,rfl,HX6⟩
        case measure=>simp [intOf]; omega
    · have hkn:k=16:=by omega
      subst hkn
      have HQ:Hid (wr.ownsRow bc 95 2 u R.length (rowG Bs.encR R)∧Below bc W wr):=by
        have h1:=HX.out
        rw [HRR.out] at h1
        exact ⟨own_lower h1.own hsz,HB.out.trans (h1.bel.mono hsz)⟩
      clear HX
      go_wp2
      go_ret
      subst hbc
      exact ⟨_,rfl,HQ.out⟩
theorem strays_any (W:World) (c:Ctx) (t:Tra) {S:Nat→Prop} {iv:Value} {M:Mo} (hm:MemP W S iv M) (ht:TS W) (hd:TSd W) (hc:c.Ok) (hs:t.size=1∨t.size=2∨t.size=3∨t.size=4) (hv:0≤t.va∧t.va<4294967296) :
    Calls Tryz.prog 64 #[iv,.agg #[.bool c.on,.bool c.tre,.bool c.afe,.int .i64 c.n,.bool c.pd0,.bool c.pd1,.int .u64 c.b0,.int .u64 c.b1,.int .u32 c.dacr,.int .u32 c.prrr,.int .u32 c.nmrr,.int .i64 c.asid],.agg #[.int .i64 t.size,.int .u32 t.va,.int .u64 t.pa,.int .i64 t.dom,.int .i64 t.ap,.int .u32 t.bits,.bool t.ng,.bool t.xn]] W fun e w'=>∃v,e= .returned v∧w'.ownsRow W.heap.size 95 2 v (stL M c t).length (rowG Bs.encR (stL M c t))∧Below W.heap.size W w':=by
  unfold stL
  rcases hs with hs|hs|hs|hs
  · have h:=strays_1 W c t hm ht hd hc hs hv
    rw [hs,show pgN 1=1 from rfl,show wdN 1=1 from rfl]
    exact h
  · have h:=strays_2 W c t hm ht hd hc hs hv
    rw [hs,show pgN 2=1 from rfl,show wdN 2=16 from rfl]
    exact h
  · have h:=strays_3 W c t hm ht hd hc hs hv
    rw [hs,show pgN 3=256 from rfl,show wdN 3=1 from rfl]
    exact h
  · have h:=strays_4 W c t hm ht hd hc hs hv
    rw [hs,show pgN 4=256 from rfl,show wdN 4=16 from rfl]
    exact h
theorem wdN_le (s:Int):wdN s≤16:=by unfold wdN; split <;>omega
theorem stL_len (M:Mo) (c:Ctx) (t:Tra):(stL M c t).length≤16:=Nat.le_trans (stT_len _ _ _ _ _) (wdN_le _)
theorem stL_ok (M:Mo) (c:Ctx) (t:Tra) (hv:0≤t.va∧t.va<4294967296):RoK (stL M c t):=by
  intro r hr
  unfold stL stT at hr
  obtain ⟨i,hi,hr⟩:=List.mem_filterMap.1 hr
  have hi:i<wdN t.size:=List.mem_range.1 hi
  have hw:=wdN_le t.size
  unfold stO at hr
  split at hr
  · cases hr
  · cases hr
    have hp:pgN t.size=1∨pgN t.size=256:=by unfold pgN; split <;>simp
    have:0≤t.va / 4096∧t.va / 4096<1048576:=by omega
    rcases hp with hp|hp <;>rw [hp] <;>simp only [] <;>omega
end Go.Proofs.YtnjlajjjcmhfgaaGreatDoor
