import Derived.Shelf.SlSortCmp.NoneTotal
import Derived.Ground.SlsfProg
import Derived.Test.YtnjlajjjcmhfgaaGreatDoorProg
import Derived.Test.YtnjlajjjcmhfgaaGreatDoorTA15
import Derived.Test.YtnjlajjjcmhfgaaGreatDoorTA25
import Derived.Test.YtnjlajjjcmhfgaaGreatDoorTA20
import Derived.Test.YtnjlajjjcmhfgaaGreatDoorTA23
namespace Go.Proofs.YtnjlajjjcmhfgaaGreatDoor
open Go.Shelf
def Tryz.sortL_ren:Go.Shelf.Ren:=⟨fun|6=>88|15=>84|14=>126|28=>123|29=>124|20=>169|21=>170|22=>171|23=>172|24=>173|25=>174|26=>175|27=>176|46=>213|47=>165|48=>166|49=>214|50=>215|57=>232|n=>n,fun|22=>123|24=>43|25=>166|3=>3|39=>125|0=>0|53=>32|55=>35|4=>4|46=>201|45=>200|50=>205|5=>5|9=>9|66=>247|70=>250|76=>282|77=>283|n=>n,fun|n=>n⟩
theorem Tryz.sortL:Go.Proofs.SlLaysF0.n6 Tryz.prog Tryz.sortL_ren:={
  mixed:=by kernel_rfl
  f6:=⟨Tryz.f88.name,by decide,Tryz.func88.trans (congrArg some (by kernel_rfl))⟩
  f14:=⟨Tryz.f126.name,by decide,Tryz.func126.trans (congrArg some (by kernel_rfl))⟩
  f15:=Tryz.func84.trans (congrArg some (by kernel_rfl))
  f20:=⟨Tryz.f169.name,by decide,Tryz.func169.trans (congrArg some (by kernel_rfl))⟩
  f21:=⟨Tryz.f170.name,by decide,Tryz.func170.trans (congrArg some (by kernel_rfl))⟩
  f22:=⟨Tryz.f171.name,by decide,Tryz.func171.trans (congrArg some (by kernel_rfl))⟩
  f23:=⟨Tryz.f172.name,by decide,Tryz.func172.trans (congrArg some (by kernel_rfl))⟩
  f24:=⟨Tryz.f173.name,by decide,Tryz.func173.trans (congrArg some (by kernel_rfl))⟩
  f25:=⟨Tryz.f174.name,by decide,Tryz.func174.trans (congrArg some (by kernel_rfl))⟩
  f26:=⟨Tryz.f175.name,by decide,Tryz.func175.trans (congrArg some (by kernel_rfl))⟩
  f27:=⟨Tryz.f176.name,by decide,Tryz.func176.trans (congrArg some (by kernel_rfl))⟩
  f28:=Tryz.func123.trans (congrArg some (by kernel_rfl))
  f29:=Tryz.func124.trans (congrArg some (by kernel_rfl))
  f46:=⟨Tryz.f213.name,by decide,Tryz.func213.trans (congrArg some (by kernel_rfl))⟩
  f47:=Tryz.func165.trans (congrArg some (by kernel_rfl))
  f48:=Tryz.func166.trans (congrArg some (by kernel_rfl))
  f49:=⟨Tryz.f214.name,by decide,Tryz.func214.trans (congrArg some (by kernel_rfl))⟩
  f50:=⟨Tryz.f215.name,by decide,Tryz.func215.trans (congrArg some (by kernel_rfl))⟩
  f57:=⟨Tryz.f232.name,by decide,Tryz.func232.trans (congrArg some (by kernel_rfl))⟩
  t0:=Tryz.underlying0
  a0:=Tryz.isAgg0
  z0:=Tryz.sizeOf0
  v0:=Tryz.zeroValue0
  t3:=Tryz.underlying3
  a3:=Tryz.isAgg3
  z3:=Tryz.sizeOf3
  v3:=Tryz.zeroValue3
  t4:=Tryz.underlying4
  a4:=Tryz.isAgg4
  z4:=Tryz.sizeOf4
  v4:=Tryz.zeroValue4
  t5:=Tryz.underlying5
  a5:=Tryz.isAgg5
  z5:=Tryz.sizeOf5
  v5:=Tryz.zeroValue5
  t9:=Tryz.underlying9
  a9:=Tryz.isAgg9
  z9:=Tryz.sizeOf9
  v9:=Tryz.zeroValue9
  t22:=Tryz.underlying123
  a22:=Tryz.isAgg123
  z22:=Tryz.sizeOf123
  v22:=Tryz.zeroValue123
  t25:=Tryz.underlying166
  a25:=Tryz.isAgg166
  z25:=Tryz.sizeOf166
  v25:=Tryz.zeroValue166
  t39:=Tryz.underlying125
  a39:=Tryz.isAgg125
  z39:=Tryz.sizeOf125
  v39:=Tryz.zeroValue125
  t45:=Tryz.underlying200
  a45:=Tryz.isAgg200
  z45:=Tryz.sizeOf200
  v45:=Tryz.zeroValue200
  t46:=Tryz.underlying201
  a46:=Tryz.isAgg201
  z46:=Tryz.sizeOf201
  v46:=Tryz.zeroValue201
  t50:=Tryz.underlying205
  a50:=Tryz.isAgg205
  z50:=Tryz.sizeOf205
  v50:=Tryz.zeroValue205
  t53:=Tryz.underlying32
  a53:=Tryz.isAgg32
  z53:=Tryz.sizeOf32
  v53:=Tryz.zeroValue32
  t55:=Tryz.underlying35
  a55:=Tryz.isAgg35
  z55:=Tryz.sizeOf35
  v55:=Tryz.zeroValue35
  t66:=Tryz.underlying247
  a66:=Tryz.isAgg247
  z66:=Tryz.sizeOf247
  v66:=Tryz.zeroValue247
  t70:=Tryz.underlying250
  a70:=Tryz.isAgg250
  z70:=Tryz.sizeOf250
  v70:=Tryz.zeroValue250
  t76:=Tryz.underlying282
  a76:=Tryz.isAgg282
  z76:=Tryz.sizeOf282
  v76:=Tryz.zeroValue282
  t77:=Tryz.underlying283
  a77:=Tryz.isAgg283
  z77:=Tryz.sizeOf283
  v77:=Tryz.zeroValue283 }
end Go.Proofs.YtnjlajjjcmhfgaaGreatDoor
namespace Go.Proofs.YtnjlajjjcmhfgaaGreatDoor
open Go.RowKit Go.Sort Go.Shelf Go.Lib
open Mm (Turn gr RowAt)
set_option linter.unusedVariables false
set_option linter.unusedSimpArgs false
theorem alloc_grow (w:World) (o:Obj):w.alloc o=grow w #[o]:=by
  unfold grow
  rw [Array.append_singleton]
  rfl
theorem cmpLays [Inhabited Tra] (blk off size:Nat) (w:World):CmpLays Tryz.prog 89 #[] encT 8 cmT blk off size w:=by
  intro m os dk hs x y
  generalize sortWorldK encT 8 w blk off m dk os=W
  refine (show Calls Tryz.prog 89 #[.agg #[.int .i64 x.size,.int .u32 x.va,.int .u64 x.pa,.int .i64 x.dom,.int .i64 x.ap,.int .u32 x.bits,.bool x.ng,.bool x.xn],.agg #[.int .i64 y.size,.int .u32 y.va,.int .u64 y.pa,.int .i64 y.dom,.int .i64 y.ap,.int .u32 y.bits,.bool y.ng,.bool y.xn]] W _ from (compare_any x y W)).mono ?_
  rintro e w' ⟨rfl,o1,o2,o3,rfl⟩
  refine ⟨rfl,1,#[o1,o2,o3],?_⟩
  rw [alloc_grow,alloc_grow,alloc_grow,grow_grow,grow_grow,drew_grow]
  rfl
theorem swoT:SWO (ltOf cmT):=⟨ltT_irrefl,ltT_trans,ltT_ntrans⟩
theorem sort_some [Inhabited Tra] (blk off cap:Nat) (l:List Tra) (w:World) (hH:HoldsK encT 8 w blk off l.toArray) (hb:blk<w.heap.size) (hl:l.length<4611686018427387904) :
    Calls Tryz.prog 88 #[.slice (some ⟨blk,off,none⟩) l.length cap,.func (.func 89) #[] #[]] w fun e w' =>
      e= .returned (.tuple #[])∧∃n os,w'=sortWorldK encT 8 w blk off n (soT l).toArray os:=by
  have eg:∀args w,(callFunc 89 args).run Tryz.prog w= .ok (.enter 89 args) w:=enters_of Tryz.func89 (by kernel_rfl) rfl
  have h:=AnyQ.slices_SortFunc_total Tryz.sortL 8 (fun w=>by kernel_rfl) (fun w=>by kernel_rfl) encT (fun x=>rfl) (fun x v hv=>by simp [encT] at hv; rcases hv with rfl|rfl|rfl|rfl|rfl|rfl|rfl|rfl <;>rfl) cmT swoT 89 #[] blk off cap l.toArray w eg (cmpLays blk off _ w) hH hb (by simpa using hl) ltT_tot
  exact h
theorem sort_none (p:Option Addr) (cap:Nat) (w:World):Calls Tryz.prog 88 #[.slice p 0 cap,.func (.func 89) #[] #[]] w fun e w'=>e= .returned (.tuple #[])∧w'=w :=
  AnyF.slices_SortFunc_none (P:=Tryz.prog) (ρ:=Tryz.sortL_ren) { Tryz.sortL with } p cap _ w
theorem flat_row [Inhabited Tra] (l:List Tra):flatK encT 8 l.toArray=(rowT l).toArray:=by
  refine ext_get! (by rw [size_flatK]; simp [rowT_len]) fun t ht=> ?_
  rw [size_flatK] at ht
  have ht':t<l.length*8:=by simpa using ht
  rw [get_flatK _ _ _ _ ht]
  have hi:t / 8<l.length:=by omega
  have h:=rowT_at (l:=l) (i:=t / 8) (List.getElem?_eq_getElem hi) (t%8) (by omega)
  rw [show t / 8*8+t%8=t by omega] at h
  have e1:l.toArray[t / 8]! =l[t / 8]:=by rw [getElem!_pos _ _ (by simpa using hi)]; simp
  rw [e1,getElem!_pos _ t (by simpa [rowT_len] using ht'),List.getElem_toArray]
  have h8:t%8<(encT l[t / 8]).length:=by show t%8<8; omega
  rw [getElem!_pos (encT l[t / 8]) (t%8) h8]
  rw [List.getElem?_eq_getElem h8,List.getElem?_eq_getElem (by rw [rowT_len]; exact ht')] at h
  injection h with h
  exact h.symm
theorem put_row (a b r:List Value) (h:a.length=b.length):putCells id 0 b.toArray (a++r).toArray=(b++r).toArray:=by
  apply Array.ext_getElem?
  intro k
  simp only [putCells,Array.getElem?_mapIdx,List.getElem?_toArray,List.size_toArray,Nat.zero_le,true_and,Nat.zero_add,Nat.sub_zero]
  by_cases hk:k<b.length
  · rw [List.getElem?_append_left (by omega),List.getElem?_append_left hk,List.getElem?_eq_getElem (by omega),List.getElem?_eq_getElem hk]
    simp only [Option.map_some,if_pos hk,id_eq]
    rw [getElem!_pos _ _ (by simpa using hk)]
    simp
  · rw [List.getElem?_append_right (by omega),List.getElem?_append_right (by omega),h]
    cases r[k-b.length]? with
    | none=>rfl
    | some y=>simp only [Option.map_some,if_neg hk]
theorem sort_row (w:World) (g cap:Nat) (l:List Tra) (rest:List Value) (hR:RowAt w g 43 (rowT l++rest)) (hl:l.length≤1000000) :
    Calls Tryz.prog 88 #[.slice (some ⟨g,0,none⟩) l.length cap,.func (.func 89) #[] #[]] w fun e w'=>e= .returned (.tuple #[])∧RowAt w' g 43 (rowT (soT l)++rest)∧Turn (fun x=>x=g) w w':=by
  haveI:Inhabited Tra:=⟨tZ⟩
  have hH:HoldsK encT 8 w g 0 l.toArray:=by
    intro j hj
    rw [flat_row] at hj ⊢
    have hj':j<(rowT l).length:=by simpa using hj
    rw [Nat.zero_add,hR.cell,List.getElem?_append_left hj',List.getElem?_eq_getElem hj',getElem!_pos (rowT l).toArray j hj]
    exact ⟨by simp,hR.frozen j⟩
  have hsl:(soT l).length=l.length:=(soT_perm l).length_eq
  refine (sort_some g 0 cap l w hH hR.lt (by omega)).mono ?_
  rintro e w' ⟨rfl,n,os,rfl⟩
  have e1:(sortWorldK encT 8 w g 0 n (soT l).toArray os).heap=(w.heap.modify g (onCells (putCells id 0 (flatK encT 8 (soT l).toArray))))++os:=rfl
  refine ⟨rfl,?_,⟨rfl,rfl,rfl,?_,?_⟩⟩
  · show (sortWorldK encT 8 w g 0 n (soT l).toArray os).heap[g]? =_
    rw [e1,Array.getElem?_append_left (by simpa using hR.lt),Array.getElem?_modify,if_pos rfl,show w.heap[g]? =_ from hR]
    simp only [Option.map_some,onCells]
    rw [flat_row,put_row _ _ _ (by rw [rowT_len,rowT_len,hsl])]
  · rw [e1]; simp
  · intro k hk hne
    rw [e1,Array.getElem?_append_left (by simpa using hk),Array.getElem?_modify,if_neg (fun h=>hne h.symm)]
end Go.Proofs.YtnjlajjjcmhfgaaGreatDoor
namespace Go.Proofs.YtnjlajjjcmhfgaaGreatDoor
open Go.RowKit Go.Sort Go.Shelf Go.Lib
open Mm (Turn gr RowAt)
set_option linter.unusedVariables false
set_option linter.unusedSimpArgs false
section
variable {α:Type} {enc:α→List Value} {k:Nat}
def rowG (enc:α→List Value) (l:List α):List Value:=l.flatMap enc
theorem rowG_cons (x:α) (l:List α):rowG enc (x::l)=enc x++rowG enc l:=rfl
theorem rowG_snoc (l:List α) (x:α):rowG enc (l++[x])=rowG enc l++enc x:=by simp [rowG]
theorem rowG_len (hk:∀x,(enc x).length=k) (l:List α):(rowG enc l).length=l.length*k:=by
  induction l with
  | nil=>simp [rowG]
  | cons x l ih=>rw [rowG_cons,List.length_append,ih,List.length_cons,hk,Nat.add_mul]; omega
theorem rowG_at (hk:∀x,(enc x).length=k) {l:List α} {i:Nat} {x:α} (h:l[i]? =some x) (j:Nat) (hj:j<k):(rowG enc l)[i*k+j]? =(enc x)[j]? :=by
  induction l generalizing i with
  | nil=>simp at h
  | cons y l ih =>
    have hy:=hk y
    cases i with
    | zero =>
      simp at h; subst h
      rw [rowG_cons,List.getElem?_append_left (by omega),Nat.zero_mul,Nat.zero_add]
    | succ i =>
      simp at h
      rw [rowG_cons,List.getElem?_append_right (by rw [Nat.add_mul]; omega),hy,show (i+1)*k+j-k=i*k+j by rw [Nat.add_mul]; omega]
      exact ih h
def LtG (enc:α→List Value) (T:TypeId) (w:World) (lo:Nat) (v:Value) (L:List α):Prop:=∃a cap,v= .slice a L.length cap∧(L=[]∨∃g rest,a=some ⟨g,0,none⟩∧lo≤g∧RowAt w g T (rowG enc L++rest))
theorem appG {ts t:TypeId} {z:Value} {by':Nat} (hk:∀x,(enc x).length=k) (h1:∀x,∀v∈enc x,v.oneCell'=true) (hu:Tryz.prog.underlying ts=some (.slice t)) (hinf:(Tryz.prog.info? t).map (fun i=>(i.zero,i.size,i.bytes))=some (some z,k,by')) (hz:z.cells.size=k)
    (wr:World) (lo:Nat) (v:Value) (l:List α) (b:α) (h:wr.ownsRow lo t k v l.length (rowG enc l)) (hlo:lo≤wr.heap.size) (hby:(l.length+1)*by'≤140737488355328) (hl:l.length<4611686018427387904) :
    ∃v' w',(∀ty,(Builtin.append_ #[ts,ts] ty #[v,.slice (some ⟨wr.heap.size,0,none⟩) 1 1]).run Tryz.prog (wr.alloc (.cells (enc b).toArray t))= .ok v' w')∧w'.ownsRow lo t k v' (l++[b]).length (rowG enc (l++[b]))∧Turn (fun x=>v.ownBlock=some x) wr w'∧(∀g,v'.ownBlock=some g→v.ownBlock=some g∨wr.heap.size≤g):=by
  obtain ⟨i0,hi,hz0,hz1,hz2⟩:=info_parts hinf
  have hB:=Mm.row_new wr (enc b) t
  have ho:=Mm.own_turn h (((Turn.refl (fun _=>False) wr).alloc (.cells (enc b).toArray t))) (fun _ _ h=>h)
  obtain ⟨v',w',hr,ho',hg,hb⟩:=Mm.append_any (P:=Tryz.prog) (wr.alloc (.cells (enc b).toArray t)) ts t i0 _ hu hi hz0 (by rw [hz1]; exact hz) lo l.length 1 v (.slice (some ⟨wr.heap.size,0,none⟩) 1 1) (rowG enc l) (enc b) (by rw [hz1]; exact ho)
    (by rw [hz1]; exact Src.ofSlice _ hu ⟨wr.heap.size,0,none⟩ 1 1 _ (by rw [hk,Nat.one_mul]) (fun j u hj=>by rw [Addr.add_lit,Nat.zero_add]; exact (hB.cell j).trans hj) (h1 b)) (by simp; omega) (by unfold maxLen; omega) (by rw [hz2]; exact hby)
  rw [hz1] at ho'
  refine ⟨v',w',hr,?_,((Turn.refl _ wr).alloc _).trans (S':=fun x=>v.ownBlock=some x) (Turn.grown hg (fun x hx=> .inl hx)) (fun x hx=> .inl hx),fun g hg=> ?_⟩
  · rw [rowG_snoc,List.length_append]
    exact ho'
  rcases hb g hg with h1|h1
  · exact .inl h1
  · simp at h1; exact .inr (by omega)
theorem flatG [Inhabited α] (hk:∀x,(enc x).length=k) (hp:0<k) (l:List α):flatK enc k l.toArray=(rowG enc l).toArray:=by
  refine ext_get! (by rw [size_flatK]; simp [rowG_len hk]) fun t ht=> ?_
  rw [size_flatK] at ht
  have ht':t<l.length*k:=by simpa using ht
  rw [get_flatK _ _ _ _ ht]
  have hi:t / k<l.length:=Nat.div_lt_of_lt_mul (by rw [Nat.mul_comm]; exact ht')
  have hm:t%k<k:=Nat.mod_lt _ hp
  have h:=rowG_at hk (l:=l) (i:=t / k) (List.getElem?_eq_getElem hi) (t%k) hm
  rw [show t / k*k+t%k=t by rw [Nat.mul_comm]; exact Nat.div_add_mod t k] at h
  have e1:l.toArray[t / k]! =l[t / k]:=by rw [getElem!_pos _ _ (by simpa using hi)]; simp
  rw [e1,getElem!_pos _ t (by simpa [rowG_len hk] using ht'),List.getElem_toArray]
  have h8:t%k<(enc l[t / k]).length:=by rw [hk]; exact hm
  rw [getElem!_pos (enc l[t / k]) (t%k) h8]
  rw [List.getElem?_eq_getElem h8,List.getElem?_eq_getElem (by rw [rowG_len hk]; exact ht')] at h
  injection h with h
  exact h.symm
theorem holdsG [Inhabited α] {T:TypeId} (hk:∀x,(enc x).length=k) (hp:0<k) {w:World} {g:Nat} {l:List α} {rest:List Value} (hR:RowAt w g T (rowG enc l++rest)):HoldsK enc k w g 0 l.toArray:=by
  intro j hj
  rw [flatG hk hp] at hj ⊢
  have hj':j<(rowG enc l).length:=by simpa using hj
  rw [Nat.zero_add,hR.cell,List.getElem?_append_left hj',List.getElem?_eq_getElem hj',getElem!_pos (rowG enc l).toArray j hj]
  exact ⟨by simp,hR.frozen j⟩
theorem sortedG [Inhabited α] {T:TypeId} (hk:∀x,(enc x).length=k) (hp:0<k) {w:World} {g n:Nat} {l m:List α} {rest:List Value} {os:Array Obj} (hR:RowAt w g T (rowG enc l++rest)) (hm:m.length=l.length) :
    RowAt (sortWorldK enc k w g 0 n m.toArray os) g T (rowG enc m++rest)∧Turn (fun x=>x=g) w (sortWorldK enc k w g 0 n m.toArray os):=by
  have e1:(sortWorldK enc k w g 0 n m.toArray os).heap=(w.heap.modify g (onCells (putCells id 0 (flatK enc k m.toArray))))++os:=rfl
  refine ⟨?_,⟨rfl,rfl,rfl,?_,?_⟩⟩
  · show (sortWorldK enc k w g 0 n m.toArray os).heap[g]? =_
    rw [e1,Array.getElem?_append_left (by simpa using hR.lt),Array.getElem?_modify,if_pos rfl,show w.heap[g]? =_ from hR]
    simp only [Option.map_some,onCells]
    rw [flatG hk hp,put_row _ _ _ (by rw [rowG_len hk,rowG_len hk,hm])]
  · rw [e1]; simp
  · intro j hj hne
    rw [e1,Array.getElem?_append_left (by simpa using hj),Array.getElem?_modify,if_neg (fun h=>hne h.symm)]
end
theorem grow_of {w w':World} (h:Below w.heap.size w w') (hd:w.drawn≤w'.drawn):∃q os',w'=grow (w.drewN q) os':=by
  refine ⟨w'.drawn-w.drawn,w'.heap.extract w.heap.size w'.heap.size,?_⟩
  have hh:w'.heap=w.heap++w'.heap.extract w.heap.size w'.heap.size:=by
    apply Array.ext_getElem?
    intro i
    by_cases hi:i<w.heap.size
    · rw [Array.getElem?_append_left hi]
      exact h.block i hi
    · rw [Array.getElem?_append_right (by omega)]
      have hs:=h.size
      by_cases hj:i<w'.heap.size
      · rw [Array.getElem?_eq_getElem hj,Array.getElem?_eq_getElem (by rw [Array.size_extract]; omega),Array.getElem_extract]
        congr 2
        omega
      · rw [Array.getElem?_eq_none (by omega),Array.getElem?_eq_none (by rw [Array.size_extract]; omega)]
  have h1:=h.os
  have h2:=h.tape
  have h3:=h.output
  obtain ⟨hp,tp,dr,os,op⟩:=w
  obtain ⟨hp',tp',dr',os',op'⟩:=w'
  dsimp only at *
  subst h1 h2 h3
  unfold grow World.drewN
  dsimp only
  rw [show dr+(dr'-dr)=dr' by omega]
  congr 1
theorem LtG.own {α:Type} {enc:α→List Value} {k:Nat} {T:TypeId} {w:World} {lo:Nat} {v:Value} {L:List α} (hk:∀x,(enc x).length=k) (h:w.ownsRow lo T k v L.length (rowG enc L)):(v= .slice none 0 0∧L=[])∨∃g cap rest,v= .slice (some ⟨g,0,none⟩) L.length cap∧lo≤g∧RowAt w g T (rowG enc L++rest):=by
  rcases Mm.row_of_own h with ⟨rfl,h1,_⟩|⟨g,cap,cur,rfl,a,b,cc,d,e1,f⟩
  · exact .inl ⟨rfl,List.eq_nil_of_length_eq_zero h1⟩
  · refine .inr ⟨g,cap,cur.drop (L.length*k),rfl,a,?_⟩
    have:cur=rowG enc L++cur.drop (L.length*k):=by rw [←f]; exact (List.take_append_drop _ _).symm
    rw [←this]
    exact b
end Go.Proofs.YtnjlajjjcmhfgaaGreatDoor
namespace Go.Proofs.YtnjlajjjcmhfgaaGreatDoor
open Go.RowKit
open Mm (Turn gr RowAt)
set_option linter.unusedVariables false
set_option linter.unusedSimpArgs false
def Lt (w:World) (lo:Nat) (v:Value) (L:List Tra):Prop:=∃a cap,v= .slice a L.length cap∧(L=[]∨∃g rest,a=some ⟨g,0,none⟩∧lo≤g∧RowAt w g 43 (rowT L++rest))
theorem tidy_any (w:World) (g n cap:Nat) (l:List Tra) (cur:List Value) (hR:RowAt w g 43 cur) (hn:l.length=n) (hcap:n≤cap) (hcm:cap≤maxLen) (hl:cur.length=cap*8) (ht:cur.take (n*8)=rowT l) (hb:n≤1000000) :
    Calls Tryz.prog 88 #[.slice (some ⟨g,0,none⟩) n cap,.func (.func 89) #[] #[]] w fun e w'=>e= .returned (.tuple #[])∧Turn (fun x=>x=g) w w'∧
      Calls Tryz.prog 90 #[.slice (some ⟨g,0,none⟩) n cap] w' fun e w2=>e= .returned (.slice (some ⟨g,0,none⟩) (nd (soT l)).length cap)∧(∃rest',RowAt w2 g 43 (rowT (nd (soT l))++rest'))∧Turn (fun x=>x=g) w w2:=by
  subst hn
  have hc:cur=rowT l++cur.drop (l.length*8):=by rw [←ht]; exact (List.take_append_drop _ _).symm
  have hr:(cur.drop (l.length*8)).length=(cap-l.length)*8:=by rw [List.length_drop,hl]; omega
  rw [hc] at hR
  generalize cur.drop (l.length*8)=rest at *
  have hs:(soT l).length=l.length:=(soT_perm l).length_eq
  refine (sort_row w g cap l rest hR hb).mono ?_
  rintro e w1 ⟨rfl,hR1,T1⟩
  refine ⟨rfl,T1,?_⟩
  by_cases h2:l.length<2
  · refine (compact_short w1 (some ⟨g,0,none⟩) l.length cap h2).mono ?_
    rintro e w2 ⟨rfl,rfl⟩
    rw [nd_short (by omega),hs]
    exact ⟨rfl,⟨rest,hR1⟩,T1⟩
  · have h:=compact_long w1 g cap l.length (soT l) rest hR1 hs hcap hcm hr hb h2
    refine h.mono ?_
    rintro e w2 ⟨rfl,hR2,T2⟩
    exact ⟨rfl,hR2,T1.trans T2 (fun x hx=> .inl hx)⟩
set_option maxRecDepth 100000 in
set_option maxHeartbeats 2000000 in
theorem within_any {S:Nat→Prop} {iv:Value} {M:Mo} {w:World} (hm:MemP w S iv M) (ht:TW w) (c:Ctx) (va:Int) (hc:c.Ok) (hv:0≤va∧va<4294967296) (hva:va%16777216=0) :
    Calls Tryz.prog 50 #[iv,.agg #[.bool c.on,.bool c.tre,.bool c.afe,.int .i64 c.n,.bool c.pd0,.bool c.pd1,.int .u64 c.b0,.int .u64 c.b1,.int .u32 c.dacr,.int .u32 c.prrr,.int .u32 c.nmrr,.int .i64 c.asid],.int .u32 va] w fun e w'=>∃v,e= .returned v∧Lt w' w.heap.size v (wiL M c va)∧Below w.heap.size w w':=by
  have hsz:(w.alloc (.cells #[.bool c.on,.bool c.tre,.bool c.afe,.int .i64 c.n,.bool c.pd0,.bool c.pd1,.int .u64 c.b0,.int .u64 c.b1,.int .u32 c.dacr,.int .u32 c.prrr,.int .u32 c.nmrr,.int .i64 c.asid] 47)).heap.size=w.heap.size+1:=by simp
  have HG:Hid (Gs (w.heap.size+1) S iv M (wiT M c va 0) (.slice none 0 0) (w.alloc (.cells #[.bool c.on,.bool c.tre,.bool c.afe,.int .i64 c.n,.bool c.pd0,.bool c.pd1,.int .u64 c.b0,.int .u64 c.b1,.int .u32 c.dacr,.int .u32 c.prrr,.int .u32 c.nmrr,.int .i64 c.asid] 47)) (w.alloc (.cells #[.bool c.on,.bool c.tre,.bool c.afe,.int .i64 c.n,.bool c.pd0,.bool c.pd1,.int .u64 c.b0,.int .u64 c.b1,.int .u32 c.dacr,.int .u32 c.prrr,.int .u32 c.nmrr,.int .i64 c.asid] 47))) :=
    hidW ⟨hm.below (below_new _ _),fun b hb=>Nat.lt_succ_of_lt (hm.low b hb),ht.below (below_new _ _),fun b hb=>Nat.lt_succ_of_lt (ht.low hb),World.ownsRow_nil _ _ _ _,Below.refl _ _,by omega⟩
  have HC:Hid (Bl (w.alloc (.cells #[.bool c.on,.bool c.tre,.bool c.afe,.int .i64 c.n,.bool c.pd0,.bool c.pd1,.int .u64 c.b0,.int .u64 c.b1,.int .u32 c.dacr,.int .u32 c.prrr,.int .u32 c.nmrr,.int .i64 c.asid] 47)) w.heap.size 47 [.bool c.on,.bool c.tre,.bool c.afe,.int .i64 c.n,.bool c.pd0,.bool c.pd1,.int .u64 c.b0,.int .u64 c.b1,.int .u32 c.dacr,.int .u32 c.prrr,.int .u32 c.nmrr,.int .i64 c.asid]):=hidW (Bl.new w 47 [.bool c.on,.bool c.tre,.bool c.afe,.int .i64 c.n,.bool c.pd0,.bool c.pd1,.int .u64 c.b0,.int .u64 c.b1,.int .u32 c.dacr,.int .u32 c.prrr,.int .u32 c.nmrr,.int .i64 c.asid])
  have HB:Hid (Below w.heap.size w (w.alloc (.cells #[.bool c.on,.bool c.tre,.bool c.afe,.int .i64 c.n,.bool c.pd0,.bool c.pd1,.int .u64 c.b0,.int .u64 c.b1,.int .u32 c.dacr,.int .u32 c.prrr,.int .u32 c.nmrr,.int .i64 c.asid] 47))):=hidW (below_new _ _)
  clear hm ht
  go_enter Tryz.func50,Tryz.ntmps50
  go_wp2
  generalize w.alloc (.cells #[.bool c.on,.bool c.tre,.bool c.afe,.int .i64 c.n,.bool c.pd0,.bool c.pd1,.int .u64 c.b0,.int .u64 c.b1,.int .u32 c.dacr,.int .u32 c.prrr,.int .u32 c.nmrr,.int .i64 c.asid] 47)=wa at *
  generalize hwb:w.heap.size=cb at *
  go_loopw [7,9] (fun f i wr=>∃k:Nat,k≤16∧i= .int .u32 k∧Hid (Gs (cb+1) S iv M (wiT M c va k) f wa wr)) (fun _ i _=>16-(intOf i).toNat)
  case atStart=>exact ⟨0,Nat.zero_le _,rfl,HG⟩
  case round =>
    obtain ⟨k,hk,rfl,HS⟩:=hrel
    have hwl:=wiT_len M c va k
    by_cases hlt:k<16
    · have HA:=hidW (gather_any HS.out (by omega) c (va+k*1048576) hc (by omega) (by omega))
      have HW:=hidW (wiT_succ M c va k)
      have c1:∀j,wr.cell? ⟨cb,j,none⟩=[.bool c.on,.bool c.tre,.bool c.afe,.int .i64 c.n,.bool c.pd0,.bool c.pd1,.int .u64 c.b0,.int .u64 c.b1,.int .u32 c.dacr,.int .u32 c.prrr,.int .u32 c.nmrr,.int .i64 c.asid][j]? :=fun j=>(HS.out.bel.cell (p:=⟨cb,j,none⟩) (Nat.lt_succ_self _)).trans (HC.out.cell j)
      have hkz:(k:Int)<16:=by omega
      have hk0:(0:Int)≤k:=by omega
      have hkv:va+(k:Int)*1048576<4294967296:=by omega
      clear HS
      go_wp2_with (go_at_call 87; refine HA.out.mono ?_; rintro e w2 ⟨v',rfl,hG⟩)
      rw [←HW.out] at hG
      have HG2:=hidW hG
      clear hG HA
      go_wp2
      go_roundw
      case rel=>exact ⟨k+1,by omega,by go_num,HG2⟩
      case measure=>simp [intOf]; omega
    · obtain rfl:k=16:=by omega
      have hG:=HS.out
      rcases Mm.row_of_own hG.own with ⟨rfl,h1,_⟩|⟨g,cap,cur,rfl,a,b,cc,d,e1,f⟩
      · have hE:wiL M c va=[]:=by unfold wiL; rw [List.eq_nil_of_length_eq_zero h1]; simp [soT,nd]
        have HL:Hid (Lt wr cb (.slice none 0 0) (wiL M c va)∧Below cb w wr):=hidW ⟨⟨none,0,by rw [hE]; rfl,.inl hE⟩,HB.out.trans (hG.bel.mono (by omega))⟩
        clear hG HS h1 hE
        go_wp2_with (first
          | (go_at_call 88; refine (sort_none none 0 _).mono ?_; rintro e w2 ⟨rfl,rfl⟩)
          | (go_at_call 90; refine (compact_short _ none 0 0 (by omega)).mono ?_; rintro e w2 ⟨rfl,rfl⟩))
        go_ret
        rw [hwb]
        exact ⟨_,rfl,HL.out.1,HL.out.2⟩
      · have HT:=hidW (tidy_any wr g (wiT M c va 16).length cap (wiT M c va 16) cur b rfl cc d e1 f (by omega))
        have HBL:=hidW hG.bel
        have HLO:=hidW a
        have hsw:=HBL.out.size
        have HGL:=hidW b.lt
        clear hG HS a b cc d e1 f
        have HQ:Hid (nd (soT (wiT M c va 16))=wiL M c va):=hidW rfl
        generalize nd (soT (wiT M c va 16))=R at *
        generalize (wiT M c va 16).length=nn at *
        go_wp2_with (first
          | (go_at_call 88; refine HT.out.mono ?_; rintro e w2 ⟨rfl,T1,hC⟩)
          | (go_at_call 90; refine hC.mono ?_; rintro e w3 ⟨rfl,⟨rest',hR⟩,T2⟩))
        go_ret
        rw [hwb]
        refine ⟨_,rfl,⟨_,_,by rw [←HQ.out]; rfl,.inr ⟨g,rest',rfl,by have:=HLO.out; omega,by rw [←HQ.out]; exact hR⟩⟩,?_⟩
        exact HB.out.trans ((HBL.out.mono (by omega)).trans (T2.to (fun x hx=>by subst hx; have:=HLO.out; omega) (by have:=HGL.out; have:=HLO.out; omega)))
end Go.Proofs.YtnjlajjjcmhfgaaGreatDoor
