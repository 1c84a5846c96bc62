import Derived.KernelRfl
import Derived.Laws.AppendOwn
import Derived.Laws.OwnMore
import Derived.Laws.CopyRow
import Derived.Deep.AppendSrc
import Derived.Lib.AppendZeros
import Derived.Lib.Overlaps
import Derived.Laws.Externs
import Derived.Below
import Derived.Deep.Draws
import Derived.Test.YtnjlajjjcmhfgaaGreatDoorRows
import Derived.Maps.RangeWalk
import Derived.WalkKit
import Derived.Deep.RegionHeld3
import Derived.Laws.BitsAllLaws
import Derived.Deep.RegionLaw
namespace Go.Proofs.YtnjlajjjcmhfgaaGreatDoor.Mm
set_option linter.unusedVariables false
def Byts (m:Nat→Int):Prop:=∀x,0≤m x∧m x<256
def upd (m:Nat→Int) (a:Nat) (v:Int):Nat→Int:=fun x=>if x=a then v else m x
def wrs (m:Nat→Int) (a:Nat) (l:List Int):Nat→Int:=fun x=>if a≤x∧x<a+l.length then l.getD (x-a) 0 else m x
def rd (m:Nat→Int) (a k:Nat):List Int:=(List.range k).map fun o=>m (a+o)
def fr (m:Nat→Int) (n:Nat):List Int:=rd m (n*4096) 4096
def cnt (l:List Int):Nat:=l.countP fun v=>decide (v≠0)
theorem rd_len (m:Nat→Int) (a k:Nat):(rd m a k).length=k:=by simp [rd]
theorem fr_len (m:Nat→Int) (n:Nat):(fr m n).length=4096:=rd_len _ _ _
theorem rd_at (m:Nat→Int) (a k:Nat) {j:Nat} (h:j<k):(rd m a k)[j]? =some (m (a+j)):=by simp [rd,h]
theorem fr_at (m:Nat→Int) (n:Nat) {o:Nat} (h:o<4096):(fr m n)[o]? =some (m (n*4096+o)):=rd_at _ _ _ h
theorem rd_congr {m m':Nat→Int} {a k:Nat} (h:∀o,o<k→m (a+o)=m' (a+o)):rd m a k=rd m' a k:=by
  unfold rd
  apply List.map_congr_left
  intro o ho
  exact h o (List.mem_range.1 ho)
theorem fr_congr {m m':Nat→Int} {n:Nat} (h:∀o,o<4096→m (n*4096+o)=m' (n*4096+o)):fr m n=fr m' n:=rd_congr h
theorem upd_byts {m:Nat→Int} (h:Byts m) {v:Int} (hv:0≤v∧v<256) (a:Nat):Byts (upd m a v):=by
  intro x
  unfold upd
  split
  · exact hv
  · exact h x
theorem wrs_nil (m:Nat→Int) (a:Nat):wrs m a []=m:=by
  funext x
  unfold wrs
  rw [if_neg (by simp)]
theorem wrs_snoc (m:Nat→Int) (a:Nat) (l:List Int) (v:Int):wrs m a (l++[v])=upd (wrs m a l) (a+l.length) v:=by
  funext x
  simp only [wrs,upd]
  by_cases h:x=a+l.length
  · subst h
    rw [if_pos (by simp),if_pos rfl]
    simp [List.getD]
  · rw [if_neg h]
    by_cases h2:a≤x∧x<a+l.length
    · rw [if_pos (by simp; omega),if_pos h2]
      have:x-a<l.length:=by omega
      simp [List.getD,List.getElem?_append_left this]
    · rw [if_neg (by simp; omega),if_neg h2]
theorem take_snoc {α:Type} (l:List α) {i:Nat} {v:α} (h:l[i]? =some v):l.take (i+1)=l.take i++[v]:=by
  obtain ⟨hi,rfl⟩:=List.getElem?_eq_some_iff.1 h
  exact List.take_succ_eq_append_getElem hi
theorem wrs_take (m:Nat→Int) (a:Nat) (l:List Int) {i:Nat} {v:Int} (h:l[i]? =some v):wrs m a (l.take (i+1))=upd (wrs m a (l.take i)) (a+i) v:=by
  have hi:i<l.length:=(List.getElem?_eq_some_iff.1 h).1
  rw [take_snoc l h,wrs_snoc,List.length_take,Nat.min_eq_left (by omega)]
theorem fr_upd (m:Nat→Int) (n o:Nat) (v:Int) (ho:o<4096):fr (upd m (n*4096+o) v) n=(fr m n).set o v:=by
  apply List.ext_getElem?
  intro j
  by_cases hj:j<4096
  · rw [fr_at _ _ hj]
    by_cases hjo:j=o
    · subst hjo
      rw [List.getElem?_set_self (by rw [fr_len]; exact ho)]
      simp [upd]
    · rw [List.getElem?_set_ne (by omega),fr_at _ _ hj]
      simp only [upd]
      rw [if_neg (by omega)]
  · rw [List.getElem?_eq_none (by rw [fr_len]; omega),List.getElem?_eq_none (by rw [List.length_set,fr_len]; omega)]
theorem fr_upd_other (m:Nat→Int) (n n' o:Nat) (v:Int) (ho:o<4096) (hn:n'≠n):fr (upd m (n*4096+o) v) n'=fr m n':=by
  apply fr_congr
  intro j hj
  unfold upd
  rw [if_neg]
  intro e
  apply hn
  omega
theorem cnt_zero {l:List Int}:cnt l=0↔∀v∈l,v=0:=by
  unfold cnt
  rw [List.countP_eq_zero]
  constructor
  · intro h v hv
    have:=h v hv
    simpa using this
  · intro h v hv
    simp [h v hv]
theorem cnt_fr_zero {m:Nat→Int} {n:Nat}:cnt (fr m n)=0↔∀o,o<4096→m (n*4096+o)=0:=by
  rw [cnt_zero]
  constructor
  · intro h o ho
    exact h _ (List.mem_of_getElem? (fr_at m n ho))
  · intro h v hv
    obtain ⟨o,ho⟩:=List.getElem?_of_mem hv
    have hl:o<4096:=by have:=(List.getElem?_eq_some_iff.1 ho).1; rw [fr_len] at this; exact this
    rw [fr_at m n hl] at ho
    cases ho
    exact h o hl
theorem fr_of_zero {m:Nat→Int} {n:Nat} (h:cnt (fr m n)=0):fr m n=List.replicate 4096 0:=by
  apply List.ext_getElem?
  intro j
  by_cases hj:j<4096
  · rw [fr_at _ _ hj,List.getElem?_replicate,if_pos hj,cnt_fr_zero.1 h j hj]
  · rw [List.getElem?_eq_none (by rw [fr_len]; omega),List.getElem?_eq_none (by rw [List.length_replicate]; omega)]
theorem nodup_below:∀(N:Nat) (l:List Nat),l.Nodup→(∀x∈l,x<N)→l.length≤N:=by
  intro N
  induction N with
  | zero =>
    intro l _ h
    cases l with
    | nil=>simp
    | cons a r=>exact absurd (h a (by simp)) (by omega)
  | succ N ih =>
    intro l hn h
    by_cases hm:N∈l
    · have h1:=List.length_erase_of_mem hm
      have h2:=ih (l.erase N) (hn.erase N) (fun x hx=>by
        have:=h x (List.mem_of_mem_erase hx)
        have hne:x≠N:=fun e=>by subst e; exact ((hn.mem_erase_iff).1 hx).1 rfl
        omega)
      omega
    · have:=ih l hn (fun x hx=>by
        have:=h x hx
        have hne:x≠N:=fun e=>by subst e; exact hm hx
        omega)
      omega
def num (m:Nat→Int):Nat→Nat→Int
  | _,0=>0
  | a,k+1=>m a+256*num m (a+1) k
def byt (v:Int):Nat→List Int
  | 0=>[]
  | k+1=>v%256::byt (v / 256) k
theorem byt_len (v:Int) (k:Nat):(byt v k).length=k:=by
  induction k generalizing v with
  | zero=>rfl
  | succ k ih=>simp [byt,ih]
theorem byt_bytes (v:Int) (k:Nat):∀x∈byt v k,0≤x∧x<256:=by
  induction k generalizing v with
  | zero=>intro x hx; simp [byt] at hx
  | succ k ih =>
    intro x hx
    rcases List.mem_cons.1 hx with rfl|h
    · omega
    · exact ih _ x h
theorem num1 (m:Nat→Int) (a:Nat):num m a 1=m a:=by simp [num]
theorem num2 (m:Nat→Int) (a:Nat):num m a 2=m a+256*m (a+1):=by simp [num]
theorem num4 (m:Nat→Int) (a:Nat):num m a 4=m a+256*(m (a+1)+256*(m (a+2)+256*m (a+3))):=by simp [num]
theorem num_bd {m:Nat→Int} (h:Byts m) (k a:Nat):0≤num m a k∧num m a k<256^k:=by
  induction k generalizing a with
  | zero=>simp [num]
  | succ k ih =>
    have h1:=ih (a+1)
    have h2:=h a
    simp only [num]
    rw [Int.pow_succ]
    constructor <;>omega
def errV (N:Nat) (pa:Int) (w:Nat):Int:=if pa%(w:Int)≠0 then 2 else if (N:Int)*4096≤pa then 30 else 0
end Go.Proofs.YtnjlajjjcmhfgaaGreatDoor.Mm
namespace Go.Proofs.YtnjlajjjcmhfgaaGreatDoor.Mm
open Go.RowKit
set_option linter.unusedVariables false
variable {P:Program}
def RowAt (W:World) (g:Nat) (e:TypeId) (cur:List Value):Prop:=W.heap[g]? =some (.cells cur.toArray e (0,0))
theorem RowAt.lt {W:World} {g:Nat} {e:TypeId} {cur:List Value} (h:RowAt W g e cur):g<W.heap.size:=(Array.getElem?_eq_some_iff.1 h).1
theorem RowAt.cell {W:World} {g:Nat} {e:TypeId} {cur:List Value} (h:RowAt W g e cur) (j:Nat):W.cell? ⟨g,j,none⟩=cur[j]? :=by
  rw [cell_of_row W g j cur.toArray e (0,0) h]; simp
theorem RowAt.frozen {W:World} {g:Nat} {e:TypeId} {cur:List Value} (h:RowAt W g e cur) (j:Nat):W.frozen? ⟨g,j,none⟩=false:=by
  simp [World.frozen?,show W.heap[g]? =_ from h]
theorem RowAt.grown {W W':World} {g:Nat} {e:TypeId} {cur:List Value} {row:Option Nat} (h:RowAt W g e cur) (hg:W.grownBy W' row) (hne:some g≠row):RowAt W' g e cur:=by
  show W'.heap[g]? =_
  rw [hg.block g h.lt hne]; exact h
theorem grownBy_refl (W:World) (r:Option Nat):W.grownBy W r:=⟨rfl,rfl,rfl,Nat.le_refl _,fun _ _ _=>rfl⟩
theorem grownBy_trans {W W1 W2:World} {r:Option Nat} (h:W.grownBy W1 r) (h2:W1.grownBy W2 r):W.grownBy W2 r :=
  ⟨h2.os.trans h.os,h2.tape.trans h.tape,h2.output.trans h.output,Nat.le_trans h.size h2.size,fun k hk hne=>(h2.block k (Nat.lt_of_lt_of_le hk h.size) hne).trans (h.block k hk hne)⟩
theorem grownBy_new {W W1 W2:World} {r:Option Nat} {g:Nat} (h:W.grownBy W1 r) (h2:W1.grownBy W2 (some g)) (hg:W.heap.size≤g):W.grownBy W2 r :=
  ⟨h2.os.trans h.os,h2.tape.trans h.tape,h2.output.trans h.output,Nat.le_trans h.size h2.size,fun k hk hne=>(h2.block k (Nat.lt_of_lt_of_le hk h.size) (fun e=>by cases e; omega)).trans (h.block k hk hne)⟩
theorem grownBy_none {W W1:World} (r:Option Nat) (h:W.grownBy W1 none):W.grownBy W1 r :=
  ⟨h.os,h.tape,h.output,h.size,fun k hk _=>h.block k hk (by simp)⟩
theorem grownBy_drew (W:World) (r:Option Nat):W.grownBy W.drew r:=⟨rfl,rfl,rfl,Nat.le_refl _,fun _ _ _=>rfl⟩
theorem grownBy_drewN (W:World) (r:Option Nat) (n:Nat):W.grownBy (W.drewN n) r:=⟨rfl,rfl,rfl,Nat.le_refl _,fun _ _ _=>rfl⟩
theorem grownBy_setRow (W:World) (g:Nat) (c:Array Value):W.grownBy (W.setRow g c) (some g) :=
  ⟨rfl,rfl,rfl,by simp [World.setRow],fun k hk hne=>setRow_other W g k c (fun e=>hne (by rw [e]))⟩
theorem copy_row (w:World) (dT sT elem:TypeId) (i:TypeInfo) (hu:P.underlying dT=some (.slice elem)) (hi:P.info? elem=some i) (g o dLen:Nat) (a:Addr) (sLen:Nat) (cur:List Value) (t:TypeId) (cs:List Value)
    (hg:RowAt w g t cur) (hn:cs.length=Nat.min sLen dLen*i.size)
    (hsrc:∀j v,cs[j]? =some v→w.cell? (a.add j)=some v) (hfit:o+cs.length≤cur.length) (h1:∀v∈cs,v.oneCell'=true) :
    ∃w',(∀ty dc sc,(Builtin.copy_ #[dT,sT] ty #[.slice (some ⟨g,o,none⟩) dLen dc,.slice (some a) sLen sc]).run P w= .ok (goInt (Nat.min sLen dLen)) w')∧
      RowAt w' g t (cur.take o++cs++cur.drop (o+cs.length))∧w.grownBy w' (some g):=by
  have hl:=run_loadCells_list (P:=P) w a cs hsrc
  have hst:=run_storeCells_at P g o t cs 0 cur.toArray w hg (by simpa using hfit) h1
  refine ⟨w.setRow g (cur.take o++cs++cur.drop (o+cs.length)).toArray,?_,setRow_heap w g _ _ t _ hg,grownBy_setRow _ _ _⟩
  intro ty dc sc
  simp [Builtin.copy_,run_underlying hu,Builtin.lenOf,Builtin.firstCells,sizeOf,typeInfo,hi,←hn,hl,hst]
theorem copy_none (w:World) (dT sT elem:TypeId) (i:TypeInfo) (hu:P.underlying dT=some (.slice elem)) (hi:P.info? elem=some i) (a:Addr) (dLen:Nat) :
    ∀ty dc,(Builtin.copy_ #[dT,sT] ty #[.slice (some a) dLen dc,.slice none 0 0]).run P w= .ok (goInt 0) w:=by
  intro ty dc
  simp [Builtin.copy_,run_underlying hu,Builtin.lenOf,Builtin.firstCells,sizeOf,typeInfo,hi,storeCells]
theorem zeroCells_list (z:Array Value) (n:Nat):(Builtin.zeroCells z n).toList.length=n*z.size:=by
  rw [Array.length_toList,size_zeroCells]
theorem clear_row (w:World) (dT elem:TypeId) (i:TypeInfo) (z:Value) (hu:P.underlying dT=some (.slice elem)) (hi:P.info? elem=some i) (hz:i.zero=some z) (g o n:Nat) (cur:List Value) (t:TypeId)
    (hg:RowAt w g t cur) (hfit:o+n*z.cells.size≤cur.length) (h1:∀v∈(Builtin.zeroCells z.cells n).toList,v.oneCell'=true) (h0:0<n) :
    ∃w',(∀ty c,(Builtin.clear_ #[dT] ty #[.slice (some ⟨g,o,none⟩) n c]).run P w= .ok (.tuple #[]) w')∧
      RowAt w' g t (cur.take o++(Builtin.zeroCells z.cells n).toList++cur.drop (o+n*z.cells.size))∧w.grownBy w' (some g):=by
  have hst:=run_storeCells_at P g o t (Builtin.zeroCells z.cells n).toList 0 cur.toArray w hg (by rw [zeroCells_list]; simpa using hfit) h1
  rw [zeroCells_list] at hst
  refine ⟨w.setRow g (cur.take o++(Builtin.zeroCells z.cells n).toList++cur.drop (o+n*z.cells.size)).toArray,?_,setRow_heap w g _ _ t _ hg,grownBy_setRow _ _ _⟩
  intro ty c
  cases n with
  | zero=>omega
  | succ n=>simp [Builtin.clear_,run_underlying hu,zeroValue,typeInfo,hi,hz,hst]
theorem clear_none (w:World) (dT:TypeId) (elem:TypeId) (hu:P.underlying dT=some (.slice elem)) (a:Option Addr) :
    ∀ty c,(Builtin.clear_ #[dT] ty #[.slice a 0 c]).run P w= .ok (.tuple #[]) w:=by
  intro ty c
  cases a <;>simp [Builtin.clear_,run_underlying hu]
theorem append_room (w:World) (t e:TypeId) (i:TypeInfo) (ht:P.underlying t=some (.slice e)) (hi:P.info? e=some i) (g sLen sCap:Nat) (cur:List Value) (hg:RowAt w g e cur)
    (x:Value) (m:Nat) (news:List Value) (hs:Src P i.size t x m news w) (hroom:sLen+m≤sCap) (hfit:sLen*i.size+news.length≤cur.length) :
    ∃w',(∀ty,(Builtin.append_ #[t,t] ty #[.slice (some ⟨g,0,none⟩) sLen sCap,x]).run P w= .ok (.slice (some ⟨g,0,none⟩) (sLen+m) sCap) w')∧
      RowAt w' g e (cur.take (sLen*i.size)++news++cur.drop (sLen*i.size+news.length))∧w.grownBy w' (some g):=by
  have hst:=run_storeCells_at P g (sLen*i.size) e news 0 cur.toArray w hg (by simpa using hfit) hs.one
  simp only [Nat.add_zero] at hst
  refine ⟨w.setRow g (cur.take (sLen*i.size)++news++cur.drop (sLen*i.size+news.length)).toArray,?_,setRow_heap w g _ _ e _ hg,grownBy_setRow _ _ _⟩
  intro ty
  simp [Builtin.append_,run_underlying ht,sizeOf,typeInfo,hi,hs.len,hroom,hs.cells,Addr.add_lit,hst]
theorem append_away (w:World) (t e:TypeId) (i:TypeInfo) (z:Value) (ht:P.underlying t=some (.slice e)) (hi:P.info? e=some i) (hz:i.zero=some z) (hzs:z.cells.size=i.size)
    (base:Option Addr) (sLen sCap:Nat) (olds:List Value) (hol:olds.length=sLen*i.size) (hold:(Builtin.firstCells i.size sLen (.slice base sLen sCap)).run P w.drew= .ok olds.toArray w.drew)
    (x:Value) (m:Nat) (news:List Value) (hs:Src P i.size t x m news w) (hroom:sCap<sLen+m) (h63:sLen+m≤maxLen) (hby:(sLen+m)*i.bytes≤140737488355328) :
    ∃w' cap rest,(∀ty,(Builtin.append_ #[t,t] ty #[.slice base sLen sCap,x]).run P w= .ok (.slice (some ⟨w.heap.size,0,none⟩) (sLen+m) cap) w')∧
      RowAt w' w.heap.size e (olds++news++rest)∧rest.length=(cap-(sLen+m))*i.size∧sLen+m≤cap∧cap≤maxLen∧w.grownBy w' none∧w'.heap.size=w.heap.size+1:=by
  have hr:=fun ty=>run_append_grow_src (P:=P) w t t ty e i z ht hi hz base sLen sCap olds hold x m news hs hroom (by unfold maxLen at h63; omega) (growslice_fits hroom hby)
  refine ⟨_,_,(Builtin.zeroCells z.cells (grownCap w (sLen+m) sCap e-(sLen+m))).toList,hr,?_,?_,grownCap_ge _ _ _ _,grownCap_le_maxLen _ _ _ _ h63,?_,?_⟩
  · show _=_
    have:=heap_alloc_new w.drew (.cells ((olds++news).toArray++Builtin.zeroCells z.cells (grownCap w (sLen+m) sCap e-(sLen+m))) e)
    rw [show w.heap.size=w.drew.heap.size from rfl,this]
    congr 2
    apply Array.ext'
    simp
  · rw [zeroCells_list,hzs]
  · exact grownBy_trans (grownBy_drew w none) (World.grownBy_alloc _ _ _)
  · simp
theorem append_zeros (w:World) (t tn e:TypeId) (i:TypeInfo) (z:Value) (k kn:IntKind) (ht:P.underlying t=some (.slice e)) (htn:P.underlying tn=some (.int kn)) (hi:P.info? e=some i) (hz:i.zero=some z) (hzs:z.cells.size=i.size)
    (hpos:0<i.size) (a:Addr) (sLen sCap:Nat) (olds:List Value) (hol:olds.length=sLen*i.size) (hcell:∀j v,olds[j]? =some v→w.cell? (a.add j)=some v)
    (m:Nat) (h0:0<m) (hroom:sCap<sLen+m) (h63:sLen+m≤maxLen) (hby:(sLen+m)*i.bytes≤140737488355328) (nn:Int) (hnn:nn=(m:Int)) :
    ∃w' cap rest,(∀ty,(Builtin.append_ #[t,tn] ty #[.slice (some a) sLen sCap,.int k nn]).run P w= .ok (.slice (some ⟨w.heap.size,0,none⟩) (sLen+m) cap) w')∧
      RowAt w' w.heap.size e (olds++rest)∧rest.length=(cap-sLen)*i.size∧sLen+m≤cap∧cap≤maxLen∧w.grownBy w' none∧w'.heap.size=w.heap.size+1:=by
  subst hnn
  have h63':sLen+m≤9223372036854775807:=by unfold maxLen at h63; omega
  have hw:IntKind.i64.wrap (m:Int)=m:=by rw [IntKind.wrap_i64]; omega
  have hneg:¬((m:Int)<0):=by omega
  have hmb:m*i.bytes≤140737488355328:=Nat.le_trans (Nat.mul_le_mul_right _ (by omega)) hby
  have h48i:¬(281474976710656<(m:Int)*(i.bytes:Int)):=by rw [←Int.natCast_mul]; omega
  have hns:¬(m*i.size=0):=Nat.mul_ne_zero (by omega) (by omega)
  have hn:¬(sLen+m≤sCap):=by omega
  have h63i:¬(9223372036854775807<((sLen:Int)+(m:Int))):=by omega
  have h48':¬(281474976710656<Builtin.nextslicecap (sLen+m) sCap*i.bytes):=by have:=growslice_fits hroom hby; omega
  have hold:=run_firstCells_some (P:=P) w.drew i.size sLen a sLen sCap olds hol (by simpa using hcell)
  have hgc:=grownCap_ge w (sLen+m) sCap e
  refine ⟨w.drew.alloc (.cells ((olds++((Builtin.zeroCells z.cells m).toList++(Builtin.zeroCells z.cells (grownCap w (sLen+m) sCap e-(sLen+m))).toList)).toArray) e),grownCap w (sLen+m) sCap e,(Builtin.zeroCells z.cells m).toList++(Builtin.zeroCells z.cells (grownCap w (sLen+m) sCap e-(sLen+m))).toList,?_,?_,?_,hgc,grownCap_le_maxLen _ _ _ _ h63,?_,?_⟩
  · intro ty
    simp [Builtin.append_,run_underlying ht,run_underlying htn,sizeOf,typeInfo,zeroValue,hi,hz,asInt,asIntOf,hw,hneg,h48i,hn,h63i,h48',Question.forced,hold,newRow,grownCap]
    rw [if_neg hns]
    congr 3
    apply Array.ext'
    simp
  · show _=_
    have:=heap_alloc_new w.drew (.cells ((olds++((Builtin.zeroCells z.cells m).toList++(Builtin.zeroCells z.cells (grownCap w (sLen+m) sCap e-(sLen+m))).toList)).toArray) e)
    rw [show w.heap.size=w.drew.heap.size from rfl,this]
  · rw [List.length_append,zeroCells_list,zeroCells_list,hzs,←Nat.add_mul]
    congr 1
    omega
  · exact grownBy_trans (grownBy_drew w none) (World.grownBy_alloc _ _ _)
  · simp
theorem wpl_copy (w:World) {ops:Array Oper} {rest:List Oper} {o:Oper} {a:Act} {Q:Exit→Act→World→Prop} (hgd:o.guard=none) (d s:Operand) (t t':TypeId)
    (ho:o.op= .call { callee:= .builtin .copy,args:=#[d,s],argTypes:=#[t,t'] }) (v u:Value) (hd:a.eval d=v) (hs:a.eval s=u) {v':Value} {w':World}
    (hr:(Builtin.copy_ #[t,t'] o.type #[v,u]).run P w= .ok v' w') (h:wpList P ops Q rest (a.put o.dst v') w'):wpList P ops Q (o::rest) a w:=by
  refine wpList_plain hgd fun _ hK=> ?_
  unfold Oper.wp execOp
  simp only [ho,resolve,invoke,builtin,Sem.run_bind,Sem.run_pure,Result.andThen_ok,List.map_toArray,List.map_cons,List.map_nil,hd,hs,hr]
  exact hK _ _ h
theorem step_copy {ops:Array Oper} {o:Oper} {a:Act} {w:World} {K:Act→World→Prop} {Q:Exit→Act→World→Prop} {E:Prop}
    (hg:o.guard=none) (d x:Operand) (dT sT:TypeId) (hop:o.op=Op.call { callee:=Callee.builtin Builtin.copy,args:=#[d,x],argTypes:=#[dT,sT] })
    (v u:Value) (hd:a.eval d=v) (hx:a.eval x=u) {v':Value} {w':World} (hr:(Builtin.copy_ #[dT,sT] o.type #[v,u]).run P w= .ok v' w') (hK:K (a.put o.dst v') w') :
    if Region.wanted o (yielded ops a.tmps)=true then Oper.wp P o a w K Q else E:=by
  have hw:Region.wanted o (yielded ops a.tmps)=true:=by simp [Region.wanted,hg]
  rw [if_pos hw]
  unfold Oper.wp
  simp [execOp,hop,resolve,invoke,builtin,hd,hx,hr,Result.andThen]
  exact hK
theorem wpl_clear (w:World) {ops:Array Oper} {rest:List Oper} {o:Oper} {a:Act} {Q:Exit→Act→World→Prop} (hgd:o.guard=none) (d:Operand) (t:TypeId)
    (ho:o.op= .call { callee:= .builtin .clear,args:=#[d],argTypes:=#[t] }) (v:Value) (hd:a.eval d=v) {v':Value} {w':World}
    (hr:(Builtin.clear_ #[t] o.type #[v]).run P w= .ok v' w') (h:wpList P ops Q rest (a.put o.dst v') w'):wpList P ops Q (o::rest) a w:=by
  refine wpList_plain hgd fun _ hK=> ?_
  unfold Oper.wp execOp
  simp only [ho,resolve,invoke,builtin,Sem.run_bind,Sem.run_pure,Result.andThen_ok,List.map_toArray,List.map_cons,List.map_nil,hd,hr]
  exact hK _ _ h
end Go.Proofs.YtnjlajjjcmhfgaaGreatDoor.Mm
namespace Go.Proofs.YtnjlajjjcmhfgaaGreatDoor.Mm
open Go.RowKit
set_option linter.unusedVariables false
variable {P:Program}
theorem own_of_row {W:World} {lo g n cap size:Nat} {e:TypeId} {cur xs:List Value} (hg:RowAt W g e cur) (hlo:lo≤g) (hn:n≤cap) (hc:cap≤maxLen) (hl:cur.length=cap*size) (hx:cur.take (n*size)=xs) :
    W.ownsRow lo e size (.slice (some ⟨g,0,none⟩) n cap) n xs:=by
  refine ⟨?_,.inr ⟨g,cap,cur.toArray,rfl,hlo,hg,hn,hc,by simpa using hl,by simpa using hx⟩⟩
  rw [←hx,List.length_take,hl,Nat.min_eq_left (Nat.mul_le_mul_right _ hn)]
theorem row_of_own {W:World} {lo n size:Nat} {e:TypeId} {v:Value} {xs:List Value} (h:W.ownsRow lo e size v n xs) :
    (v= .slice none 0 0∧n=0∧xs=[])∨∃g cap cur,v= .slice (some ⟨g,0,none⟩) n cap∧lo≤g∧RowAt W g e cur∧n≤cap∧cap≤maxLen∧cur.length=cap*size∧cur.take (n*size)=xs:=by
  obtain ⟨h1,h2⟩:=h
  rcases h2 with ⟨rfl,rfl⟩|⟨g,cap,cur,rfl,a,b,c,d,e,f⟩
  · exact .inl ⟨rfl,rfl,List.eq_nil_of_length_eq_zero (by simpa using h1)⟩
  · exact .inr ⟨g,cap,cur.toList,rfl,a,by simpa [RowAt] using b,c,d,by simpa using e,f⟩
theorem src_of_own {w:World} {lo m size:Nat} {t e e':TypeId} {v:Value} {vs:List Value} (ht:P.underlying t=some (.slice e')) (h:w.ownsRow lo e size v m vs) (h1:∀u∈vs,u.oneCell'=true):Src P size t v m vs w:=by
  have hlen:=h.1
  rcases row_of_own h with ⟨rfl,rfl,rfl⟩|⟨g,cap,cur,rfl,a,b,c,d,e1,f⟩
  · exact Src.ofNil w ht 0
  · exact Src.ofSlice w ht ⟨g,0,none⟩ m cap vs hlen (fun j u hj=>h.cells rfl j u hj) h1
theorem append_any (w:World) (t e:TypeId) (i:TypeInfo) (z:Value) (ht:P.underlying t=some (.slice e)) (hi:P.info? e=some i) (hz:i.zero=some z) (hzs:z.cells.size=i.size)
    (lo n m:Nat) (s x:Value) (xs news:List Value) (hs:w.ownsRow lo e i.size s n xs) (hx:Src P i.size t x m news w) (hlo:lo≤w.heap.size) (h63:n+m≤maxLen) (hby:(n+m)*i.bytes≤140737488355328) :
    ∃v' w',(∀ty,(Builtin.append_ #[t,t] ty #[s,x]).run P w= .ok v' w')∧w'.ownsRow lo e i.size v' (n+m) (xs++news)∧w.grownBy w' s.ownBlock∧(∀g,v'.ownBlock=some g→s.ownBlock=some g∨w.heap.size≤g):=by
  have hnl:=hx.newsLen
  rcases row_of_own hs with ⟨rfl,rfl,rfl⟩|⟨g,cap,cur,rfl,a,b,c,d,e1,f⟩
  · by_cases h0:m=0
    · subst h0
      obtain rfl:news=[]:=List.eq_nil_of_length_eq_zero (by simpa using hnl)
      refine ⟨.slice none 0 0,w,?_,World.ownsRow_nil _ _ _ _,grownBy_refl _ _,fun g hg=>by cases hg⟩
      intro ty
      simp [Builtin.append_,run_underlying ht,sizeOf,typeInfo,hi,hx.len,hx.cells]
    · obtain ⟨w',cap,rest,h1,h2,h3,h4,h5,h6,h7⟩:=append_away w t e i z ht hi hz hzs none 0 0 [] (by simp) (run_firstCells_none w.drew i.size 0 0 0) x m news hx (by omega) (by omega) hby
      refine ⟨_,w',h1,own_of_row h2 hlo h4 h5 ?_ ?_,grownBy_none _ h6,fun g hg=> .inr (by cases hg; exact Nat.le_refl _)⟩
      · rw [List.length_append,List.length_append,h3,hnl,List.length_nil,Nat.zero_add,←Nat.add_mul]; congr 1; omega
      · rw [List.take_append_of_le_length (by simp [hnl])]
        exact List.take_of_length_le (by simp [hnl])
  · by_cases h0:n+m≤cap
    · have hfit:n*i.size+news.length≤cur.length:=by rw [hnl,e1,←Nat.add_mul]; exact Nat.mul_le_mul_right _ h0
      obtain ⟨w',h1,h2,h3⟩:=append_room w t e i ht hi g n cap cur b x m news hx h0 hfit
      refine ⟨_,w',h1,own_of_row h2 a h0 d ?_ ?_,h3,fun g hg=> .inl hg⟩
      · rw [List.length_append,List.length_append,List.length_take,List.length_drop,←e1]; omega
      · rw [f,List.take_append_of_le_length (by rw [List.length_append,hs.1,hnl,Nat.add_mul]; exact Nat.le_refl _)]
        exact List.take_of_length_le (by rw [List.length_append,hs.1,hnl,Nat.add_mul]; exact Nat.le_refl _)
    · obtain ⟨w',cap',rest,h1,h2,h3,h4,h5,h6,h7⟩:=append_away w t e i z ht hi hz hzs (some ⟨g,0,none⟩) n cap xs hs.1
        (run_firstCells_some w.drew i.size n ⟨g,0,none⟩ n cap xs hs.1 (fun j u hj=>hs.cells rfl j u hj)) x m news hx (by omega) h63 hby
      refine ⟨_,w',h1,own_of_row h2 (by omega) h4 h5 ?_ ?_,grownBy_none _ h6,fun g hg=> .inr (by cases hg; exact Nat.le_refl _)⟩
      · rw [List.length_append,List.length_append,h3,hnl,hs.1,←Nat.add_mul,←Nat.add_mul]; congr 1; omega
      · rw [List.take_append_of_le_length (by rw [List.length_append,hs.1,hnl,Nat.add_mul]; exact Nat.le_refl _)]
        exact List.take_of_length_le (by rw [List.length_append,hs.1,hnl,Nat.add_mul]; exact Nat.le_refl _)
theorem cat_len {α:Type} (enc:α→List Value) (K:Nat) (hK:∀x,(enc x).length=K) (L:List α):(L.flatMap enc).length=L.length*K:=by
  induction L with
  | nil=>simp
  | cons s r ih=>rw [List.flatMap_cons,List.length_append,hK,ih,List.length_cons,Nat.add_mul,Nat.one_mul,Nat.add_comm]
theorem cat_at {α:Type} (enc:α→List Value) (K:Nat) (hK:∀x,(enc x).length=K) {L:List α} {i:Nat} {s:α} (h:L[i]? =some s) (j:Nat) (hj:j<K):(L.flatMap enc)[i*K+j]? =(enc s)[j]? :=by
  induction L generalizing i with
  | nil=>simp at h
  | cons t r ih =>
    rw [List.flatMap_cons]
    cases i with
    | zero =>
      simp at h
      subst h
      rw [Nat.zero_mul,Nat.zero_add,List.getElem?_append_left (by rw [hK]; exact hj)]
    | succ i =>
      rw [List.getElem?_append_right (by rw [hK,Nat.add_mul]; omega),hK,show (i+1)*K+j-K=i*K+j by rw [Nat.add_mul]; omega]
      exact ih (by simpa using h)
end Go.Proofs.YtnjlajjjcmhfgaaGreatDoor.Mm
namespace Go.Proofs.YtnjlajjjcmhfgaaGreatDoor.Mm
open Go.RowKit
set_option linter.unusedVariables false
structure Turn (S:Nat→Prop) (w w':World):Prop where
  os:w'.os=w.os
  tape:w'.tape=w.tape
  output:w'.output=w.output
  size:w.heap.size≤w'.heap.size
  block:∀k,k<w.heap.size→¬S k→w'.heap[k]? =w.heap[k]?
theorem Turn.refl (S:Nat→Prop) (w:World):Turn S w w:=⟨rfl,rfl,rfl,Nat.le_refl _,fun _ _ _=>rfl⟩
theorem Turn.trans {S S':Nat→Prop} {a b c:World} (h:Turn S a b) (k:Turn S' b c) (hS:∀x,S' x→S x∨a.heap.size≤x):Turn S a c :=
  ⟨k.os.trans h.os,k.tape.trans h.tape,k.output.trans h.output,Nat.le_trans h.size k.size,fun i hi hn =>
    (k.block i (Nat.lt_of_lt_of_le hi h.size) (fun hs=>by rcases hS i hs with h1|h1; exact hn h1; omega)).trans (h.block i hi hn)⟩
theorem Turn.mono {S S':Nat→Prop} {a b:World} (h:Turn S a b) (hS:∀x,x<a.heap.size→S x→S' x):Turn S' a b :=
  ⟨h.os,h.tape,h.output,h.size,fun i hi hn=>h.block i hi (fun hs=>hn (hS i hi hs))⟩
theorem Turn.grown {S:Nat→Prop} {a b:World} {row:Option Nat} (h:a.grownBy b row) (hS:∀k,row=some k→S k∨a.heap.size≤k):Turn S a b :=
  ⟨h.os,h.tape,h.output,h.size,fun i hi hn=>h.block i hi (fun e=>by rcases hS i e.symm with h1|h1; exact hn h1; omega)⟩
theorem Turn.below {S:Nat→Prop} {a b:World} (h:Below a.heap.size a b):Turn S a b:=⟨h.os,h.tape,h.output,h.size,fun i hi _=>h.block i hi⟩
theorem Turn.to {S:Nat→Prop} {a b:World} {B:Nat} (h:Turn S a b) (hS:∀x,S x→B≤x) (hB:B≤a.heap.size):Below B a b :=
  ⟨h.os,h.tape,h.output,h.size,fun i hi=>h.block i (by omega) (fun hs=>by have:=hS i hs; omega)⟩
theorem Turn.alloc {S:Nat→Prop} {a b:World} (h:Turn S a b) (o:Obj):Turn S a (b.alloc o) :=
  h.trans (S':=fun _=>False) ⟨rfl,rfl,rfl,by simp,fun i hi _=>Below.heap_alloc _ _ _ hi⟩ (fun _ h=>h.elim)
theorem Turn.setCell {S:Nat→Prop} {a b:World} (h:Turn S a b) {p:Addr} (hp:S p.block∨a.heap.size≤p.block) (u:Value):Turn S a (b.setCell p u) :=
  h.trans (S':=fun x=>x=p.block) ⟨rfl,rfl,rfl,by simp [World.setCell],fun i hi hn=>Below.heap_setCell _ _ _ _ hn⟩ (fun x hx=>by subst hx; exact hp)
theorem Turn.drewN {S:Nat→Prop} {a b:World} (h:Turn S a b) (n:Nat):Turn S a (b.drewN n):=⟨h.os,h.tape,h.output,h.size,h.block⟩
theorem Turn.cell {S:Nat→Prop} {a b:World} (h:Turn S a b) {k:Nat} (hk:k<a.heap.size) (hn:¬S k) (o:Nat):b.cell? ⟨k,o,none⟩=a.cell? ⟨k,o,none⟩:=World.cell?_of_block (w:=a) (h.block k hk hn)
theorem RowAt.turn {S:Nat→Prop} {W W':World} {g:Nat} {e:TypeId} {cur:List Value} (h:RowAt W g e cur) (T:Turn S W W') (hn:¬S g):RowAt W' g e cur:=by
  show W'.heap[g]? =_
  rw [T.block g h.lt hn]; exact h
def lk (k:Nat):Lit:= .int .i64 (k:Int)
section
variable {W W':World} {S S':Nat→Prop} {p N mb:Nat} {m m':Nat→Int} {D:DataW Unit} {g:Nat→Option Nat}
end
def encR (x:Nat×Nat):List Value:=[.int .i64 (x.1:Int),.slice (some ⟨x.2,0,none⟩) 4096 4096]
structure RMx (W:World) (S:Nat→Prop) (r N:Nat) (m:Nat→Int) (v:Value) (fs:List (Nat×Nat)):Prop where
  box:W.heap[r]? =some (.cells #[.int .i64 N,v] 197 (0,0))
  own:W.ownsRow 0 281 2 v fs.length (fs.flatMap encR)
  vS:∀b,v.ownBlock=some b→S b
  frm:∀x∈fs,x.1<N∧RowAt W x.2 5 ((fr m x.1).map (Value.int .u8))∧S x.2
  nod1:(fs.map (·.1)).Nodup
  nod2:(fs.map (·.2)).Nodup
  out:∀n,n<N→(∀x∈fs,x.1≠n)→cnt (fr m n)=0
  Sr:S r
  byts:Byts m
  n1:1≤N
  n2:N≤65536
  low:∀b,S b→b<W.heap.size
def RM (W:World) (S:Nat→Prop) (r N:Nat) (m:Nat→Int):Prop:=∃v fs,RMx W S r N m v fs
section
variable {W W':World} {S S':Nat→Prop} {r N:Nat} {m m':Nat→Int} {v:Value} {fs:List (Nat×Nat)}
theorem RMx.lt (h:RMx W S r N m v fs):r<W.heap.size:=h.low r h.Sr
theorem RMx.cell0 (h:RMx W S r N m v fs):W.cell? ⟨r,0,none⟩=some (.int .i64 N):=by simp [World.cell?,h.box]
theorem RMx.cell1 (h:RMx W S r N m v fs):W.cell? ⟨r,1,none⟩=some v:=by simp [World.cell?,h.box]
theorem RMx.len (h:RMx W S r N m v fs):fs.length≤N:=by
  rw [←List.length_map (f:=(·.1))]
  refine nodup_below N _ h.nod1 fun x hx=> ?_
  obtain ⟨y,hy,rfl⟩:=List.mem_map.1 hx
  exact (h.frm y hy).1
theorem own_turn {lo n size:Nat} {e:TypeId} {v:Value} {xs:List Value} (h:W.ownsRow lo e size v n xs) (T:Turn S' W W') (hd:∀b,v.ownBlock=some b→¬S' b):W'.ownsRow lo e size v n xs:=by
  rcases row_of_own h with ⟨rfl,rfl,rfl⟩|⟨g,cap,cur,rfl,a,b,c,d,e1,f⟩
  · exact World.ownsRow_nil _ _ _ _
  · exact own_of_row (g:=g) (cur:=cur) (b.turn T (hd g rfl)) a c d e1 f
theorem RMx.keep (h:RMx W S r N m v fs) (T:Turn S' W W') (hd:∀b,S b→¬S' b):RMx W' S r N m v fs:=by
  refine ⟨by rw [T.block r h.lt (hd r h.Sr)]; exact h.box,own_turn h.own T (fun b hb=>hd b (h.vS b hb)),h.vS,fun x hx=> ?_,h.nod1,h.nod2,h.out,h.Sr,h.byts,h.n1,h.n2,fun b hb=>Nat.lt_of_lt_of_le (h.low b hb) T.size⟩
  obtain ⟨h1,h2,h3⟩:=h.frm x hx
  exact ⟨h1,h2.turn T (hd _ h3),h3⟩
theorem RMx.mono (h:RMx W S r N m v fs) (hS:∀b,S b→S' b) (hl:∀b,S' b→b<W.heap.size):RMx W S' r N m v fs :=
  ⟨h.box,h.own,fun b hb=>hS _ (h.vS b hb),fun x hx=>⟨(h.frm x hx).1,(h.frm x hx).2.1,hS _ (h.frm x hx).2.2⟩,h.nod1,h.nod2,h.out,hS _ h.Sr,h.byts,h.n1,h.n2,hl⟩
theorem RMx.view (h:RMx W S r N m v fs):∃a cap,v= .slice a fs.length cap∧∀i x,fs[i]? =some x→∃gb,a=some ⟨gb,0,none⟩∧S gb∧W.cell? ⟨gb,i*2,none⟩=some (.int .i64 (x.1:Int))∧W.cell? ⟨gb,i*2+1,none⟩=some (.slice (some ⟨x.2,0,none⟩) 4096 4096):=by
  have ho:=h.own
  rcases row_of_own ho with ⟨rfl,h1,h2⟩|⟨gb,cap,cur,rfl,a,b,c,d,e,f⟩
  · refine ⟨none,0,by rw [h1],fun i x hx=> ?_⟩
    rw [List.eq_nil_of_length_eq_zero h1] at hx
    simp at hx
  · refine ⟨some ⟨gb,0,none⟩,cap,rfl,fun i x hx=>⟨gb,rfl,h.vS gb rfl,?_⟩⟩
    have hlt:i<fs.length:=(List.getElem?_eq_some_iff.1 hx).1
    have hc:∀j,j<2→W.cell? ⟨gb,i*2+j,none⟩=(encR x)[j]? :=fun j hj=>by
      rw [World.ownsRow.cellAt ho (i*2+j) (by omega)]
      exact cat_at encR 2 (fun _=>rfl) hx j hj
    exact ⟨hc 0 (by omega),hc 1 (by omega)⟩
end
end Go.Proofs.YtnjlajjjcmhfgaaGreatDoor.Mm
namespace Go.Proofs.YtnjlajjjcmhfgaaGreatDoor.Mm
open Go.RowKit
set_option linter.unusedVariables false
theorem errV_align {N:Nat} {pa:Nat} {w:Nat} (h:¬pa%w=0):errV N pa w=2:=by
  unfold errV
  rw [if_pos]
  intro e
  apply h
  have:((pa%w:Nat):Int)=0:=by rw [Int.natCast_emod]; exact e
  omega
theorem errV_else {N:Nat} {pa:Nat} {w:Nat} (h:pa%w=0):errV N pa w=if (N:Int)*4096≤pa then 30 else 0:=by
  unfold errV
  rw [if_neg]
  intro e
  apply e
  rw [←Int.natCast_emod,h]; rfl
theorem errV_ok {N:Nat} {pa:Nat} {w:Nat} (hw:w=1∨w=2∨w=4) (h:errV N pa w=0):pa%w=0∧pa+w≤N*4096:=by
  by_cases h1:pa%w=0
  · rw [errV_else h1] at h
    split at h
    · cases h
    · rcases hw with rfl|rfl|rfl <;>omega
  · rw [errV_align h1] at h
    cases h
def encC (l:List Int) (c:Int):List Value:=l.map (Value.int .u8)++[.int .i64 c]
theorem RowAt.set {W:World} {g:Nat} {e:TypeId} {cur:List Value} (h:RowAt W g e cur) (j:Nat) (v:Value):RowAt (W.setCell ⟨g,j,none⟩ v) g e (cur.set j v):=by
  show (W.heap.modify g _)[g]? =_
  rw [Array.getElem?_modify,if_pos rfl,show W.heap[g]? =_ from h]
  simp
end Go.Proofs.YtnjlajjjcmhfgaaGreatDoor.Mm
namespace Go.Proofs.YtnjlajjjcmhfgaaGreatDoor.Mm
open Go.RowKit
set_option linter.unusedVariables false
def gr (S:Nat→Prop) (W W':World):Nat→Prop:=fun b=>S b∨(W.heap.size≤b∧b<W'.heap.size)
theorem gr_low {S:Nat→Prop} {W W':World} (h:∀b,S b→b<W.heap.size) (hs:W.heap.size≤W'.heap.size):∀b,gr S W W' b→b<W'.heap.size:=fun b hb=>by
  rcases hb with h1|⟨_,h1⟩
  · exact Nat.lt_of_lt_of_le (h b h1) hs
  · exact h1
end Go.Proofs.YtnjlajjjcmhfgaaGreatDoor.Mm
namespace Go.Proofs.YtnjlajjjcmhfgaaGreatDoor.Mm
open Go.RowKit
set_option linter.unusedVariables false
end Go.Proofs.YtnjlajjjcmhfgaaGreatDoor.Mm
namespace Go.Proofs.YtnjlajjjcmhfgaaGreatDoor.Mm
open Go.RowKit
set_option linter.unusedVariables false
def valV (N:Nat) (m:Nat→Int) (pa w:Nat):Int:=if errV N pa w=0 then num m pa w else 0
theorem valV_bd {N:Nat} {m:Nat→Int} (h:Byts m) (pa w:Nat):0≤valV N m pa w∧valV N m pa w<256^w:=by
  unfold valV
  split
  · exact num_bd h w pa
  · have:(0:Int)<256^w:=Int.pow_pos (by omega)
    omega
end Go.Proofs.YtnjlajjjcmhfgaaGreatDoor.Mm
namespace Go.Proofs.YtnjlajjjcmhfgaaGreatDoor.Mm
open Go.RowKit
set_option linter.unusedVariables false
def setV (N:Nat) (m:Nat→Int) (pa w:Nat) (v:Int):Nat→Int:=if errV N pa w=0 then wrs m pa (byt v w) else m
theorem byt4 (v:Int):byt v 4=[v%256,v / 256%256,v / 65536%256,v / 16777216%256]:=by
  simp only [byt]
  rw [show v / 256 / 256=v / 65536 by omega,show v / 65536 / 256=v / 16777216 by omega]
theorem cnt_none (n:Nat):cnt (fr (fun _=>0) n)=0:=cnt_fr_zero.2 (fun _ _=>rfl)
end Go.Proofs.YtnjlajjjcmhfgaaGreatDoor.Mm
namespace Go.Proofs.YtnjlajjjcmhfgaaGreatDoor.Mm
open Go.RowKit
set_option linter.unusedVariables false
theorem madeCells_one (z:Value) (n:Nat):madeCells #[z] n=(List.replicate n z).toArray:=by
  apply Array.ext
  · simp [size_madeCells]
  · intro i h1 h2
    have h3:i%1=0:=Nat.mod_one i
    simp [madeCells,h3]
theorem info8:(Tryz.prog.info? 5).map (fun i=>(i.zero,i.size,i.bytes))=some (some (.int .u8 0),1,1):=by kernel_rfl
theorem make8 (W:World) (n:Nat) (hn:n≤281474976710656):(Instr.makeSlice 279 (.int .i64 (n:Int)) (.int .i64 (n:Int))).run Tryz.prog W= .ok (.slice (some ⟨W.heap.size,0,none⟩) n n) (W.alloc (.cells (List.replicate n (Value.int .u8 0)).toArray 5)):=by
  obtain ⟨i0,hi,hz0,hz1,hz2⟩:=info_parts info8
  have:=run_make (P:=Tryz.prog) W 279 5 i0 _ Tryz.underlying279 hi hz0 .i64 .i64 n n (by omega) (Int.le_refl _) (by rw [hz2]; omega) (by omega)
  rw [this,hz1,Nat.mul_one,Int.toNat_natCast,show (Value.int .u8 0).cells=#[Value.int .u8 0] from rfl,madeCells_one]
theorem row_new (W:World) (l:List Value) (e:TypeId):RowAt (W.alloc (.cells l.toArray e)) W.heap.size e l:=(MapKept.heap_alloc W _).1
def zr (n:Nat) (z:Value):Array Value:=(List.replicate n z).toArray
theorem zr_row (W:World) (n:Nat) (z:Value) (e:TypeId):RowAt (W.alloc (.cells (zr n z) e)) W.heap.size e (List.replicate n z):=row_new W _ e
def encB (l:List Int):List Value:=l.map (Value.int .u8)
theorem encB_len (l:List Int):(encB l).length=l.length:=by simp [encB]
theorem encB_one (l:List Int):∀u∈encB l,u.oneCell'=true:=by
  intro u hu
  obtain ⟨x,_,rfl⟩:=List.mem_map.1 hu
  rfl
end Go.Proofs.YtnjlajjjcmhfgaaGreatDoor.Mm
namespace Go.Proofs.YtnjlajjjcmhfgaaGreatDoor.Mm
open Go.RowKit
set_option linter.unusedVariables false
theorem rend_any (W:World) (r N:Nat) (h0:W.cell? ⟨r,0,none⟩=some (.int .i64 N)) (hN:N≤65536) :
    Calls Tryz.prog 162 #[.pointer (some ⟨r,0,none⟩)] W fun e W'=>e= .returned (.int .u64 ((N:Int)*4096))∧W=W':=by
  go_enter Tryz.func162,Tryz.ntmps162
  go_wp2
  go_ret
  exact ⟨rfl,rfl⟩
theorem rnew_bad (W:World) (f:Int) (h:f<1∨65536<f) :
    Calls Tryz.prog 74 #[.int .i64 f] W fun e W'=>e= .returned (.tuple #[.pointer none,.int .i64 1])∧W=W':=by
  rcases h with h|h
  · go_enter Tryz.func74,Tryz.ntmps74
    go_wp2
    go_ret2
    exact ⟨rfl,rfl⟩
  · have h1:1≤f:=by omega
    go_enter Tryz.func74,Tryz.ntmps74
    go_wp2
    go_ret2
    exact ⟨rfl,rfl⟩
set_option maxHeartbeats 4000000 in
theorem rnew_any (W:World) (N:Nat) (h1:1≤N) (h2:N≤65536) :
    Calls Tryz.prog 74 #[.int .i64 N] W fun e W'=>e= .returned (.tuple #[.pointer (some ⟨W.heap.size,0,none⟩),.int .i64 0])∧RM W' (gr (fun _=>False) W W') W.heap.size N (fun _=>0)∧Turn (fun _=>False) W W':=by
  have a1:1≤(N:Int):=by omega
  have a2:(N:Int)≤65536:=by omega
  go_enter Tryz.func74,Tryz.ntmps74
  go_wp2
  go_ret2
  refine ⟨rfl,?_,(Turn.refl _ _).alloc _⟩
  refine ⟨.slice none 0 0,[],⟨(MapKept.heap_alloc W _).1,World.ownsRow_nil _ _ _ _,?_,?_,List.nodup_nil,List.nodup_nil,fun n _ _=>cnt_none n,.inr ⟨Nat.le_refl _,by simp⟩,?_,h1,h2,gr_low (fun _ h=>h.elim) (by simp)⟩⟩
  · intro b hb
    cases hb
  · intro x hx
    cases hx
  · intro x
    exact ⟨Int.le_refl 0,(by decide:(0:Int)<256)⟩
set_option maxHeartbeats 4000000 in
set_option maxRecDepth 100000 in
theorem at_some (W:World) (S:Nat→Prop) (r N:Nat) (m:Nat→Int) (v:Value) (fs:List (Nat×Nat)) (h:RMx W S r N m v fs) (no i:Nat) (x:Nat×Nat) (hx:fs[i]? =some x) (hn:x.1=no) :
    Calls Tryz.prog 211 #[.pointer (some ⟨r,0,none⟩),.int .i64 no] W fun e W'=>e= .returned (.int .i64 i)∧W=W':=by
  obtain ⟨a,cap,rfl,hcells⟩:=h.view
  have hc1:=h.cell1
  have hlen:=h.len
  have hN:=h.n2
  have hin:i<fs.length:=(List.getElem?_eq_some_iff.1 hx).1
  have HU:Hid (∀j y,fs[j]? =some y→y.1=no→j=i):=fun j y hy hyn=>by
    have hp:=h.nod1
    have h1:(fs.map (·.1))[j]? =some no:=by rw [List.getElem?_map,hy,←hyn]; rfl
    have h2:(fs.map (·.1))[i]? =some no:=by rw [List.getElem?_map,hx,←hn]; rfl
    exact (List.getElem?_inj (by simpa using (List.getElem?_eq_some_iff.1 hy).1) hp).1 (h1.trans h2.symm)
  have HC:Hid (∀i x,fs[i]? =some x→∃gb,a=some ⟨gb,0,none⟩∧S gb∧W.cell? ⟨gb,i*2,none⟩=some (.int .i64 (x.1:Int))∧W.cell? ⟨gb,i*2+1,none⟩=some (.slice (some ⟨x.2,0,none⟩) 4096 4096)):=hcells
  have HX:Hid (fs[i]? =some x∧x.1=no):=⟨hx,hn⟩
  clear hcells hx hn h
  generalize hq:fs.length=q at *
  have HQ:Hid (fs.length=q):=hq
  clear hq
  go_enter Tryz.func211,Tryz.ntmps211
  go_wp2
  go_loop [5] (fun c=>∃k:Nat,k≤i∧c= .int .i64 k) (fun c=>i+1-(intOf c).toNat)
  case atStart=>exact ⟨0,Nat.zero_le _,rfl⟩
  case round =>
    obtain ⟨k,hk,rfl⟩:=hrel
    have hkq:(k:Int)<(q:Int):=by omega
    by_cases hki:k=i
    · subst hki
      obtain ⟨gb,rfl,_,e0,_⟩:=HC.out k x HX.out.1
      have hxn:=HX.out.2
      rw [hxn] at e0
      clear hxn
      go_wp2
      go_ret
      exact ⟨rfl,rfl⟩
    · obtain ⟨y,hy⟩:∃y,fs[k]? =some y:=⟨_,List.getElem?_eq_getElem (by rw [HQ.out]; omega)⟩
      obtain ⟨gb,rfl,_,e0,_⟩:=HC.out k y hy
      have hyn:¬(y.1:Int)=(no:Int):=fun e=>hki (HU.out k y hy (by omega))
      clear hy
      go_wp2
      go_round
      case rel=>exact ⟨k+1,by omega,by go_num⟩
      case measure=>simp [intOf]; omega
set_option maxHeartbeats 4000000 in
set_option maxRecDepth 100000 in
theorem at_none (W:World) (S:Nat→Prop) (r N:Nat) (m:Nat→Int) (v:Value) (fs:List (Nat×Nat)) (h:RMx W S r N m v fs) (no:Nat) (hn:∀x∈fs,x.1≠no) :
    Calls Tryz.prog 211 #[.pointer (some ⟨r,0,none⟩),.int .i64 no] W fun e W'=>e= .returned (.int .i64 (-1))∧W=W':=by
  obtain ⟨a,cap,rfl,hcells⟩:=h.view
  have hc1:=h.cell1
  have hlen:=h.len
  have hN:=h.n2
  have HC:Hid (∀i x,fs[i]? =some x→∃gb,a=some ⟨gb,0,none⟩∧S gb∧W.cell? ⟨gb,i*2,none⟩=some (.int .i64 (x.1:Int))∧W.cell? ⟨gb,i*2+1,none⟩=some (.slice (some ⟨x.2,0,none⟩) 4096 4096)):=hcells
  have HX:Hid (∀x∈fs,x.1≠no):=hn
  clear hcells hn h
  generalize hq:fs.length=q at *
  have HQ:Hid (fs.length=q):=hq
  clear hq
  go_enter Tryz.func211,Tryz.ntmps211
  go_wp2
  go_loop [5] (fun c=>∃k:Nat,k≤q∧c= .int .i64 k) (fun c=>q-(intOf c).toNat)
  case atStart=>exact ⟨0,Nat.zero_le _,rfl⟩
  case round =>
    obtain ⟨k,hk,rfl⟩:=hrel
    by_cases hkq:k<q
    · have hkz:(k:Int)<(q:Int):=by omega
      obtain ⟨y,hy⟩:∃y,fs[k]? =some y:=⟨_,List.getElem?_eq_getElem (by rw [HQ.out]; omega)⟩
      obtain ⟨gb,rfl,_,e0,_⟩:=HC.out k y hy
      have hyn:¬(y.1:Int)=(no:Int):=fun e=>HX.out y (List.mem_of_getElem? hy) (by omega)
      clear hy
      go_wp2
      go_round
      case rel=>exact ⟨k+1,by omega,by go_num⟩
      case measure=>simp [intOf]; omega
    · go_wp2
      go_ret
      exact ⟨rfl,rfl⟩
theorem RMx.parted {W:World} {S:Nat→Prop} {r N:Nat} {m:Nat→Int} {v:Value} {fs:List (Nat×Nat)} (h:RMx W S r N m v fs) (n:Nat):(∃(i:Nat) (x:Nat×Nat),fs[i]? =some x∧x.1=n)∨∀x∈fs,x.1≠n:=by
  by_cases hx:∃x∈fs,x.1=n
  · obtain ⟨x,hx,e⟩:=hx
    obtain ⟨i,hi⟩:=List.getElem?_of_mem hx
    exact .inl ⟨i,x,hi,e⟩
  · exact .inr fun x hm e=>hx ⟨x,hm,e⟩
end Go.Proofs.YtnjlajjjcmhfgaaGreatDoor.Mm
namespace Go.Proofs.YtnjlajjjcmhfgaaGreatDoor.Mm
open Go.RowKit
set_option linter.unusedVariables false
theorem step_append {P:Program} {ops:Array Oper} {o:Oper} {a:Act} {w:World} {K:Act→World→Prop} {Q:Exit→Act→World→Prop} {E:Prop}
    (hg:o.guard=none) (d x:Operand) (dT sT:TypeId) (hop:o.op=Op.call { callee:=Callee.builtin Builtin.append,args:=#[d,x],argTypes:=#[dT,sT] })
    (v u:Value) (hd:a.eval d=v) (hx:a.eval x=u) {v':Value} {w':World} (hr:(Builtin.append_ #[dT,sT] o.type #[v,u]).run P w= .ok v' w') (hK:K (a.put o.dst v') w') :
    if Region.wanted o (yielded ops a.tmps)=true then Oper.wp P o a w K Q else E:=by
  have hw:Region.wanted o (yielded ops a.tmps)=true:=by simp [Region.wanted,hg]
  rw [if_pos hw]
  unfold Oper.wp
  simp [execOp,hop,resolve,invoke,builtin,hd,hx,hr,Result.andThen]
  exact hK
theorem infoF:(Tryz.prog.info? 281).map (fun i=>(i.zero,i.size,i.bytes))=some (some (.agg #[.int .i64 0,.slice none 0 0]),2,32):=by kernel_rfl
theorem RM.low {W:World} {S:Nat→Prop} {p N:Nat} {m:Nat→Int} (h:RM W S p N m):∀b,S b→b<W.heap.size:=by obtain ⟨v,fs,h⟩:=h; exact h.low
theorem RM.keep {W W':World} {S S':Nat→Prop} {p N:Nat} {m:Nat→Int} (h:RM W S p N m) (T:Turn S' W W') (hd:∀b,S b→¬S' b):RM W' S p N m:=by obtain ⟨v,fs,h⟩:=h; exact ⟨v,fs,h.keep T hd⟩
theorem RM.mono {W:World} {S S':Nat→Prop} {p N:Nat} {m:Nat→Int} (h:RM W S p N m) (hS:∀b,S b→S' b) (hl:∀b,S' b→b<W.heap.size):RM W S' p N m:=by obtain ⟨v,fs,h⟩:=h; exact ⟨v,fs,h.mono hS hl⟩
theorem RM.cell0 {W:World} {S:Nat→Prop} {p N:Nat} {m:Nat→Int} (h:RM W S p N m):W.cell? ⟨p,0,none⟩=some (.int .i64 N):=by obtain ⟨v,fs,h⟩:=h; exact h.cell0
theorem RM.n2 {W:World} {S:Nat→Prop} {p N:Nat} {m:Nat→Int} (h:RM W S p N m):N≤65536:=by obtain ⟨v,fs,h⟩:=h; exact h.n2
theorem RM.byts {W:World} {S:Nat→Prop} {p N:Nat} {m:Nat→Int} (h:RM W S p N m):Byts m:=by obtain ⟨v,fs,h⟩:=h; exact h.byts
theorem RM.gr {W W':World} {S:Nat→Prop} {p N:Nat} {m:Nat→Int} (h:RM W' S p N m) (hl:∀b,S b→b<W.heap.size) (hs:W.heap.size≤W'.heap.size):RM W' (gr S W W') p N m:=by
  obtain ⟨v,fs,h⟩:=h
  exact ⟨v,fs,h.mono (fun b hb=> .inl hb) (gr_low hl hs)⟩
theorem RMx.xne {W:World} {S:Nat→Prop} {r N:Nat} {m:Nat→Int} {v:Value} {fs:List (Nat×Nat)} (h:RMx W S r N m v fs) {x:Nat×Nat} (hx:x∈fs):x.2≠r∧∀b,v.ownBlock=some b→x.2≠b:=by
  obtain ⟨f1,f2,f3⟩:=h.frm x hx
  constructor
  · intro e
    have hb:=h.box
    rw [←e,show W.heap[x.2]? =_ from f2] at hb
    injection hb with hb
    injection hb with _ hb _
    cases hb
  · intro b hb e
    rcases row_of_own h.own with ⟨rfl,_⟩|⟨g,cap,cur,rfl,_,b2,_⟩
    · cases hb
    · cases hb
      subst e
      rw [RowAt,show W.heap[x.2]? =_ from f2] at b2
      injection b2 with b2
      injection b2 with _ b2 _
      cases b2
theorem RMx.gne {W:World} {S:Nat→Prop} {r N:Nat} {m:Nat→Int} {v:Value} {fs:List (Nat×Nat)} (h:RMx W S r N m v fs):∀b,v.ownBlock=some b→b≠r:=by
  intro b hb e
  rcases row_of_own h.own with ⟨rfl,_⟩|⟨g,cap,cur,rfl,_,b2,_⟩
  · cases hb
  · cases hb
    have hb:=h.box
    rw [←e,show W.heap[_]? =_ from b2] at hb
    injection hb with hb
    injection hb with _ hb _
    cases hb
theorem RMx.upd {W:World} {S:Nat→Prop} {r N:Nat} {m:Nat→Int} {v:Value} {fs:List (Nat×Nat)} (h:RMx W S r N m v fs) {x:Nat×Nat} (hx:x∈fs) {o:Nat} (ho:o<4096) {u:Int} (hu:0≤u∧u<256) :
    RMx (W.setCell ⟨x.2,o,none⟩ (.int .u8 u)) S r N (Go.Proofs.YtnjlajjjcmhfgaaGreatDoor.Mm.upd m (x.1*4096+o) u) v fs∧Turn S W (W.setCell ⟨x.2,o,none⟩ (.int .u8 u)):=by
  have hxn:=h.xne hx
  obtain ⟨f1,f2,f3⟩:=h.frm x hx
  have T:Turn (fun b=>b=x.2) W (W.setCell ⟨x.2,o,none⟩ (.int .u8 u)):=(Turn.refl (fun b=>b=x.2) W).setCell (p:=⟨x.2,o,none⟩) (.inl rfl) _
  refine ⟨⟨by rw [T.block r h.lt (fun e=>hxn.1 e.symm)]; exact h.box,own_turn h.own T (fun b hb e=>hxn.2 b hb e.symm),h.vS,fun y hy=> ?_,h.nod1,h.nod2,fun n hn hno=> ?_,h.Sr,upd_byts h.byts hu _,h.n1,h.n2,fun b hb=>Nat.lt_of_lt_of_le (h.low b hb) T.size⟩,T.mono (fun b _ hb=>by rw [hb]; exact f3)⟩
  · obtain ⟨g1,g2,g3⟩:=h.frm y hy
    by_cases e:y=x
    · subst e
      refine ⟨g1,?_,g3⟩
      rw [fr_upd _ _ _ _ ho,List.map_set]
      exact g2.set o _
    · have hn2:y.2≠x.2:=fun e2=>e (by
        obtain ⟨i,hi⟩:=List.getElem?_of_mem hx
        obtain ⟨j,hj⟩:=List.getElem?_of_mem hy
        have hp:=h.nod2
        have h1:(fs.map (·.2))[j]? =some x.2:=by rw [List.getElem?_map,hj,←e2]; rfl
        have h2:(fs.map (·.2))[i]? =some x.2:=by rw [List.getElem?_map,hi]; rfl
        have:=(List.getElem?_inj (by simpa using (List.getElem?_eq_some_iff.1 hj).1) hp).1 (h1.trans h2.symm)
        subst this
        rw [hi] at hj
        cases hj
        rfl)
      have hn1:y.1≠x.1:=fun e1=>e (by
        obtain ⟨i,hi⟩:=List.getElem?_of_mem hx
        obtain ⟨j,hj⟩:=List.getElem?_of_mem hy
        have hp:=h.nod1
        have h1:(fs.map (·.1))[j]? =some x.1:=by rw [List.getElem?_map,hj,←e1]; rfl
        have h2:(fs.map (·.1))[i]? =some x.1:=by rw [List.getElem?_map,hi]; rfl
        have:=(List.getElem?_inj (by simpa using (List.getElem?_eq_some_iff.1 hj).1) hp).1 (h1.trans h2.symm)
        subst this
        rw [hi] at hj
        cases hj
        rfl)
      rw [fr_upd_other _ _ _ _ _ ho hn1]
      exact ⟨g1,g2.turn T hn2,g3⟩
  · rw [fr_upd_other _ _ _ _ _ ho (fun e=>hno x hx e.symm)]
    exact h.out n hn hno
set_option maxHeartbeats 4000000 in
set_option maxRecDepth 100000 in
theorem rput_some (W:World) (S:Nat→Prop) (r N:Nat) (m:Nat→Int) (pa:Nat) (u:Int) (v:Value) (fs:List (Nat×Nat)) (h:RMx W S r N m v fs) (hp:pa<N*4096) (hu:0≤u∧u<256) (i:Nat) (x:Nat×Nat) (hx:fs[i]? =some x) (hxn:x.1=pa / 4096) :
    Calls Tryz.prog 163 #[.pointer (some ⟨r,0,none⟩),.int .u64 pa,.int .u8 u] W fun e W'=>e= .returned (.tuple #[])∧RM W' (gr S W W') r N (upd m pa u)∧Turn S W W':=by
  have hN:=h.n2
  have hq:(pa:Int) / 4096=((pa / 4096:Nat):Int):=by omega
  have hr:(pa:Int)%4096=((pa%4096:Nat):Int):=by omega
  have hqr:pa / 4096*4096+pa%4096=pa:=by omega
  have hr4:pa%4096<4096:=by omega
  have hat:=at_some W S r N m v fs h (pa / 4096) i x hx hxn
  have HU:=h.upd (List.mem_of_getElem? hx) hr4 hu
  rw [hxn,hqr] at HU
  obtain ⟨a,cap,rfl,hcells⟩:=h.view
  obtain ⟨gb,rfl,_,e0,e1⟩:=hcells i x hx
  have hc1:=h.cell1
  have hlen:=h.len
  obtain ⟨f1,f2,f3⟩:=h.frm x (List.mem_of_getElem? hx)
  have hcell:W.cell? ⟨x.2,pa%4096,none⟩=some (.int .u8 (m pa)):=by
    rw [f2.cell,List.getElem?_map,fr_at _ _ hr4,hxn,hqr]; rfl
  have hfz:=f2.frozen
  have hin:(i:Int)<(fs.length:Int):=by have:=(List.getElem?_eq_some_iff.1 hx).1; omega
  have HUU:Hid _:=HU
  have hlow:=h.low
  clear hcells hx hxn h f1 f2 f3 hqr HU
  generalize pa / 4096=q at *
  generalize pa%4096=o at *
  go_enter Tryz.func163,Tryz.ntmps163
  go_wp2_with (first
    | (go_at_call 211; refine hat.mono ?_; rintro e w1 ⟨rfl,rfl⟩)
    | go_in)
  exact bodyPost_end (results_none Tryz.results163 _ _ _) rfl ⟨rfl,RM.gr ⟨_,_,HUU.out.1⟩ hlow HUU.out.2.size,HUU.out.2⟩
theorem new_frame (W:World) (S:Nat→Prop) (r N:Nat) (m:Nat→Int) (v:Value) (fs:List (Nat×Nat)) (h:RMx W S r N m v fs) (n:Nat) (hn:n<N) (hno:∀x∈fs,x.1≠n) :
    ∃v' w',(∀ty,(Builtin.append_ #[195,195] ty #[v,.slice (some ⟨W.heap.size+1,0,none⟩) 1 1]).run Tryz.prog ((W.alloc (.cells (zr 4096 (.int .u8 0)) 5)).alloc (.cells #[.int .i64 (n:Int),.slice (some ⟨W.heap.size,0,none⟩) 4096 4096] 281))= .ok v' w')∧
      RMx (w'.setCell ⟨r,1,none⟩ v') (gr S W w') r N m v' (fs++[(n,W.heap.size)])∧Turn S W (w'.setCell ⟨r,1,none⟩ v')∧w'.frozen? ⟨r,1,none⟩=false∧w'.cell? ⟨r,1,none⟩=some v∧w'.heap.size=(w'.setCell ⟨r,1,none⟩ v').heap.size:=by
  obtain ⟨i0,hi,hz0,hz1,hz2⟩:=info_parts infoF
  have hlen:=h.len
  have hN:=h.n2
  have T1:Turn (fun _=>False) W ((W.alloc (.cells (zr 4096 (.int .u8 0)) 5)).alloc (.cells #[.int .i64 (n:Int),.slice (some ⟨W.heap.size,0,none⟩) 4096 4096] 281)):=((Turn.refl _ W).alloc _).alloc _
  have hB1:RowAt ((W.alloc (.cells (zr 4096 (.int .u8 0)) 5)).alloc (.cells #[.int .i64 (n:Int),.slice (some ⟨W.heap.size,0,none⟩) 4096 4096] 281)) W.heap.size 5 (List.replicate 4096 (.int .u8 0)):=(zr_row W 4096 (.int .u8 0) 5).grown (World.grownBy_alloc _ _ none) (by simp)
  have hB2:=row_new (W.alloc (.cells (zr 4096 (.int .u8 0)) 5)) [.int .i64 (n:Int),.slice (some ⟨W.heap.size,0,none⟩) 4096 4096] 281
  have hs1:(W.alloc (.cells (zr 4096 (.int .u8 0)) 5)).heap.size=W.heap.size+1:=by simp
  rw [hs1] at hB2
  have hs2:((W.alloc (.cells (zr 4096 (.int .u8 0)) 5)).alloc (.cells #[.int .i64 (n:Int),.slice (some ⟨W.heap.size,0,none⟩) 4096 4096] 281)).heap.size=W.heap.size+2:=by simp
  have hown:=own_turn h.own T1 (fun _ _ h=>h)
  generalize hWW:(W.alloc (.cells (zr 4096 (.int .u8 0)) 5)).alloc (.cells #[.int .i64 (n:Int),.slice (some ⟨W.heap.size,0,none⟩) 4096 4096] 281)=WW at *
  obtain ⟨v',w',hr,ho,hg,hb⟩:=append_any (P:=Tryz.prog) WW 195 281 i0 _ Tryz.underlying195 hi hz0 (by rw [hz1]; rfl) 0 fs.length 1 v (.slice (some ⟨W.heap.size+1,0,none⟩) 1 1) (fs.flatMap encR) [.int .i64 (n:Int),.slice (some ⟨W.heap.size,0,none⟩) 4096 4096] (by rw [hz1]; exact hown)
    (by rw [hz1]; exact Src.ofSlice _ Tryz.underlying195 ⟨W.heap.size+1,0,none⟩ 1 1 _ rfl (fun j u hj=>by rw [Addr.add_lit,Nat.zero_add,hB2.cell]; exact hj) (fun u hu=>by
      simp at hu
      rcases hu with rfl|rfl <;>rfl)) (Nat.zero_le _) (by unfold maxLen; omega) (by rw [hz2]; omega)
  have hbS:∀b,v.ownBlock=some b→S b∧b≠r:=fun b hb=>⟨h.vS b hb,h.gne b hb⟩
  have T2:Turn (fun b=>v.ownBlock=some b) WW w':=Turn.grown hg (fun k hk=> .inl hk)
  have T3:Turn (fun b=>v.ownBlock=some b) W w':=(T1.mono (fun _ _ h=>h.elim)).trans T2 (fun x hx=> .inl hx)
  have hrne:¬v.ownBlock=some r:=fun e=>(hbS r e).2 rfl
  have hbox:w'.heap[r]? =some (.cells #[.int .i64 N,v] 197 (0,0)):=by rw [T3.block r h.lt hrne]; exact h.box
  have hboxR:RowAt w' r 197 [.int .i64 N,v]:=hbox
  have T4:Turn (fun b=>b=r) w' (w'.setCell ⟨r,1,none⟩ v'):=(Turn.refl (fun b=>b=r) w').setCell (p:=⟨r,1,none⟩) (.inl rfl) _
  have hszW:W.heap.size+2≤w'.heap.size:=by rw [←hs2]; exact hg.size
  have hsame:w'.heap.size=(w'.setCell ⟨r,1,none⟩ v').heap.size:=by simp [World.setCell]
  have hvb:∀b,v'.ownBlock=some b→b≠r:=fun b hb' e=>by
    rcases hb b hb' with h1|h1
    · exact (hbS b h1).2 e
    · have:=h.lt; omega
  refine ⟨v',w',hr,?_,?_,hboxR.frozen 1,by rw [hboxR.cell]; rfl,hsame⟩
  · refine ⟨hboxR.set 1 v',?_,?_,?_,?_,?_,?_,.inl h.Sr,h.byts,h.n1,h.n2,?_⟩
    · have:=own_turn ho T4 hvb
      rw [hz1] at this
      rw [List.length_append,List.flatMap_append]
      exact this
    · intro b hb'
      rcases hb b hb' with h1|h1
      · exact .inl (hbS b h1).1
      · exact .inr ⟨by omega,(World.ownsRow.lt ho b hb').2⟩
    · intro x hx
      rcases List.mem_append.1 hx with hx|hx
      · obtain ⟨f1,f2,f3⟩:=h.frm x hx
        have hne:=h.xne hx
        exact ⟨f1,(f2.turn T3 (fun e=>(hne.2 _ e) rfl)).turn T4 hne.1,.inl f3⟩
      · simp at hx
        subst hx
        have hfz:fr m n=List.replicate 4096 0:=fr_of_zero (h.out n hn hno)
        refine ⟨hn,?_,.inr ⟨Nat.le_refl _,by omega⟩⟩
        rw [hfz,List.map_replicate]
        have hrl:=h.lt
        exact (hB1.turn T2 (fun e=>by have:=h.low _ (hbS _ e).1; omega)).turn T4 (by show ¬W.heap.size=r; omega)
    · rw [List.map_append,List.nodup_append]
      refine ⟨h.nod1,by simp,fun a ha b hb' e=> ?_⟩
      simp at hb'
      obtain ⟨x,hx,rfl⟩:=List.mem_map.1 ha
      exact hno x hx (by omega)
    · rw [List.map_append,List.nodup_append]
      refine ⟨h.nod2,by simp,fun a ha b hb' e=> ?_⟩
      simp at hb'
      obtain ⟨x,hx,rfl⟩:=List.mem_map.1 ha
      have:=h.low _ (h.frm x hx).2.2
      omega
    · intro k hk hkno
      exact h.out k hk (fun x hx=>hkno x (by simp [hx]))
    · intro b hb'
      rw [←hsame]
      exact gr_low h.low (by omega) b hb'
  · exact (T3.mono (fun b _ hb=>(hbS b hb).1)).trans T4 (fun x hx=> .inl (by rw [hx]; exact h.Sr))
end Go.Proofs.YtnjlajjjcmhfgaaGreatDoor.Mm
namespace Go.Proofs.YtnjlajjjcmhfgaaGreatDoor.Mm
open Go.RowKit
set_option linter.unusedVariables false
theorem make8c (W:World):(Instr.makeSlice 279 (.int .i64 4096) (.int .i64 4096)).run Tryz.prog W= .ok (.slice (some ⟨W.heap.size,0,none⟩) 4096 4096) (W.alloc (.cells (zr 4096 (Value.int .u8 0)) 5)):=make8 W 4096 (by omega)
theorem new_frame2 (W:World) (S:Nat→Prop) (r N:Nat) (m:Nat→Int) (v:Value) (fs:List (Nat×Nat)) (h:RMx W S r N m v fs) (n:Nat) (hn:n<N) (hno:∀x∈fs,x.1≠n) :
    ∃gb cap' w' X,X=w'.setCell ⟨r,1,none⟩ (.slice (some ⟨gb,0,none⟩) (fs.length+1) cap')∧
      (∀ty,(Builtin.append_ #[195,195] ty #[v,.slice (some ⟨W.heap.size+1,0,none⟩) 1 1]).run Tryz.prog (((W.alloc (.cells (zr 4096 (.int .u8 0)) 5)).alloc (.cells #[.int .i64 (n:Int),.slice (some ⟨W.heap.size,0,none⟩) 4096 4096] 281)).drew)= .ok (.slice (some ⟨gb,0,none⟩) (fs.length+1) cap') w')∧
      RMx X (gr S W X) r N m (.slice (some ⟨gb,0,none⟩) (fs.length+1) cap') (fs++[(n,W.heap.size)])∧Turn S W X∧w'.frozen? ⟨r,1,none⟩=false∧w'.cell? ⟨r,1,none⟩=some v∧
      X.cell? ⟨r,1,none⟩=some (.slice (some ⟨gb,0,none⟩) (fs.length+1) cap')∧X.cell? ⟨gb,fs.length*2+1,none⟩=some (.slice (some ⟨W.heap.size,0,none⟩) 4096 4096)∧(∀j,X.frozen? ⟨W.heap.size,j,none⟩=false)∧(∀o,o<4096→X.cell? ⟨W.heap.size,o,none⟩=some (.int .u8 (m (n*4096+o)))):=by
  obtain ⟨v',w',hrun,hR,hT,hfz,hcv,hsz⟩:=new_frame W.drew S r N m v fs (h.keep (S':=fun _=>False) ⟨rfl,rfl,rfl,Nat.le_refl _,fun _ _ _=>rfl⟩ (fun _ _ h=>h)) n hn hno
  obtain ⟨a',cap',hv,hcells⟩:=hR.view
  have hl1:(fs++[(n,W.drew.heap.size)]).length=fs.length+1:=by simp
  obtain ⟨gb,ha,_,y0,y1⟩:=hcells fs.length (n,W.drew.heap.size) (by simp)
  rw [hl1,ha] at hv
  subst hv
  obtain ⟨f1,f2,f3⟩:=hR.frm (n,W.drew.heap.size) (by simp)
  refine ⟨gb,cap',w',_,rfl,hrun,?_,⟨hT.os,hT.tape,hT.output,hT.size,hT.block⟩,hfz,hcv,hR.cell1,y1,f2.frozen,fun o ho=> ?_⟩
  · refine hR.mono (fun b hb=> ?_) (fun b hb=> ?_)
    · rcases hb with hb|⟨h1,h2⟩
      · exact .inl hb
      · exact .inr ⟨h1,by rw [←hsz]; exact h2⟩
    · exact gr_low h.low hT.size b hb
  · have:=f2.cell o
    rw [List.getElem?_map,fr_at _ _ ho] at this
    exact this
set_option maxHeartbeats 8000000 in
set_option maxRecDepth 100000 in
theorem rput_none (W:World) (S:Nat→Prop) (r N:Nat) (m:Nat→Int) (pa:Nat) (u:Int) (v:Value) (fs:List (Nat×Nat)) (h:RMx W S r N m v fs) (hp:pa<N*4096) (hu:0≤u∧u<256) (hno:∀x∈fs,x.1≠pa / 4096) :
    Calls Tryz.prog 163 #[.pointer (some ⟨r,0,none⟩),.int .u64 pa,.int .u8 u] W fun e W'=>e= .returned (.tuple #[])∧RM W' (gr S W W') r N (upd m pa u)∧Turn S W W':=by
  have hN:=h.n2
  have hq:(pa:Int) / 4096=((pa / 4096:Nat):Int):=by omega
  have hr:(pa:Int)%4096=((pa%4096:Nat):Int):=by omega
  have hqr:pa / 4096*4096+pa%4096=pa:=by omega
  have hr4:pa%4096<4096:=by omega
  have hqN:pa / 4096<N:=by omega
  have hat:=at_none W S r N m v fs h (pa / 4096) hno
  have hc1:=h.cell1
  have hlen:=h.len
  have hlow:=h.low
  have hrl:=h.lt
  have hmk:=make8c
  obtain ⟨gb,cap',w',X,hX,hrun,hR,hT,hfz,hcv,z1,z2,z3,z4⟩:=new_frame2 W S r N m v fs h (pa / 4096) hqN hno
  have HU:=hR.upd (x:=(pa / 4096,W.heap.size)) (by simp) hr4 hu
  have z5:=z4 (pa%4096) hr4
  rw [hqr] at z5
  rw [show (pa / 4096,W.heap.size).1*4096+pa%4096=pa from hqr] at HU
  have hwq:IntKind.i64.wrap ((pa / 4096:Nat):Int)=((pa / 4096:Nat):Int):=by rw [IntKind.wrap_i64]; omega
  have hwq2:IntKind.u64.wrap ((pa / 4096:Nat):Int)=((pa / 4096:Nat):Int):=by rw [IntKind.wrap_u64]; omega
  have hn0:=World.new_ne W _ hc1
  obtain ⟨a,cap,rfl,_⟩:=h.view
  have HT:Hid (Turn S W X):=hT
  have HXX:Hid (X=w'.setCell ⟨r,1,none⟩ (.slice (some ⟨gb,0,none⟩) (fs.length+1) cap')):=hX
  have HUU:Hid _:=HU
  clear h hno HU hR hT hqr z4 hX
  generalize pa / 4096=q at *
  generalize pa%4096=o at *
  go_enter Tryz.func163,Tryz.ntmps163
  go_wp2_with (first
    | (go_at_call 211; refine hat.mono ?_; rintro e w1 ⟨rfl,rfl⟩)
    | go_in)
  go_region_law (refine step_append (by rfl) _ _ 195 195 (by rfl) _ _ (by simp [Act.eval]) (by simp [Act.eval]) (hrun _) ?_)
  all_goals
    rw [←HXX.out]
    go_wp2
    exact bodyPost_end (results_none Tryz.results163 _ _ _) rfl ⟨rfl,⟨_,_,HUU.out.1.mono (fun b hb=>by
      rcases hb with hb|⟨h1,h2⟩
      · exact .inl hb
      · exact .inr ⟨h1,Nat.lt_of_lt_of_le h2 HUU.out.2.size⟩) (gr_low hlow (Nat.le_trans HT.out.size HUU.out.2.size))⟩,HT.out.trans HUU.out.2 (fun x hx=>by
      rcases hx with hx|⟨h1,_⟩
      · exact .inl hx
      · exact .inr h1)⟩
theorem rput_any (W:World) (S:Nat→Prop) (r N:Nat) (m:Nat→Int) (pa:Nat) (u:Int) (h:RM W S r N m) (hp:pa<N*4096) (hu:0≤u∧u<256) :
    Calls Tryz.prog 163 #[.pointer (some ⟨r,0,none⟩),.int .u64 pa,.int .u8 u] W fun e W'=>e= .returned (.tuple #[])∧RM W' (gr S W W') r N (upd m pa u)∧Turn S W W':=by
  obtain ⟨v,fs,h⟩:=h
  rcases h.parted (pa / 4096) with ⟨i,x,hx,hxn⟩|hno
  · exact rput_some W S r N m pa u v fs h hp hu i x hx hxn
  · exact rput_none W S r N m pa u v fs h hp hu hno
end Go.Proofs.YtnjlajjjcmhfgaaGreatDoor.Mm
namespace Go.Proofs.YtnjlajjjcmhfgaaGreatDoor.Mm
open Go.RowKit
set_option linter.unusedVariables false
theorem gr_gr {S:Nat→Prop} {W W1 W2:World} (h1:W.heap.size≤W1.heap.size) (h2:W1.heap.size≤W2.heap.size):∀b,gr (gr S W W1) W1 W2 b→gr S W W2 b:=fun b hb=>by
  rcases hb with (h|⟨h,h'⟩)|⟨h,h'⟩
  · exact .inl h
  · exact .inr ⟨h,by omega⟩
  · exact .inr ⟨by omega,h'⟩
theorem errV_bus {N:Nat} {pa:Nat} {w:Nat} (h:pa%w=0) (hb:N*4096≤pa):errV N pa w=30:=by
  rw [errV_else h,if_pos (by omega)]
theorem errV_fine {N:Nat} {pa:Nat} {w:Nat} (h:pa%w=0) (hb:pa<N*4096):errV N pa w=0:=by
  rw [errV_else h,if_neg (by omega)]
theorem pow256 {k:Nat} (h:k≤3):(256:Int)^k≤256^3:=by
  rcases (show k=0∨k=1∨k=2∨k=3 by omega) with rfl|rfl|rfl|rfl <;>decide
set_option maxHeartbeats 8000000 in
set_option maxRecDepth 100000 in
theorem rGet_some (W:World) (S:Nat→Prop) (r N:Nat) (m:Nat→Int) (pa w:Nat) (v:Value) (fs:List (Nat×Nat)) (h:RMx W S r N m v fs) (hw:w=1∨w=2∨w=4) (ha:pa%w=0) (hb:pa<N*4096) (i:Nat) (x:Nat×Nat) (hx:fs[i]? =some x) (hxn:x.1=pa / 4096) :
    Calls Tryz.prog 228 #[.pointer (some ⟨r,0,none⟩),.int .u64 pa,.int .i64 w] W fun e W'=>e= .returned (.tuple #[.int .u64 (num m pa w),.int .i64 0])∧W=W':=by
  have hN:=h.n2
  have hz:(pa:Int)%(w:Int)=0:=by rw [←Int.natCast_emod,ha]; rfl
  have hen:=rend_any W r N h.cell0 hN
  have hbz:(pa:Int)<(N:Int)*4096:=by omega
  have hq:(pa:Int) / 4096=((pa / 4096:Nat):Int):=by omega
  have hr:(pa:Int)%4096=((pa%4096:Nat):Int):=by omega
  have hqr:pa / 4096*4096+pa%4096=pa:=by omega
  have hat4:pa%4096+w≤4096:=by rcases hw with rfl|rfl|rfl <;>omega
  have hat:=at_some W S r N m v fs h (pa / 4096) i x hx hxn
  obtain ⟨a,cap,rfl,hcells⟩:=h.view
  obtain ⟨gb,rfl,_,e0,e1⟩:=hcells i x hx
  have hc1:=h.cell1
  have hlen:=h.len
  obtain ⟨f1,f2,f3⟩:=h.frm x (List.mem_of_getElem? hx)
  have hin:(i:Int)<(fs.length:Int):=by have:=(List.getElem?_eq_some_iff.1 hx).1; omega
  have HC:Hid (∀k,k<w→W.cell? ⟨x.2,pa%4096+k,none⟩=some (.int .u8 (m (pa+k)))):=fun k hk=>by
    rw [f2.cell,List.getElem?_map,fr_at _ _ (by omega),hxn]
    show some _=some _
    congr 3
    omega
  have hw1:1≤w:=by omega
  have hw2:w≤4:=by omega
  have HBt:Hid (Byts m):=h.byts
  clear hcells hx hxn h f1 f2 f3 hqr ha
  generalize pa / 4096=q at *
  generalize pa%4096=o at *
  go_enter Tryz.func228,Tryz.ntmps228
  go_wp2_with (first
    | (go_at_call 162; refine hen.mono ?_; rintro e w1 ⟨rfl,rfl⟩)
    | (go_at_call 211; refine hat.mono ?_; rintro e w1 ⟨rfl,rfl⟩)
    | go_in)
  go_loop [9,10] (fun y c=>∃k:Nat,k≤w∧c= .int .i64 ((k:Int)-1)∧y= .int .u64 (num m (pa+k) (w-k))) (fun _ c=>(intOf c+1).toNat)
  case atStart=>exact ⟨w,Nat.le_refl _,rfl,by rw [Nat.sub_self]; rfl⟩
  case round =>
    obtain ⟨k,hk,rfl,rfl⟩:=hrel
    cases k with
    | zero =>
      go_wp2
      go_ret2
      exact ⟨rfl,rfl⟩
    | succ k =>
      have hc:=HC.out k (by omega)
      have hk1:((k+1:Nat):Int)-1=(k:Int):=by omega
      have hbb:=HBt.out (pa+k)
      have hnb:=num_bd HBt.out (w-(k+1)) (pa+(k+1))
      have hpw:(256:Int)^(w-(k+1))≤256^3:=pow256 (by omega)
      have HS:Hid (num m (pa+k) (w-k)=m (pa+k)+256*num m (pa+(k+1)) (w-(k+1))):=by
        show _=_
        rw [show w-k=(w-(k+1))+1 by omega,num]
        rfl
      simp only [Int.reducePow] at hpw
      have hlt:num m (pa+(k+1)) (w-(k+1))<16777216:=by omega
      have hge:=hnb.1
      rw [hk1]
      clear hk1 hnb hpw
      generalize num m (pa+(k+1)) (w-(k+1))=y at *
      generalize m (pa+k)=b at *
      obtain ⟨hb0,hb1⟩:=hbb
      go_wp2
      go_round
      case rel=>exact ⟨k,by omega,rfl,by rw [HS.out]; congr 1; omega⟩
      case measure=>simp [intOf]
set_option maxHeartbeats 8000000 in
set_option maxRecDepth 100000 in
theorem rGet_none (W:World) (S:Nat→Prop) (r N:Nat) (m:Nat→Int) (pa w:Nat) (v:Value) (fs:List (Nat×Nat)) (h:RMx W S r N m v fs) (hw:w=1∨w=2∨w=4) (ha:pa%w=0) (hb:pa<N*4096) (hno:∀x∈fs,x.1≠pa / 4096) :
    Calls Tryz.prog 228 #[.pointer (some ⟨r,0,none⟩),.int .u64 pa,.int .i64 w] W fun e W'=>e= .returned (.tuple #[.int .u64 (num m pa w),.int .i64 0])∧W=W':=by
  have hN:=h.n2
  have hz:(pa:Int)%(w:Int)=0:=by rw [←Int.natCast_emod,ha]; rfl
  have hen:=rend_any W r N h.cell0 hN
  have hbz:(pa:Int)<(N:Int)*4096:=by omega
  have hq:(pa:Int) / 4096=((pa / 4096:Nat):Int):=by omega
  have hat:=at_none W S r N m v fs h (pa / 4096) hno
  have hzz:=cnt_fr_zero.1 (h.out (pa / 4096) (by omega) hno)
  have hnum:num m pa w=0:=by
    have hm:∀k,k<w→m (pa+k)=0:=fun k hk=>by
      have:=hzz (pa%4096+k) (by rcases hw with rfl|rfl|rfl <;>omega)
      rwa [show pa / 4096*4096+(pa%4096+k)=pa+k by omega] at this
    have h0:=hm 0 (by omega)
    simp only [Nat.add_zero] at h0
    rcases hw with rfl|rfl|rfl
    · rw [num1,h0]
    · rw [num2,h0,hm 1 (by omega)]; rfl
    · rw [num4,h0,hm 1 (by omega),hm 2 (by omega),hm 3 (by omega)]; rfl
  rw [hnum]
  have hw1:1≤w:=by omega
  have hw2:w≤4:=by omega
  clear h ha hzz hno hnum
  generalize pa / 4096=q at *
  go_enter Tryz.func228,Tryz.ntmps228
  go_wp2_with (first
    | (go_at_call 162; refine hen.mono ?_; rintro e w1 ⟨rfl,rfl⟩)
    | (go_at_call 211; refine hat.mono ?_; rintro e w1 ⟨rfl,rfl⟩)
    | go_in)
  go_ret2
  exact ⟨rfl,rfl⟩
set_option maxHeartbeats 8000000 in
theorem rGet_err (W:World) (r N:Nat) (pa w:Nat) (h0:W.cell? ⟨r,0,none⟩=some (.int .i64 N)) (hN:N≤65536) (hw:w=1∨w=2∨w=4) (hp:pa<18446744073709551616) (he:errV N pa w≠0) :
    Calls Tryz.prog 228 #[.pointer (some ⟨r,0,none⟩),.int .u64 pa,.int .i64 w] W fun e W'=>e= .returned (.tuple #[.int .u64 0,.int .i64 (errV N pa w)])∧W=W':=by
  have hen:=rend_any W r N h0 hN
  have hw1:1≤w:=by omega
  have hw2:w≤4:=by omega
  by_cases ha:pa%w=0
  · have hz:(pa:Int)%(w:Int)=0:=by rw [←Int.natCast_emod,ha]; rfl
    have hb:N*4096≤pa:=by
      apply Nat.le_of_not_lt
      intro hlt
      exact he (errV_fine ha hlt)
    rw [errV_bus ha hb]
    have hbz:(N:Int)*4096≤(pa:Int):=by omega
    clear he ha
    go_enter Tryz.func228,Tryz.ntmps228
    go_wp2_with (first
      | (go_at_call 162; refine hen.mono ?_; rintro e w1 ⟨rfl,rfl⟩)
      | go_in)
    go_ret2
    exact ⟨rfl,rfl⟩
  · have hz:¬(pa:Int)%(w:Int)=0:=by rw [←Int.natCast_emod]; omega
    rw [errV_align ha]
    clear he ha
    go_enter Tryz.func228,Tryz.ntmps228
    go_wp2
    go_ret2
    exact ⟨rfl,rfl⟩
theorem rGet_any (W:World) (S:Nat→Prop) (r N:Nat) (m:Nat→Int) (pa w:Nat) (h:RM W S r N m) (hw:w=1∨w=2∨w=4) (hp:pa<18446744073709551616) :
    Calls Tryz.prog 228 #[.pointer (some ⟨r,0,none⟩),.int .u64 pa,.int .i64 w] W fun e W'=>e= .returned (.tuple #[.int .u64 (valV N m pa w),.int .i64 (errV N pa w)])∧W=W':=by
  obtain ⟨v,fs,h⟩:=h
  unfold valV
  by_cases he:errV N pa w=0
  · rw [if_pos he,he]
    obtain ⟨ha,hb⟩:=errV_ok hw he
    rcases h.parted (pa / 4096) with ⟨i,x,hx,hxn⟩|hno
    · exact rGet_some W S r N m pa w v fs h hw ha (by omega) i x hx hxn
    · exact rGet_none W S r N m pa w v fs h hw ha (by omega) hno
  · rw [if_neg he]
    exact rGet_err W r N pa w h.cell0 h.n2 hw hp he
set_option maxHeartbeats 4000000 in
theorem rWord_any (W:World) (S:Nat→Prop) (r N:Nat) (m:Nat→Int) (pa:Nat) (h:RM W S r N m) (hp:pa<18446744073709551616) :
    Calls Tryz.prog 199 #[.pointer (some ⟨r,0,none⟩),.int .u64 pa] W fun e W'=>e= .returned (.tuple #[.int .u32 (valV N m pa 4),.int .i64 (errV N pa 4)])∧W=W':=by
  have hv:Calls Tryz.prog 228 #[.pointer (some ⟨r,0,none⟩),.int .u64 pa,.int .i64 4] W fun e W'=>e= .returned (.tuple #[.int .u64 (valV N m pa 4),.int .i64 (errV N pa 4)])∧W=W':=rGet_any W S r N m pa 4 h (by omega) hp
  have hb:=valV_bd (N:=N) h.byts pa 4
  simp only [Int.reducePow] at hb
  obtain ⟨hb0,hb1⟩:=hb
  generalize valV N m pa 4=x at *
  generalize errV N pa 4=er at *
  clear h
  go_enter Tryz.func199,Tryz.ntmps199
  go_wp2_with (first
    | (go_at_call 228; refine hv.mono ?_; rintro e w1 ⟨rfl,rfl⟩)
    | go_in)
  go_ret2
  exact ⟨rfl,rfl⟩
set_option maxHeartbeats 8000000 in
theorem rSet_err (W:World) (r N:Nat) (pa w:Nat) (v:Int) (h0:W.cell? ⟨r,0,none⟩=some (.int .i64 N)) (hN:N≤65536) (hw:w=1∨w=2∨w=4) (hp:pa<18446744073709551616) (he:errV N pa w≠0) :
    Calls Tryz.prog 114 #[.pointer (some ⟨r,0,none⟩),.int .u64 pa,.int .i64 w,.int .u64 v] W fun e W'=>e= .returned (.int .i64 (errV N pa w))∧W=W':=by
  have hen:=rend_any W r N h0 hN
  have hw1:1≤w:=by omega
  have hw2:w≤4:=by omega
  by_cases ha:pa%w=0
  · have hz:(pa:Int)%(w:Int)=0:=by rw [←Int.natCast_emod,ha]; rfl
    have hb:N*4096≤pa:=by
      apply Nat.le_of_not_lt
      intro hlt
      exact he (errV_fine ha hlt)
    rw [errV_bus ha hb]
    have hbz:(N:Int)*4096≤(pa:Int):=by omega
    clear he ha
    go_enter Tryz.func114,Tryz.ntmps114
    go_wp2_with (first
      | (go_at_call 162; refine hen.mono ?_; rintro e w1 ⟨rfl,rfl⟩)
      | go_in)
    go_ret
    exact ⟨rfl,rfl⟩
  · have hz:¬(pa:Int)%(w:Int)=0:=by rw [←Int.natCast_emod]; omega
    rw [errV_align ha]
    clear he ha
    go_enter Tryz.func114,Tryz.ntmps114
    go_wp2
    go_ret
    exact ⟨rfl,rfl⟩
set_option maxHeartbeats 8000000 in
set_option maxRecDepth 100000 in
theorem rSet_ok (W:World) (S:Nat→Prop) (r N:Nat) (m:Nat→Int) (pa w:Nat) (v:Int) (h:RM W S r N m) (hw:w=1∨w=2∨w=4) (ha:pa%w=0) (hb:pa+w≤N*4096) (hv0:0≤v) (hv1:v<18446744073709551616) :
    Calls Tryz.prog 114 #[.pointer (some ⟨r,0,none⟩),.int .u64 pa,.int .i64 w,.int .u64 v] W fun e W'=>e= .returned (.int .i64 0)∧RM W' (gr S W W') r N (wrs m pa (byt v w))∧Turn S W W':=by
  have hN:=h.n2
  have hz:(pa:Int)%(w:Int)=0:=by rw [←Int.natCast_emod,ha]; rfl
  have hen:=rend_any W r N h.cell0 hN
  have hw1:1≤w:=by omega
  have hw2:w≤4:=by omega
  have hbz:(pa:Int)<(N:Int)*4096:=by omega
  have hlow:=h.low
  have HH:Hid (RM W S r N m):=h
  clear h ha
  have hbl:(byt v w).length=w:=byt_len v w
  have HBL:Hid ((byt v w).length=w):=hbl
  clear hbl
  have HBB:Hid (∀x∈byt v w,0≤x∧x<256):=byt_bytes v w
  have HV:Hid (byt v w=byt v w):=rfl
  generalize hL:byt v w=L at HBL HBB HV ⊢
  have HL:Hid (byt v w=L):=hL
  clear hL HV
  go_enter Tryz.func114,Tryz.ntmps114
  go_wp2_with (first
    | (go_at_call 162; refine hen.mono ?_; rintro e w1 ⟨rfl,rfl⟩)
    | go_in)
  clear hen
  go_loopw [3,9] (fun y c wr=>∃(k:Nat) (vk:Int),k≤w∧c= .int .i64 k∧y= .int .u64 vk∧0≤vk∧vk<18446744073709551616∧Hid (byt vk (w-k)=L.drop k)∧Hid (RM wr (gr S W wr) r N (wrs m pa (L.take k)))∧Hid (Turn S W wr)) (fun _ c _=>w-(intOf c).toNat)
  case atStart=>exact ⟨0,v,Nat.zero_le _,rfl,rfl,hv0,hv1,by show _=_; rw [←HL.out]; rfl,by show RM _ _ _ _ _; rw [List.take_zero,wrs_nil]; exact HH.out.gr hlow (Nat.le_refl _),Turn.refl _ _⟩
  case round =>
    obtain ⟨k,vk,hk,rfl,rfl,hk0,hk1,HK,HR,HT⟩:=hrel
    by_cases hlt:k<w
    · have hkk:=HK.out
      rw [show w-k=(w-(k+1))+1 by omega,byt] at hkk
      have hg:L[k]? =some (vk%256):=by
        have:=congrArg (fun l=>l[0]?) hkk
        simp at this
        exact this.symm
      have HK2:Hid (byt (vk / 256) (w-(k+1))=L.drop (k+1)):=by
        have:=congrArg List.tail hkk
        rw [List.tail_cons,List.tail_drop] at this
        exact this
      have HS:Hid (wrs m pa (L.take (k+1))=upd (wrs m pa (L.take k)) (pa+k) (vk%256)):=wrs_take m pa L hg
      have hput:Calls Tryz.prog 163 #[.pointer (some ⟨r,0,none⟩),.int .u64 ((pa:Int)+(k:Int)),.int .u8 (vk%256)] wr fun e W'=>e= .returned (.tuple #[])∧RM W' (gr (gr S W wr) wr W') r N (upd (wrs m pa (L.take k)) (pa+k) (vk%256))∧Turn (gr S W wr) wr W':=by
        have:=rput_any wr (gr S W wr) r N (wrs m pa (L.take k)) (pa+k) (vk%256) HR.out (by omega) (by omega)
        rwa [Int.natCast_add] at this
      clear hkk hg
      go_wp2_with (first
        | (go_at_call 163; refine hput.mono ?_; rintro e w2 ⟨rfl,hp2,ht2⟩)
        | go_in)
      go_roundw
      case rel=>exact ⟨k+1,vk / 256,by omega,by go_num,rfl,by omega,by omega,HK2,by show RM _ _ _ _ _; rw [HS.out]; exact hp2.mono (gr_gr HT.out.size ht2.size) (gr_low hlow (Nat.le_trans HT.out.size ht2.size)),HT.out.trans ht2 (fun x hx=>by
          rcases hx with hx|⟨hx,_⟩
          · exact .inl hx
          · exact .inr hx)⟩
      case measure=>simp [intOf]; omega
    · have hr:=HR.out
      rw [List.take_of_length_le (by rw [HBL.out]; omega)] at hr
      have HRR:Hid (RM wr (gr S W wr) r N (wrs m pa L)):=hr
      clear hr HR
      go_wp2
      go_ret
      exact ⟨rfl,HRR.out,HT.out⟩
theorem rSet_any (W:World) (S:Nat→Prop) (r N:Nat) (m:Nat→Int) (pa w:Nat) (v:Int) (h:RM W S r N m) (hw:w=1∨w=2∨w=4) (hp:pa<18446744073709551616) (hv0:0≤v) (hv1:v<18446744073709551616) :
    Calls Tryz.prog 114 #[.pointer (some ⟨r,0,none⟩),.int .u64 pa,.int .i64 w,.int .u64 v] W fun e W'=>e= .returned (.int .i64 (errV N pa w))∧RM W' (gr S W W') r N (setV N m pa w v)∧Turn S W W':=by
  unfold setV
  by_cases he:errV N pa w=0
  · rw [if_pos he,he]
    obtain ⟨ha,hb⟩:=errV_ok hw he
    exact rSet_ok W S r N m pa w v h hw ha hb hv0 hv1
  · rw [if_neg he]
    refine (rSet_err W r N pa w v h.cell0 h.n2 hw hp he).mono ?_
    rintro e W' ⟨rfl,rfl⟩
    exact ⟨rfl,h.gr h.low (Nat.le_refl _),Turn.refl _ _⟩
set_option maxHeartbeats 4000000 in
theorem rSetWord_any (W:World) (S:Nat→Prop) (r N:Nat) (m:Nat→Int) (pa:Nat) (v:Int) (h:RM W S r N m) (hp:pa<18446744073709551616) (hv0:0≤v) (hv1:v<4294967296) :
    Calls Tryz.prog 75 #[.pointer (some ⟨r,0,none⟩),.int .u64 pa,.int .u32 v] W fun e W'=>e= .returned (.int .i64 (errV N pa 4))∧RM W' (gr S W W') r N (setV N m pa 4 v)∧Turn S W W':=by
  have hv:Calls Tryz.prog 114 #[.pointer (some ⟨r,0,none⟩),.int .u64 pa,.int .i64 4,.int .u64 v] W fun e W'=>e= .returned (.int .i64 (errV N pa 4))∧RM W' (gr S W W') r N (setV N m pa 4 v)∧Turn S W W':=rSet_any W S r N m pa 4 v h (by omega) hp (by omega) (by omega)
  generalize setV N m pa 4 v=x at *
  generalize errV N pa 4=er at *
  clear h
  go_enter Tryz.func75,Tryz.ntmps75
  go_wp2_with (first
    | (go_at_call 114; refine hv.mono ?_; rintro e w1 ⟨rfl,h1,h2⟩)
    | go_in)
  go_ret
  exact ⟨rfl,h1,h2⟩
end Go.Proofs.YtnjlajjjcmhfgaaGreatDoor.Mm
