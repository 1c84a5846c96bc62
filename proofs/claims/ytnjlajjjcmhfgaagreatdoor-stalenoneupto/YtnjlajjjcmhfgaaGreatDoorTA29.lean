import Derived.Test.YtnjlajjjcmhfgaaGreatDoorTA28
import Derived.Test.YtnjlajjjcmhfgaaGreatDoorTA24
namespace Go.Proofs.YtnjlajjjcmhfgaaGreatDoor
open Go.RowKit
open Mm (Turn gr RM valV errV Byts setV RowAt)
set_option linter.unusedVariables false
set_option linter.unusedSimpArgs false
structure Mst where
  has:Bool
  n:Nat
  m:Nat→Int
def Mst.none:Mst:=⟨false,0,fun _=>0⟩
def Mst.ram (N:Nat) (m:Nat→Int):Mst:=⟨true,N,m⟩
def Mst.mo (s:Mst):Mo :=
  match s.has with
  | false=>nilMo
  | true=>ramMo s.n s.m
def Mst.put (s:Mst) (pa v:Int):Mst :=
  match s.has with
  | false=>s
  | true=> .ram s.n (putM s.n s.m (pa-pa%4) v)
structure Oq where
  kind:Int
  nr:Int
  d:Dro
  pa:Int
  w:Int
  asid:Int
  va:Int
structure Oq.Ok (o:Oq):Prop where
  nr: -9223372036854775808≤o.nr∧o.nr≤9223372036854775807
  pa:0≤o.pa∧o.pa<18446744073709551616
  w:0≤o.w∧o.w<4294967296
  dv:0≤o.d.va∧o.d.va<4294967296
  asid: -9223372036854775808≤o.asid∧o.asid≤9223372036854775807
  va:0≤o.va∧o.va<4294967296
structure Pst where
  K:List Blo
  J:Jud
  mem:Mst
def seO (c:Ctx):Bool:=c.on && (decide (0≤c.asid) && decide (c.asid≤255))
theorem seO_iff (c:Ctx):seO c=true↔c.on=true∧0≤c.asid∧c.asid≤255:=by simp [seO]
def Pst.see (σ:Pst) (c:Ctx):Pst:=if seO c=true then ⟨seK σ.mem.mo c σ.K,setJ σ.J c.asid c,σ.mem⟩ else σ
def ctxAt (cs:List Ctx) (i:Int):Option Ctx:=if cs.length=0 then Option.none else cs[(i%(cs.length:Int)).toNat]?
def Pst.step (cs:List Ctx) (σ:Pst) (o:Oq):Pst :=
  if o.kind=1 then (match ctxAt cs o.nr with|some c=>σ.see c|Option.none=>σ)
  else if o.kind=2 then ⟨drK o.d σ.K,σ.J,σ.mem⟩
  else if o.kind=3 then ⟨σ.K,σ.J,σ.mem.put o.pa o.w⟩
  else σ
def Pst.run (cs:List Ctx) (σ:Pst) (l:List Oq):Pst:=l.foldl (Pst.step cs) σ
theorem Pst.run_step {cs:List Ctx} {σ:Pst} {l:List Oq} {k:Nat} {o:Oq} (h:l[k]? =some o):σ.run cs (l.take (k+1))=(σ.run cs (l.take k)).step cs o:=by
  unfold Pst.run
  obtain ⟨hk,rfl⟩:=List.getElem?_eq_some_iff.1 h
  rw [List.take_add_one,List.getElem?_eq_getElem hk,Option.toList_some,List.foldl_append]
  rfl
theorem ctxAt_some {cs:List Ctx} (h:0<cs.length) (i:Int):∃k c,k<cs.length∧(k:Int)=i%(cs.length:Int)∧cs[k]? =some c∧ctxAt cs i=some c:=by
  have h1:=Int.emod_nonneg i (show (cs.length:Int)≠0 by omega)
  have h2:=Int.emod_lt_of_pos i (show (0:Int)<cs.length by omega)
  have h3:(i%(cs.length:Int)).toNat<cs.length:=by omega
  refine ⟨(i%(cs.length:Int)).toNat,cs[(i%(cs.length:Int)).toNat],h3,by omega,List.getElem?_eq_getElem h3,?_⟩
  unfold ctxAt
  rw [if_neg (by omega)]
  exact List.getElem?_eq_getElem h3
theorem ctxAt_mem {cs:List Ctx} {i:Int} {c:Ctx} (h:ctxAt cs i=some c):c∈cs:=by
  unfold ctxAt at h
  split at h
  · cases h
  · exact List.mem_of_getElem? h
def Mst.Ok (s:Mst):Prop :=
  match s.has with
  | false=>True
  | true=>Byts s.m
theorem Mst.mok {s:Mst} (h:s.Ok):s.mo.Ok:=by
  obtain ⟨hs,N,m⟩:=s
  cases hs with
  | false=>exact nilMo_ok
  | true=>exact ramMo_ok h
theorem byt_rng {v:Int}:∀ {w:Nat} (x:Int),x∈Mm.byt v w→0≤x∧x<256:=by
  intro w
  induction w generalizing v with
  | zero=>intro x hx; simp [Mm.byt] at hx
  | succ n ih =>
    intro x hx
    simp only [Mm.byt,List.mem_cons] at hx
    rcases hx with rfl|hx
    · omega
    · exact ih x hx
theorem putM_byts {N:Nat} {m:Nat→Int} {a v:Int} (h:Byts m):Byts (putM N m a v):=by
  intro x
  unfold putM setV
  split
  · unfold Mm.wrs
    split
    · rename_i hx
      have hlt:x-a.toNat<(Mm.byt v 4).length:=by omega
      rw [List.getD_eq_getElem?_getD,List.getElem?_eq_getElem hlt,Option.getD_some]
      exact byt_rng _ (List.getElem_mem _)
    · exact h x
  · exact h x
theorem Mst.put_ok {s:Mst} (h:s.Ok) (pa v:Int):(s.put pa v).Ok:=by
  obtain ⟨hs,N,m⟩:=s
  cases hs with
  | false=>trivial
  | true=>exact putM_byts h
structure Cnt (σ:Pst) (s u:Nat):Prop where
  ok:TrOk σ.K σ.J
  mem:σ.mem.Ok
  len:σ.K.length≤s*1048576
  glob:∃U,Wc σ.mem.mo U∧(∀b∈σ.K,b.asid= -1→b.t∈U)∧U.length≤u
theorem Cnt.mono {σ:Pst} {s u s' u':Nat} (h:Cnt σ s u) (hs:s≤s') (hu:u≤u'):Cnt σ s' u':=by
  obtain ⟨U,h1,h2,h3⟩:=h.glob
  exact ⟨h.ok,h.mem,Nat.le_trans h.len (Nat.mul_le_mul_right _ hs),U,h1,h2,Nat.le_trans h3 hu⟩
theorem Cnt.see {σ:Pst} {s u:Nat} (h:Cnt σ s u) {c:Ctx} (hc:c.Ok):Cnt (σ.see c) (s+1) u:=by
  unfold Pst.see
  by_cases hO:seO c=true
  · rw [if_pos hO]
    obtain ⟨hon,ha,hb⟩:=(seO_iff c).1 hO
    obtain ⟨U,h1,h2,h3⟩:=h.glob
    refine ⟨h.ok.see (Mst.mok h.mem) hc ⟨ha,hb⟩ hon,h.mem,?_,U,h1,?_,h3⟩
    · have q1:=seL_len (a:=c.asid) (l:=blL σ.mem.mo c) (K:=σ.K)
      have q2:=blL_len σ.mem.mo c
      have:=h.len
      show (seL c.asid (blL σ.mem.mo c) σ.K).length≤_
      omega
    · intro b hb' he
      rcases mem_seL.1 hb' with hb'|⟨t,ht,rfl⟩
      · exact h2 b hb' he
      · obtain ⟨va,hv,hw⟩:=(mem_blL hon t).1 ht
        refine h1 c va t hc hon hv hw ?_
        unfold tgB at he
        dsimp only at he
        cases hg:t.ng with
        | false=>rfl
        | true=>rw [if_pos hg] at he; omega
  · rw [if_neg hO]
    exact h.mono (Nat.le_succ s) (Nat.le_refl u)
theorem Cnt.drop {σ:Pst} {s u:Nat} (h:Cnt σ s u) (d:Dro):Cnt ⟨drK d σ.K,σ.J,σ.mem⟩ s u:=by
  obtain ⟨U,h1,h2,h3⟩:=h.glob
  exact ⟨h.ok.drop d,h.mem,Nat.le_trans (List.length_filter_le _ _) h.len,U,h1,fun b hb=>h2 b (List.mem_filter.1 hb).1,h3⟩
theorem Cnt.put {σ:Pst} {s u:Nat} (h:Cnt σ s u) {pa v:Int} (hp:0≤pa) (hv:0≤v∧v<4294967296):Cnt ⟨σ.K,σ.J,σ.mem.put pa v⟩ s (u+67584):=by
  obtain ⟨U,h1,h2,h3⟩:=h.glob
  refine ⟨h.ok,Mst.put_ok h.mem pa v,h.len,?_⟩
  obtain ⟨K,J,mem⟩:=σ
  obtain ⟨hs,N,m⟩:=mem
  cases hs with
  | false=>exact ⟨U,h1,h2,by omega⟩
  | true =>
    have hB:Byts m:=h.mem
    refine ⟨_,Wc.put (A:=pa-pa%4) (y:=v) h1 hB (by omega) hv,fun b hb he=>List.mem_append_left _ (h2 b hb he),?_⟩
    rw [List.length_append,List.length_append,li1_len,li2_len]
    omega
theorem Cnt.step {σ:Pst} {s u:Nat} (h:Cnt σ s u) {cs:List Ctx} (hcs:∀c∈cs,c.Ok) {o:Oq} (ho:o.Ok):Cnt (σ.step cs o) (s+1) (u+67584):=by
  unfold Pst.step
  split
  · split
    · rename_i c hc
      exact (h.see (hcs c (ctxAt_mem hc))).mono (Nat.le_refl _) (by omega)
    · exact h.mono (by omega) (by omega)
  · split
    · exact (h.drop o.d).mono (by omega) (by omega)
    · split
      · exact (h.put ho.pa.1 ho.w).mono (by omega) (Nat.le_refl _)
      · exact h.mono (by omega) (by omega)
theorem Cnt.run {σ:Pst} {s u:Nat} (h:Cnt σ s u) {cs:List Ctx} (hcs:∀c∈cs,c.Ok):∀ {l:List Oq},(∀o∈l,o.Ok)→Cnt (σ.run cs l) (s+l.length) (u+67584*l.length)
  | [],_=>h
  | o::l,hl=>by
    have:=Cnt.run (h.step hcs (hl o (.head _))) hcs (l:=l) (fun x hx=>hl x (.tail _ hx))
    refine this.mono ?_ ?_ <;>simp <;>omega
theorem Cnt.dirts {σ:Pst} {s u:Nat} (h:Cnt σ s u):(diL σ.mem.mo σ.K σ.J).length≤256*u+s*1048576:=by
  obtain ⟨U,h1,h2,h3⟩:=h.glob
  have q1:=diL_len (M:=σ.mem.mo) h.ok.j h.ok.ri
  have q2:=Kg_len h.ok.ri h2
  have:=h.len
  omega
def fillM (N:Nat) (ps:List (Int×Int)):Nat→Int:=ps.foldl (fun m p=>putM N m (p.1-p.1%4) p.2) (fun _=>0)
theorem fillM_step {N:Nat} {ps:List (Int×Int)} {k:Nat} {p:Int×Int} (h:ps[k]? =some p):fillM N (ps.take (k+1))=putM N (fillM N (ps.take k)) (p.1-p.1%4) p.2:=by
  unfold fillM
  obtain ⟨hk,rfl⟩:=List.getElem?_eq_some_iff.1 h
  rw [List.take_add_one,List.getElem?_eq_getElem hk,Option.toList_some,List.foldl_append]
  rfl
def memS (f:Int) (ps:List (Int×Int)):Mst:=if 1≤f∧f≤65536 then .ram f.toNat (fillM f.toNat ps) else .none
theorem zero_wd (N:Nat) (a:Int):(ramMo N (fun _=>0)).wd a=0:=by
  show valV N (fun _=>0) a.toNat 4=0
  unfold valV
  split
  · simp [Mm.num]
  · rfl
theorem fold_byts {N:Nat}:∀ {ps:List (Int×Int)} {m:Nat→Int},Byts m→Byts (ps.foldl (fun m p=>putM N m (p.1-p.1%4) p.2) m)
  | [],_,h=>h
  | p::ps,m,h=>fold_byts (ps:=ps) (putM_byts h)
theorem fold_wd {N:Nat}:∀ {ps:List (Int×Int)} {m:Nat→Int} {a:Int},(∀p∈ps,(0:Int)≤p.1)→0≤a→(ramMo N (ps.foldl (fun m p=>putM N m (p.1-p.1%4) p.2) m)).wd a≠0→a∈ps.map (fun p=>p.1-p.1%4)∨(ramMo N m).wd a≠0
  | [],_,_,_,_,h=> .inr h
  | p::ps,m,a,hp,ha,h=>by
    rcases fold_wd (ps:=ps) (fun q hq=>hp q (.tail _ hq)) ha h with h|h
    · exact .inl (by rw [List.map_cons]; exact .tail _ h)
    · by_cases e:p.1-p.1%4=a
      · exact .inl (by rw [List.map_cons,e]; exact .head _)
      · have:=hp p (.head _)
        rw [putM_other (by omega) ha e] at h
        exact .inr h
theorem Cnt.first {f:Int} {ps:List (Int×Int)} (hp:∀p∈ps,(0:Int)≤p.1):Cnt ⟨[],fun _=>Option.none,memS f ps⟩ 0 (2048*ps.length):=by
  refine ⟨TrOk.nil,?_,Nat.zero_le _,?_⟩
  · show (memS f ps).Ok
    unfold memS
    split
    · exact fold_byts (fun _=>⟨Int.le_refl 0,(by decide:(0:Int)<256)⟩)
    · trivial
  · show ∃U,Wc (memS f ps).mo U∧_
    unfold memS
    split
    · refine ⟨(ps.map fun p=>p.1-p.1%4).flatMap (li1 _),Wc.first (fun a ha h=> ?_),fun b hb=>(by cases hb),?_⟩
      · rcases fold_wd hp ha h with h|h
        · exact h
        · exact absurd (zero_wd _ a) h
      · rw [flat_len (k:=2048) (fun a _=>li1_len _ a),List.length_map]
        omega
    · exact ⟨[],Wc.nil,fun b hb=>(by cases hb),by simp⟩
def Sli {α:Type} (en:α→List Value) (k:Nat) (W:World) (v:Value) (l:List α):Prop :=
  ∃a cap,v= .slice a l.length cap∧∀(i:Nat) o,l[i]? =some o→∃b off,a=some ⟨b,off,none⟩∧b<W.heap.size∧∀(j:Nat) c,(en o)[j]? =some c→W.cell? ⟨b,off+i*k+j,none⟩=some c
theorem Sli.below {α:Type} {en:α→List Value} {k:Nat} {W w:World} {v:Value} {l:List α} (h:Sli en k W v l) (hb:Below W.heap.size W w):Sli en k w v l:=by
  obtain ⟨a,cap,e,h⟩:=h
  refine ⟨a,cap,e,fun i o ho=> ?_⟩
  obtain ⟨b,off,ha,hlt,hc⟩:=h i o ho
  exact ⟨b,off,ha,Nat.lt_of_lt_of_le hlt hb.size,fun j c hj=>(hb.cell (p:=⟨b,off+i*k+j,none⟩) hlt).trans (hc j c hj)⟩
theorem Sli.of {α:Type} {enc:α→List Value} {T:TypeId} {w:World} {lo:Nat} {v:Value} {L:List α} {k:Nat} (hk:∀x,(enc x).length=k) (h:LtG enc T w lo v L):Sli enc k w v L:=by
  obtain ⟨a,cap,e,h⟩:=h
  refine ⟨a,cap,e,fun i o ho=> ?_⟩
  rcases h with rfl|⟨g,rest,rfl,_,hr⟩
  · simp at ho
  · refine ⟨g,0,rfl,hr.lt,fun j c hj=> ?_⟩
    have hjk:j<k:=by
      have:=(List.getElem?_eq_some_iff.1 hj).1
      rw [hk] at this; exact this
    have h1:(rowG enc L)[i*k+j]? =some c:=by
      clear hr e
      induction L generalizing i with
      | nil=>simp at ho
      | cons x L ih =>
        cases i with
        | zero =>
          simp only [List.getElem?_cons_zero,Option.some.injEq] at ho
          subst ho
          show (enc x++_)[0*k+j]? =_
          rw [Nat.zero_mul,Nat.zero_add,List.getElem?_append_left (by rw [hk]; exact hjk)]
          exact hj
        | succ i =>
          show (enc x++rowG enc L)[(i+1)*k+j]? =_
          rw [List.getElem?_append_right (by rw [hk,Nat.succ_mul]; omega),hk,show (i+1)*k+j-k=i*k+j by rw [Nat.succ_mul]; omega]
          exact ih i (by simpa using ho)
    have h2:=List.getElem?_append_left (l₂:=rest) ((List.getElem?_eq_some_iff.1 h1).1)
    rw [h1] at h2
    have h3:=hr.cell (i*k+j)
    rw [Nat.zero_add,h3]
    exact h2
theorem Sli.form {α:Type} {en:α→List Value} {k:Nat} {W:World} {v:Value} {l:List α} (h:Sli en k W v l):∃a cap,v= .slice a l.length cap:=by obtain ⟨a,cap,e,_⟩:=h; exact ⟨a,cap,e⟩
def MemW (w:World) (S:Nat→Prop) (wv iv:Value) (s:Mst):Prop :=
  match s.has with
  | false=>wv= .pointer none∧iv= .nilIface∧∀b,¬S b
  | true=>∃p,wv= .pointer (some ⟨p,0,none⟩)∧iv= .iface 52 (.pointer (some ⟨p,0,none⟩))∧RM w S p s.n s.m
theorem MemW.mem {w:World} {S:Nat→Prop} {wv iv:Value} {s:Mst} (h:MemW w S wv iv s):MemP w S iv s.mo:=by
  obtain ⟨hs,N,m⟩:=s
  cases hs with
  | false=>exact .inr ⟨h.2.1,rfl,h.2.2⟩
  | true=>obtain ⟨p,_,h1,h2⟩:=h; exact .inl ⟨p,N,m,h1,rfl,h2⟩
theorem MemW.keep {w w':World} {S X:Nat→Prop} {wv iv:Value} {s:Mst} (h:MemW w S wv iv s) (T:Turn X w w') (hd:∀b,S b→¬X b):MemW w' S wv iv s:=by
  obtain ⟨hs,N,m⟩:=s
  cases hs with
  | false=>exact h
  | true=>obtain ⟨p,h0,h1,h2⟩:=h; exact ⟨p,h0,h1,h2.keep T hd⟩
theorem MemW.below {w w':World} {S:Nat→Prop} {wv iv:Value} {s:Mst} (h:MemW w S wv iv s) (hb:Below w.heap.size w w'):MemW w' S wv iv s:=h.keep (X:=fun _=>False) (Turn.below hb) (fun _ _ h=>h)
theorem MemW.low {w:World} {S:Nat→Prop} {wv iv:Value} {s:Mst} (h:MemW w S wv iv s):∀b,S b→b<w.heap.size:=h.mem.low
theorem RM.tight {w:World} {S:Nat→Prop} {p N:Nat} {m:Nat→Int} (h:RM w S p N m):RM w (fun b=>S b∧solid w b) p N m:=by
  obtain ⟨v,fs,h⟩:=h
  refine ⟨v,fs,⟨h.box,h.own,fun b hb=>⟨h.vS b hb,?_⟩,fun x hx=> ?_,h.nod1,h.nod2,h.out,⟨h.Sr,⟨_,h.box,.inl rfl⟩⟩,h.byts,h.n1,h.n2,fun b hb=>h.low b hb.1⟩⟩
  · rcases h.own.2 with ⟨rfl,_⟩|⟨g,cap,cur,rfl,_,hg,_⟩
    · cases hb
    · cases hb
      exact ⟨_,hg,.inl rfl⟩
  · obtain ⟨h1,h2,h3⟩:=h.frm x hx
    exact ⟨h1,h2,h3,.row h2⟩
theorem MemP.tight {w:World} {S:Nat→Prop} {iv:Value} {M:Mo} (h:MemP w S iv M):MemP w (fun b=>S b∧solid w b) iv M:=by
  rcases h with ⟨p,N,m,rfl,rfl,h⟩|⟨h1,h2,h3⟩
  · exact .inl ⟨p,N,m,rfl,rfl,RM.tight h⟩
  · exact .inr ⟨h1,h2,fun b hb=>h3 b hb.1⟩
end Go.Proofs.YtnjlajjjcmhfgaaGreatDoor
namespace Go.Proofs.YtnjlajjjcmhfgaaGreatDoor
open Go.RowKit
open Mm (Turn gr RM valV errV Byts setV RowAt)
set_option linter.unusedVariables false
set_option linter.unusedSimpArgs false
attribute [local go_sem] Oper.semAt_some
theorem see_any (W:World) (p kb jb:Nat) (σ:Pst) (h:PK W p kb jb σ.K σ.J) (S:Nat→Prop) (wv iv:Value) (hm:MemW W S wv iv σ.mem) (hS:∀b,S b→b≠kb) (ht:TS W) (c:Ctx) (hc:c.Ok) (hl:σ.K.length≤2305843009213693952) :
    Calls Tryz.prog 22 #[.pointer (some ⟨p,0,none⟩),iv,.agg #[.bool c.on,.bool c.tre,.bool c.afe,.int .i64 c.n,.bool c.pd0,.bool c.pd1,.int .u64 c.b0,.int .u64 c.b1,.int .u32 c.dacr,.int .u32 c.prrr,.int .u32 c.nmrr,.int .i64 c.asid]] W fun e w'=>e= .returned (.int .i64 (if seO c=true∨c.on=false then 0 else 1))∧PK w' p kb jb (σ.see c).K (σ.see c).J∧Turn (fun x=>x=kb∨x=jb) W w'∧TS w':=by
  unfold Pst.see
  cases hon:c.on with
  | false =>
    have hO:¬seO c=true:=fun hh=>by rw [seO_iff,hon] at hh; exact absurd hh.1 (by decide)
    rw [if_neg hO,if_pos (Or.inr rfl)]
    refine (hon▸see_off W p iv c hon).mono ?_
    rintro e w' ⟨rfl,hb⟩
    exact ⟨rfl,h.below hb,Turn.below hb,ht.below hb⟩
  | true =>
    by_cases ha:0≤c.asid∧c.asid≤255
    · have hO:seO c=true:=(seO_iff c).2 ⟨hon,ha⟩
      rw [if_pos hO,if_pos (Or.inl hO)]
      exact hon▸see_on W p kb jb σ.K σ.J h _ iv σ.mem.mo hm.mem.tight (fun b hb=>⟨hb.2,hS b hb.1⟩) ht c hc hon ha hl
    · have hO:¬seO c=true:=fun hh=>ha ((seO_iff c).1 hh).2
      rw [if_neg hO,if_neg (show ¬(seO c=true∨true=false) from fun hh=>hh.elim hO (fun h=>by cases h))]
      refine (hon▸see_bad W p iv c hon (by omega)).mono ?_
      rintro e w' ⟨rfl,hb⟩
      exact ⟨rfl,h.below hb,Turn.below hb,ht.below hb⟩
theorem no_any (e:Int) (w:World):Calls Tryz.prog 21 #[.int .i64 e] w fun x w'=>x= .returned (.int .i64 e)∧w=w':=by
  go_enter Tryz.func21,Tryz.ntmps21
  go_wp2
  go_ret
  exact ⟨rfl,rfl⟩
theorem written_none (pa v:Int) (w:World):Calls Tryz.prog 43 #[.pointer none,.int .u64 pa,.int .u32 v] w fun x w'=>x= .returned (.tuple #[])∧w=w':=by
  go_enter Tryz.func43,Tryz.ntmps43
  go_wp2
  exact bodyPost_end (results_none Tryz.results43 _ _ _) rfl ⟨rfl,rfl⟩
set_option maxHeartbeats 4000000 in
theorem written_some (W:World) (S:Nat→Prop) (r N:Nat) (m:Nat→Int) (pa v:Int) (h:RM W S r N m) (hp:0≤pa∧pa<18446744073709551616) (hv:0≤v∧v<4294967296) :
    Calls Tryz.prog 43 #[.pointer (some ⟨r,0,none⟩),.int .u64 pa,.int .u32 v] W fun x W'=>x= .returned (.tuple #[])∧RM W' (gr S W W') r N (putM N m (pa-pa%4) v)∧Turn S W W':=by
  have HC:Hid (Calls Tryz.prog 75 #[.pointer (some ⟨r,0,none⟩),.int .u64 (pa-pa%4),.int .u32 v] W fun e W'=>e= .returned (.int .i64 (errV N (pa-pa%4) 4))∧RM W' (gr S W W') r N (putM N m (pa-pa%4) v)∧Turn S W W'):=by
    have:=Mm.rSetWord_any W S r N m (pa-pa%4).toNat v h (by omega) hv.1 hv.2
    rw [Int.toNat_of_nonneg (by omega)] at this
    exact this
  have hw:IntKind.u64.wrap (pa-pa%4)=pa-pa%4:=by rw [IntKind.wrap_u64]; omega
  clear h
  generalize putM N m (pa-pa%4) v=m' at *
  generalize errV N (pa-pa%4) 4=er at *
  go_enter Tryz.func43,Tryz.ntmps43
  go_wp2_with (first
    | (go_at_call 75; refine HC.out.mono ?_; rintro e w1 ⟨rfl,h1,h2⟩))
  exact bodyPost_end (results_none Tryz.results43 _ _ _) rfl ⟨rfl,h1,h2⟩
theorem written_any (W:World) (S:Nat→Prop) (wv iv:Value) (s:Mst) (h:MemW W S wv iv s) (pa v:Int) (hp:0≤pa∧pa<18446744073709551616) (hv:0≤v∧v<4294967296) :
    Calls Tryz.prog 43 #[wv,.int .u64 pa,.int .u32 v] W fun x W'=>x= .returned (.tuple #[])∧(∃S',MemW W' S' wv iv (s.put pa v)∧∀b,S' b→S b∨W.heap.size≤b)∧Turn S W W':=by
  obtain ⟨hs,N,m⟩:=s
  cases hs with
  | false =>
    obtain ⟨rfl,h1,h2⟩:=h
    refine (written_none pa v W).mono ?_
    rintro x w' ⟨rfl,rfl⟩
    exact ⟨rfl,⟨S,⟨rfl,h1,h2⟩,fun b hb=> .inl hb⟩,Turn.refl _ _⟩
  | true =>
    obtain ⟨p,rfl,h1,h2⟩:=h
    refine (written_some W S p N m pa v h2 hp hv).mono ?_
    rintro x w' ⟨rfl,h3,h4⟩
    exact ⟨rfl,⟨_,⟨p,rfl,h1,h3⟩,fun b hb=>hb.imp (fun h=>h) (fun h=>h.1)⟩,h4⟩
theorem asked_none (w:World):Calls Tryz.prog 41 #[.pointer none] w fun x w'=>x= .returned .nilIface∧w=w':=by
  go_enter Tryz.func41,Tryz.ntmps41
  go_wp2
  go_ret
  exact ⟨rfl,rfl⟩
theorem asked_some (p:Nat) (w:World):Calls Tryz.prog 41 #[.pointer (some ⟨p,0,none⟩)] w fun x w'=>x= .returned (.iface 52 (.pointer (some ⟨p,0,none⟩)))∧w=w':=by
  go_enter Tryz.func41,Tryz.ntmps41
  go_wp2
  go_ret
  exact ⟨rfl,rfl⟩
theorem asked_any {w:World} {S:Nat→Prop} {wv iv:Value} {s:Mst} (h:MemW w S wv iv s) (ww:World):Calls Tryz.prog 41 #[wv] ww fun x w'=>x= .returned iv∧ww=w':=by
  obtain ⟨hs,N,m⟩:=s
  cases hs with
  | false=>obtain ⟨rfl,rfl,_⟩:=h; exact asked_none ww
  | true=>obtain ⟨p,rfl,rfl,_⟩:=h; exact asked_some p ww
end Go.Proofs.YtnjlajjjcmhfgaaGreatDoor
namespace Go.Proofs.YtnjlajjjcmhfgaaGreatDoor
open Go.RowKit
open Mm (Turn gr RM valV errV Byts setV RowAt)
set_option linter.unusedVariables false
set_option linter.unusedSimpArgs false
attribute [local go_sem] Oper.semAt_some
def e64 (x:Int):List Value:=[.int .u64 x]
def e32 (x:Int):List Value:=[.int .u32 x]
theorem Sli.one {α:Type} {en:α→List Value} {W w:World} {a:Option Addr} {n cap:Nat} {l:List α} (h:Sli en 1 W (.slice a n cap) l) (hb:Below W.heap.size W w) {i:Nat} {o:α} (ho:l[i]? =some o) {c:Value} (hc:(en o)[0]? =some c) :
    ∃b off,a=some ⟨b,off,none⟩∧b<W.heap.size∧w.cell? ⟨b,off+i,none⟩=some c:=by
  obtain ⟨a',cap',e,h⟩:=h
  cases e
  obtain ⟨b,off,ha,hlt,hh⟩:=h i o ho
  refine ⟨b,off,ha,hlt,?_⟩
  have:=hh 0 c hc
  rw [Nat.mul_one,Nat.add_zero] at this
  exact (hb.cell (p:=⟨b,off+i,none⟩) hlt).trans this
structure MeX (W wr:World) (bx r N:Nat) (l:List Value) (m:Nat→Int):Prop where
  mem:∃S,RM wr S r N m∧∀b,S b→bx<b
  box:Bl wr bx 26 l
  bel:Below W.heap.size W wr
  hx:W.heap.size≤bx
theorem MeX.below {W wr w:World} {bx r N:Nat} {l:List Value} {m:Nat→Int} (h:MeX W wr bx r N l m) (hb:Below wr.heap.size wr w):MeX W w bx r N l m:=by
  obtain ⟨⟨S,h1,h2⟩,h3,h4,h5⟩:=h
  exact ⟨⟨S,h1.keep (S':=fun _=>False) (Turn.below hb) (fun _ _ h=>h),h2⟩,h3.below hb,Below.step h4 hb,h5⟩
theorem MeX.put {W wr:World} {bx r N:Nat} {l:List Value} {m:Nat→Int} (h:MeX W wr bx r N l m) (pa v:Int) (hp:0≤pa∧pa<18446744073709551616) (hv:0≤v∧v<4294967296) :
    Calls Tryz.prog 43 #[.pointer (some ⟨r,0,none⟩),.int .u64 pa,.int .u32 v] wr fun x w'=>x= .returned (.tuple #[])∧MeX W w' bx r N l (putM N m (pa-pa%4) v):=by
  obtain ⟨⟨S,h1,h2⟩,h3,h4,h5⟩:=h
  refine (written_some wr S r N m pa v h1 hp hv).mono ?_
  rintro x w' ⟨rfl,h6,h7⟩
  refine ⟨rfl,⟨_,h6,?_⟩,h3.turn h7 (fun hh=>by have:=h2 _ hh; omega),h4.trans (h7.to (fun x hx=>by have:=h2 x hx; omega) h4.size),h5⟩
  rintro b (hb|⟨hb,_⟩)
  · exact h2 b hb
  · have:=h3.lt; omega
set_option maxRecDepth 100000 in
set_option maxHeartbeats 4000000 in
theorem memory_bad (W:World) (f:Int) (vp vw vc:Value) (h:f<1∨65536<f) :
    Calls Tryz.prog 39 #[.agg #[.int .i64 f,vp,vw,vc]] W fun e w'=>e= .returned (.pointer none)∧Below W.heap.size W w':=by
  have HR:=hidW (fun w=>Mm.rnew_bad w f h)
  have HN:=hidW (fun w=>no_any 1 w)
  have HB:=hidW (below_new W (.cells #[.int .i64 f,vp,vw,vc] 26))
  clear h
  go_enter Tryz.func39,Tryz.ntmps39
  go_wp2_with (first
    | (go_at_call 74; refine (HR.out _).mono ?_; rintro e w1 ⟨rfl,rfl⟩)
    | (go_at_call 21; refine (HN.out _).mono ?_; rintro e w1 ⟨rfl,rfl⟩))
  go_ret
  exact ⟨rfl,HB.out⟩
set_option maxRecDepth 100000 in
set_option maxHeartbeats 8000000 in
theorem memory_ok (W:World) (N:Nat) (h1:1≤N) (h2:N≤65536) (vp vw vc:Value) (pas ws:List Int) (hp:Sli e64 1 W vp pas) (hw:Sli e32 1 W vw ws) (op:∀x∈pas,(0:Int)≤x∧x<18446744073709551616) (ow:∀x∈ws,(0:Int)≤x∧x<4294967296) (lp:pas.length≤4611686018427387904) (lw:ws.length≤4611686018427387904) :
    Calls Tryz.prog 39 #[.agg #[.int .i64 N,vp,vw,vc]] W fun e w'=>∃r,e= .returned (.pointer (some ⟨r,0,none⟩))∧MeX W w' W.heap.size r N [.int .i64 N,vp,vw,vc] (fillM N (pas.zip ws)):=by
  obtain ⟨ap,cp,rfl⟩:=hp.form
  obtain ⟨aw,cw,rfl⟩:=hw.form
  have HP:=hidW hp
  have HW:=hidW hw
  have HOP:=hidW op
  have HOW:=hidW ow
  have HN:=hidW (fun w=>no_any 0 w)
  have hb0:=below_new W (.cells #[.int .i64 N,.slice ap pas.length cp,.slice aw ws.length cw,vc] 26)
  have HB0:=hidW hb0
  have HX0:=hidW (Bl.new W 26 [.int .i64 N,.slice ap pas.length cp,.slice aw ws.length cw,vc])
  have HZ:Hid ((pas.zip ws).length=min pas.length ws.length):=List.length_zip
  clear hp hw op ow hb0
  generalize hP:pas.length=P at *
  generalize hQ:ws.length=Q at *
  have HLP:=hidW hP
  have HLW:=hidW hQ
  clear hP hQ
  generalize hn:(pas.zip ws).length=n at *
  have HLN:=hidW hn
  clear hn
  have i1:1≤(N:Int):=by omega
  have i2:(N:Int)≤65536:=by omega
  go_enter Tryz.func39,Tryz.ntmps39
  go_wp2_with fail
  go_at_call 74
  refine (Mm.rnew_any _ N h1 h2).mono ?_
  rintro e w1 ⟨rfl,g1,T1⟩
  have HM:Hid (MeX W w1 W.heap.size (W.alloc (.cells #[.int .i64 N,.slice ap P cp,.slice aw Q cw,vc] 26)).heap.size N [.int .i64 N,.slice ap P cp,.slice aw Q cw,vc] (fillM N ((pas.zip ws).take 0))):=by
    refine ⟨⟨_,g1,?_⟩,HX0.out.turn T1 (fun h=>h),Below.step HB0.out (T1.to (fun _ h=>h.elim) (Nat.le_refl _)),Nat.le_refl _⟩
    rintro b (hb|⟨hb,_⟩)
    · exact hb.elim
    · simp at hb; omega
  have hsz:(W.alloc (.cells #[.int .i64 N,.slice ap P cp,.slice aw Q cw,vc] 26)).heap.size=W.heap.size+1:=by simp
  rw [hsz] at HM
  clear g1 T1 HX0 HB0
  go_wp2_with (first
    | (go_at_call 21; refine (HN.out _).mono ?_; rintro e w2 ⟨rfl,rfl⟩))
  generalize W.heap.size+1=r at *
  clear hsz
  go_loopw [5] (fun i wr=>∃k:Nat,k≤n∧i= .int .i64 k∧Hid (MeX W wr W.heap.size r N [.int .i64 N,.slice ap P cp,.slice aw Q cw,vc] (fillM N ((pas.zip ws).take k)))) (fun i _=>n-(intOf i).toNat)
  case atStart=>exact ⟨0,Nat.zero_le _,rfl,HM⟩
  case round =>
    obtain ⟨k,hk,rfl,HK⟩:=hrel
    clear HM
    have hmin:=HZ.out
    have c1:=HK.out.box.cell 1
    have c2:=HK.out.box.cell 2
    by_cases hlt:k<n
    · have hkP:(k:Int)<(P:Int):=by omega
      have hkQ:(k:Int)<(Q:Int):=by omega
      have eP:pas[k]? =some (pas[k]'(by rw [HLP.out]; omega)):=List.getElem?_eq_getElem _
      have eQ:ws[k]? =some (ws[k]'(by rw [HLW.out]; omega)):=List.getElem?_eq_getElem _
      generalize pas[k]'(by rw [HLP.out]; omega)=x at *
      generalize ws[k]'(by rw [HLW.out]; omega)=y at *
      have hz:(pas.zip ws)[k]? =some (x,y):=by rw [List.getElem?_zip_eq_some]; exact ⟨eP,eQ⟩
      have HST:=hidW (fillM_step (N:=N) hz)
      obtain ⟨b,off,rfl,hb,_⟩:=HP.out.one (Below.refl _ _) eP (c:= .int .u64 x) rfl
      obtain ⟨b',off',rfl,hb',_⟩:=HW.out.one (Below.refl _ _) eQ (c:= .int .u32 y) rfl
      have HD:=hidW (HK.out.below (below_drew (Below.refl _ wr)))
      have HC:=hidW (HD.out.put x y (HOP.out _ (List.mem_of_getElem? eP)) (HOW.out _ (List.mem_of_getElem? eQ)))
      have HH:Hid (∀w m,MeX W w W.heap.size r N [.int .i64 N,.slice (some ⟨b,off,none⟩) P cp,.slice (some ⟨b',off',none⟩) Q cw,vc] m→w.cell? ⟨W.heap.size,1,none⟩=some (.slice (some ⟨b,off,none⟩) P cp)∧w.cell? ⟨W.heap.size,2,none⟩=some (.slice (some ⟨b',off',none⟩) Q cw)∧w.cell? ⟨b,off+k,none⟩=some (.int .u64 x)∧w.cell? ⟨b',off'+k,none⟩=some (.int .u32 y)):=by
        intro w m h
        obtain ⟨_,_,e1,_,d1⟩:=HP.out.one h.bel eP (c:= .int .u64 x) rfl
        obtain ⟨_,_,e2,_,d2⟩:=HW.out.one h.bel eQ (c:= .int .u32 y) rfl
        cases e1
        cases e2
        exact ⟨h.box.cell 1,h.box.cell 2,d1,d2⟩
      have HJ:=hidW (HH.out _ _ HD.out)
      clear HK eP eQ hz hmin HD
      go_wp2
      go_region_held3 (fun w'=>w'.cell? ⟨W.heap.size,1,none⟩=some (.slice (some ⟨b,off,none⟩) P cp)∧w'.cell? ⟨W.heap.size,2,none⟩=some (.slice (some ⟨b',off',none⟩) Q cw)∧w'.cell? ⟨b,off+k,none⟩=some (.int .u64 x)∧w'.cell? ⟨b',off'+k,none⟩=some (.int .u32 y)) (exact HJ.out) (first
        | (go_at_call 43; refine HC.out.mono ?_; rintro e wa ⟨rfl,hx1⟩; have HJ:=hidW (HH.out _ _ hx1); have HX1:=hidW hx1; clear hx1))
      have HX2:Hid (MeX W wa W.heap.size r N [.int .i64 N,.slice (some ⟨b,off,none⟩) P cp,.slice (some ⟨b',off',none⟩) Q cw,vc] (fillM N ((pas.zip ws).take (k+1)))):=by rw [HST.out]; exact HX1.out
      clear HX1 HST
      go_wp2
      go_roundw
      case rel=>exact ⟨k+1,by omega,by go_num,HX2⟩
      case measure=>simp [intOf]; omega
    · obtain rfl:k=n:=by omega
      rw [show (pas.zip ws).take k=pas.zip ws from by rw [←HLN.out,List.take_length]] at HK
      by_cases hp:k<P
      · have hkP:(k:Int)<(P:Int):=by omega
        have hkQ:¬(k:Int)<(Q:Int):=by omega
        go_wp2
        go_ret
        exact ⟨_,rfl,HK.out⟩
      · have hkP:¬(k:Int)<(P:Int):=by omega
        go_wp2
        go_ret
        exact ⟨_,rfl,HK.out⟩
theorem memory_any (W:World) (f:Int) (vp vw vc:Value) (pas ws:List Int) (hp:Sli e64 1 W vp pas) (hw:Sli e32 1 W vw ws) (op:∀x∈pas,(0:Int)≤x∧x<18446744073709551616) (ow:∀x∈ws,(0:Int)≤x∧x<4294967296) (lp:pas.length≤4611686018427387904) (lw:ws.length≤4611686018427387904) :
    Calls Tryz.prog 39 #[.agg #[.int .i64 f,vp,vw,vc]] W fun e w'=>∃wv iv S,e= .returned wv∧MemW w' S wv iv (memS f (pas.zip ws))∧(∀b,S b→W.heap.size≤b)∧Below W.heap.size W w':=by
  unfold memS
  by_cases h:1≤f∧f≤65536
  · rw [if_pos h]
    have hf:((f.toNat:Nat):Int)=f:=Int.toNat_of_nonneg (by omega)
    have:=memory_ok W f.toNat (by omega) (by omega) vp vw vc pas ws hp hw op ow lp lw
    rw [hf] at this
    refine this.mono ?_
    rintro e w' ⟨r,rfl,⟨⟨S,g1,g2⟩,_,g4,_⟩⟩
    exact ⟨_,_,S,rfl,⟨r,rfl,rfl,g1⟩,fun b hb=>Nat.le_of_lt (g2 b hb),g4⟩
  · rw [if_neg h]
    refine (memory_bad W f vp vw vc (by omega)).mono ?_
    rintro e w' ⟨rfl,hb⟩
    exact ⟨_,.nilIface,fun _=>False,rfl,⟨rfl,rfl,fun _ h=>h⟩,fun _ h=>h.elim,hb⟩
end Go.Proofs.YtnjlajjjcmhfgaaGreatDoor
