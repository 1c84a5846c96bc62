import Derived.Test.YtnjlajjjcmhfgaaGreatDoorTA13
import Derived.Maps.RangeWalk
import Derived.Maps.OwnOps
import Derived.DeepKeys4
import Derived.Test.YtnjlajjjcmhfgaaGreatDoorTA14
namespace Go.Proofs.YtnjlajjjcmhfgaaGreatDoor
open Go.RowKit
set_option linter.unusedVariables false
set_option linter.unusedSimpArgs false
abbrev Jud:Type:=Int→Option Ctx
def setJ (J:Jud) (a:Int) (c:Ctx):Jud:=fun x=>if x=a then some c else J x
def JOk (J:Jud):Prop:=∀a c,J a=some c→(0≤a∧a≤255)∧c.on=true∧c.Ok∧c.asid=a
theorem JOk.set {J:Jud} (h:JOk J) {c:Ctx} (ha:0≤c.asid∧c.asid≤255) (hon:c.on=true) (hc:c.Ok):JOk (setJ J c.asid c):=by
  intro a d hd
  unfold setJ at hd
  split at hd
  · rename_i e
    cases hd
    exact ⟨by omega,hon,hc,e.symm⟩
  · exact h a d hd
structure TrOk (K:List Blo) (J:Jud):Prop where
  ri:Ri K
  ok:∀b∈K,KOk b
  j:JOk J
  own:∀b∈K,b.asid≠ -1→∃c,J b.asid=some c
theorem TrOk.nil:TrOk [] (fun _=>none):=⟨.nil,(fun b hb=>by cases hb),(fun a c h=>by cases h),(fun b hb=>by cases hb)⟩
def seK (M:Mo) (c:Ctx) (K:List Blo):List Blo:=seL c.asid (blL M c) K
theorem TrOk.see {K:List Blo} {J:Jud} {M:Mo} {c:Ctx} (h:TrOk K J) (hM:M.Ok) (hc:c.Ok) (ha:0≤c.asid∧c.asid≤255) (hon:c.on=true):TrOk (seK M c K) (setJ J c.asid c):=by
  refine ⟨seL_ri h.ri,?_,h.j.set ha hon hc,?_⟩
  · intro b hb
    rcases mem_seL.1 hb with hb|⟨t,ht,rfl⟩
    · exact h.ok b hb
    · obtain ⟨va,hv,hw⟩:=(mem_blL hon t).1 ht
      exact tgB_ok hM hc ha hv hw
  · intro b hb hne
    unfold setJ
    rcases mem_seL.1 hb with hb|⟨t,ht,rfl⟩
    · split
      · exact ⟨c,rfl⟩
      · exact h.own b hb hne
    · have:(tgB c.asid t).asid=c.asid:=by
        unfold tgB at hne ⊢
        dsimp only at hne ⊢
        split
        · rfl
        · rename_i hn
          rw [if_neg hn] at hne
          exact absurd rfl hne
      rw [if_pos this]
      exact ⟨c,rfl⟩
def drK (d:Dro) (K:List Blo):List Blo:=K.filter fun b=> !tkF d b
theorem TrOk.sub {K L:List Blo} {J:Jud} (h:TrOk K J) (hs:L.Sublist K):TrOk L J :=
  ⟨h.ri.sublist hs,fun b hb=>h.ok b (hs.subset hb),h.j,fun b hb=>h.own b (hs.subset hb)⟩
theorem TrOk.drop {K:List Blo} {J:Jud} (h:TrOk K J) (d:Dro):TrOk (drK d K) J:=h.sub List.filter_sublist
def stF (M:Mo) (K:List Blo) (J:Jud) (asid va:Int):Bool :=
  match J asid with
  | none=>false
  | some c=>K.any fun b=> !(b.t.same (wk M c va).1) && ovF b va asid
def diF (M:Mo) (J:Jud) (a:Int) (b:Blo):Bool :=
  match J a with
  | none=>false
  | some c=>hoF b a && !smF M c b.t
def diA (M:Mo) (K:List Blo) (J:Jud) (a:Int):List Dir:=(K.filter (diF M J a)).map fun b=>⟨a,b⟩
def diL (M:Mo) (K:List Blo) (J:Jud):List Dir:=(List.range 256).flatMap fun (a:Nat)=>diA M K J a
theorem mem_diA {M:Mo} {K:List Blo} {J:Jud} {a:Int} {x:Dir}:x∈diA M K J a↔x.asid=a∧x.b∈K∧diF M J a x.b=true:=by
  unfold diA
  rw [List.mem_map]
  constructor
  · rintro ⟨b,hb,rfl⟩
    have:=List.mem_filter.1 hb
    exact ⟨rfl,this.1,this.2⟩
  · rintro ⟨h1,h2,h3⟩
    refine ⟨x.b,List.mem_filter.2 ⟨h2,h3⟩,?_⟩
    obtain ⟨xa,xb⟩:=x
    dsimp only at h1 ⊢
    rw [h1]
theorem mem_diL {M:Mo} {K:List Blo} {J:Jud} (hJ:JOk J) {x:Dir}:x∈diL M K J↔x.b∈K∧diF M J x.asid x.b=true:=by
  unfold diL
  rw [List.mem_flatMap]
  constructor
  · rintro ⟨a,_,hx⟩
    obtain ⟨h1,h2,h3⟩:=mem_diA.1 hx
    rw [h1]
    exact ⟨h2,h3⟩
  · rintro ⟨h2,h3⟩
    have h4:∃c,J x.asid=some c:=by
      unfold diF at h3
      split at h3
      · cases h3
      · rename_i c hc; exact ⟨c,hc⟩
    obtain ⟨c,hc⟩:=h4
    have h5:=(hJ _ _ hc).1
    refine ⟨x.asid.toNat,List.mem_range.2 (by omega),mem_diA.2 ⟨by omega,h2,?_⟩⟩
    rw [Int.toNat_of_nonneg h5.1]
    exact h3
theorem diL_rising {M:Mo} {K:List Blo} {J:Jud} (h:Ri K):(diL M K J).Pairwise fun a b=>ltD a b=true:=by
  unfold diL
  rw [List.pairwise_flatMap]
  refine ⟨fun a _=> ?_,?_⟩
  · unfold diA
    rw [List.pairwise_map]
    have h':(K.filter (diF M J a)).Pairwise (fun a b=>ltB a b=true):=List.Pairwise.filter _ h
    exact h'.imp (fun {x y} hxy=>(ltD_iff ⟨a,x⟩ ⟨a,y⟩).2 (.inr ⟨rfl,hxy⟩))
  · refine (List.pairwise_lt_range (n:=256)).imp ?_
    intro a b hab x hx y hy
    rw [ltD_iff]
    left
    rw [(mem_diA.1 hx).1,(mem_diA.1 hy).1]
    omega
def soB (l:List Blo):List Blo:=l.mergeSort fun x y=> !ltB y x
def soD (l:List Dir):List Dir:=l.mergeSort fun x y=> !ltD y x
theorem soB_eq {l K:List Blo} (hd:l.Nodup) (hK:Ri K) (h:∀b,b∈l↔b∈K):soB l=K:=so_eq ltB_irrefl ltB_trans ltB_tot ltB_ntrans hd hK h
theorem soD_eq {l m:List Dir} (hd:l.Nodup) (hm:m.Pairwise fun a b=>ltD a b=true) (h:∀b,b∈l↔b∈m):soD l=m:=so_eq ltD_irrefl ltD_trans ltD_tot ltD_ntrans hd hm h
theorem nodup_len {α:Type}:∀ {l m:List α},l.Nodup→(∀x∈l,x∈m)→l.length≤m.length
  | [],_,_,_=>by simp
  | x::l,m,hd,h=>by
    have h1:=List.pairwise_cons.1 hd
    obtain ⟨a,b,rfl⟩:=List.append_of_mem (h x (.head _))
    have:=nodup_len (l:=l) (m:=a++b) h1.2 (fun y hy=>by
      have h2:=h y (.tail _ hy)
      rcases List.mem_append.1 h2 with h2|h2
      · exact List.mem_append_left _ h2
      · rcases List.mem_cons.1 h2 with rfl|h2
        · exact absurd rfl (h1.1 y hy)
        · exact List.mem_append_right _ h2)
    simp at this ⊢
    omega
end Go.Proofs.YtnjlajjjcmhfgaaGreatDoor
namespace Go.Proofs.YtnjlajjjcmhfgaaGreatDoor
open Go.RowKit
open Mm (Turn)
open Go.Maps (Keyed)
set_option linter.unusedVariables false
set_option linter.unusedSimpArgs false
theorem lawI:Keyed Tryz.prog 3:=Maps.int_keyed Tryz.underlying3
theorem lawB:Keyed Tryz.prog 45:=Maps.Keyed.of_law (deep_law (m:=4) (by omega) (by kernel_rfl) (by kernel_rfl) (by kernel_rfl))
theorem wf64 {n:Int} (h1: -9223372036854775808≤n) (h2:n≤9223372036854775807):(Lit.int .i64 n).wf=true:=by
  simp only [Lit.wf,Bool.and_eq_true,decide_eq_true_eq]
  exact ⟨h1,h2⟩
theorem wfU {n:Int} (h1:0≤n) (h2:n<18446744073709551616):(Lit.int .u64 n).wf=true:=by
  simp only [Lit.wf,Bool.and_eq_true,decide_eq_true_eq]
  exact ⟨h1,Int.le_of_lt_add_one h2⟩
theorem wfW {n:Int} (h1:0≤n) (h2:n<4294967296):(Lit.int .u32 n).wf=true:=by
  simp only [Lit.wf,Bool.and_eq_true,decide_eq_true_eq]
  exact ⟨h1,Int.le_of_lt_add_one h2⟩
def kB (b:Blo):Lit:= .string (keyBytes [.int .i64 b.asid,.int .i64 b.t.size,.int .u32 b.t.va,.int .u64 b.t.pa,.int .i64 b.t.dom,.int .i64 b.t.ap,.int .u32 b.t.bits,.bool b.t.ng,.bool b.t.xn])
theorem typesN:Tryz.prog.types.size=320:=by kernel_rfl
theorem typesM:∃m,Tryz.prog.types.size=m+4:=⟨Tryz.prog.types.size-4,by rw [typesN]⟩
theorem keyTB:Tryz.prog.keyType 45=true:=by
  unfold Program.keyType
  rw [typesN]
  kernel_rfl
theorem cellsB:Tryz.prog.cellsOf 45=9:=by kernel_rfl
theorem cellsT:Tryz.prog.cellsOf 43=8:=by kernel_rfl
theorem cellsL:Tryz.prog.cellsOf 41=4:=by kernel_rfl
theorem cellsI:Tryz.prog.cellsOf 3=1:=by kernel_rfl
theorem cellsW:Tryz.prog.cellsOf 32=1:=by kernel_rfl
theorem cellsU:Tryz.prog.cellsOf 35=1:=by kernel_rfl
theorem cellsO:Tryz.prog.cellsOf 4=1:=by kernel_rfl
theorem kl_struct {P : Program} {d : Nat} {t : TypeId} {cs : List Value} {fs : Array Field} (hu : P.underlying t = some (.struct fs)) (hl : cs.length = P.cellsOf t) (ha : fs.all (·.name != "_") = true) :
    P.keyLits (d+1) t cs=(fs.toList.mapM fun f=>P.keyLits d f.type ((cs.drop f.offset).take (P.cellsOf f.type))).map List.flatten:=by
  conv=>lhs; unfold Program.keyLits
  simp only [hu]
  rw [if_pos ⟨hl,ha⟩]
theorem kl_int {P:Program} {d:Nat} {t:TypeId} {q:IntKind} {n:Int} (hu:P.underlying t=some (.int q)) (hw:(Lit.int q n).wf=true):P.keyLits (d+1) t [.int q n]=some [.int q n]:=by
  conv=>lhs; unfold Program.keyLits
  simp only [hu]
  rw [if_pos (by simp [hw])]
theorem kl_bool {P:Program} {d:Nat} {t:TypeId} {n:Bool} (hu:P.underlying t=some .bool):P.keyLits (d+1) t [.bool n]=some [.bool n]:=by
  conv=>lhs; unfold Program.keyLits
  simp only [hu]
theorem keyB {b:Blo} (h:KOk b):keyOf Tryz.prog 45 (.agg #[.int .i64 b.asid,.int .i64 b.t.size,.int .u32 b.t.va,.int .u64 b.t.pa,.int .i64 b.t.dom,.int .i64 b.t.ap,.int .u32 b.t.bits,.bool b.t.ng,.bool b.t.xn])=some (kB b):=by
  have h1:=h.sa
  have h2:=h.dom
  have h3:=h.ap
  have h4:=h.sz
  have w1:=wf64 (n:=b.asid) (by omega) (by omega)
  have w2:=wf64 (n:=b.t.size) (by omega) (by omega)
  have w3:=wfW h.ok.va.1 h.ok.va.2
  have w4:=wfU h.ok.pa.1 h.ok.pa.2
  have w5:=wf64 (n:=b.t.dom) (by omega) (by omega)
  have w6:=wf64 (n:=b.t.ap) (by omega) (by omega)
  have w7:=wfW h.ok.bits.1 h.ok.bits.2
  obtain ⟨m,hm⟩:=typesM
  have hL:Tryz.prog.keyLits (m+2+1) 41 [.int .i64 b.t.ap,.int .u32 b.t.bits,.bool b.t.ng,.bool b.t.xn]=some [.int .i64 b.t.ap,.int .u32 b.t.bits,.bool b.t.ng,.bool b.t.xn]:=by
    rw [kl_struct Tryz.underlying41 (by rw [cellsL]; rfl) (by kernel_rfl)]
    simp only [List.mapM_cons,List.mapM_nil,cellsI,cellsW,cellsO,List.drop_zero,List.drop_succ_cons,List.take_succ_cons,List.take_zero]
    rw [kl_int (d:=m+1) Tryz.underlying3 w6,kl_int (d:=m+1) Tryz.underlying32 w7,kl_bool (d:=m+1) Tryz.underlying4,kl_bool (d:=m+1) Tryz.underlying4]
    rfl
  have hT:Tryz.prog.keyLits (m+3+1) 43 ([.int .i64 (b.t).size,.int .u32 (b.t).va,.int .u64 (b.t).pa,.int .i64 (b.t).dom,.int .i64 (b.t).ap,.int .u32 (b.t).bits,.bool (b.t).ng,.bool (b.t).xn])=some [.int .i64 b.t.size,.int .u32 b.t.va,.int .u64 b.t.pa,.int .i64 b.t.dom,.int .i64 b.t.ap,.int .u32 b.t.bits,.bool b.t.ng,.bool b.t.xn]:=by
    rw [kl_struct Tryz.underlying43 (by rw [cellsT]; rfl) (by kernel_rfl)]
    simp only [List.mapM_cons,List.mapM_nil,cellsI,cellsW,cellsU,cellsL,List.drop_zero,List.drop_succ_cons,List.take_succ_cons,List.take_zero]
    rw [kl_int (d:=m+2) Tryz.underlying3 w2,kl_int (d:=m+2) Tryz.underlying32 w3,kl_int (d:=m+2) Tryz.underlying35 w4,kl_int (d:=m+2) Tryz.underlying3 w5,hL]
    rfl
  unfold keyOf
  simp only [Tryz.underlying45]
  rw [if_pos (by simp [keyTB,Value.formed,Tryz.underlying45,cellsB]),hm]
  show (Tryz.prog.keyLits (m+4+1) 45 ([.int .i64 b.asid,.int .i64 b.t.size,.int .u32 b.t.va,.int .u64 b.t.pa,.int .i64 b.t.dom,.int .i64 b.t.ap,.int .u32 b.t.bits,.bool b.t.ng,.bool b.t.xn])).map _=_
  rw [kl_struct Tryz.underlying45 (by rw [cellsB]; rfl) (by kernel_rfl)]
  simp only [List.mapM_cons,List.mapM_nil,cellsI,cellsT,List.drop_zero,List.drop_succ_cons,List.take_succ_cons,List.take_zero]
  rw [kl_int (d:=m+3) Tryz.underlying3 w1,hT]
  rfl
theorem kB_inj {a b:Blo} (ha:KOk a) (hb:KOk b) (h:kB a=kB b):a=b:=by
  have e:=lawB.inj (keyB ha) (h▸keyB hb)
  obtain ⟨a0,a1,a2,a3,a4,a5,a6,a7,a8⟩:=a
  obtain ⟨b0,b1,b2,b3,b4,b5,b6,b7,b8⟩:=b
  simp only [Value.agg.injEq,Array.mk.injEq,List.cons.injEq,Value.int.injEq,true_and,and_true,Value.bool.injEq] at e
  obtain ⟨e0,e1,e2,e3,e4,e5,e6,e7,e8⟩:=e
  subst e0; subst e1; subst e2; subst e3; subst e4; subst e5; subst e6; subst e7; subst e8
  rfl
theorem kB_key {b:Blo}:WideAt.IsKeyLit (kB b):=by unfold kB; trivial
abbrev uE:Value→Option (DataW Unit×List MemPlace):=unitElem
def KM (w:World) (kb:Nat) (K:List Blo):Prop:=∃n D,w.ownsMap Tryz.prog 45 uE kb n D∧∀l,Maps.has D l=true↔∃b∈K,l=kB b
def KR (w:World) (kb r:Nat) (K T:List Blo):Prop :=
  ∃n D left cnt,w.ranges Tryz.prog 45 uE kb r n D left cnt∧(∀l,Maps.has D l=true↔∃b∈K,l=kB b)∧∀l,left l=true↔∃b∈T,l=kB b
def rH (v:Value):Option (DataW Value×List MemPlace):=some (.held v,[])
def lJ (a:Int):Lit:= .int .i64 a
def JM (w:World) (jb:Nat) (J:Jud):Prop :=
  ∃n D,w.ownsMap Tryz.prog 3 rH jb n D∧(∀l,Maps.has D l=true↔∃a c,J a=some c∧l=lJ a)∧∀a c,J a=some c→∀z,D.atKey (lJ a) z= .held (.agg #[.bool c.on,.bool c.tre,.bool c.afe,.int .i64 c.n,.bool c.pd0,.bool c.pd1,.int .u64 c.b0,.int .u64 c.b1,.int .u32 c.dacr,.int .u32 c.prrr,.int .u32 c.nmrr,.int .i64 c.asid])
def JR (w:World) (jb r:Nat) (J:Jud) (T:List Int):Prop :=
  ∃n D left cnt,w.ranges Tryz.prog 3 rH jb r n D left cnt∧(∀l,Maps.has D l=true↔∃a c,J a=some c∧l=lJ a)∧(∀a c,J a=some c→∀z,D.atKey (lJ a) z= .held (.agg #[.bool c.on,.bool c.tre,.bool c.afe,.int .i64 c.n,.bool c.pd0,.bool c.pd1,.int .u64 c.b0,.int .u64 c.b1,.int .u32 c.dacr,.int .u32 c.prrr,.int .u32 c.nmrr,.int .i64 c.asid]))∧∀l,left l=true↔∃a∈T,l=lJ a
theorem KM.lt {w:World} {kb:Nat} {K:List Blo} (h:KM w kb K):kb<w.heap.size:=by obtain ⟨n,D,h,_⟩:=h; exact h.lt
theorem JM.lt {w:World} {jb:Nat} {J:Jud} (h:JM w jb J):jb<w.heap.size:=by obtain ⟨n,D,h,_⟩:=h; exact h.lt
theorem KM.turn {w w':World} {kb:Nat} {K:List Blo} {X:Nat→Prop} (h:KM w kb K) (T:Turn X w w') (hn:¬X kb):KM w' kb K:=by
  have hl:=h.lt
  obtain ⟨n,D,⟨es,cl,hb,r⟩,h2⟩:=h
  exact ⟨n,D,⟨es,cl,(T.block kb hl hn).trans hb,r⟩,h2⟩
theorem JM.turn {w w':World} {jb:Nat} {J:Jud} {X:Nat→Prop} (h:JM w jb J) (T:Turn X w w') (hn:¬X jb):JM w' jb J:=by
  have hl:=h.lt
  obtain ⟨n,D,⟨es,cl,hb,r⟩,h2⟩:=h
  exact ⟨n,D,⟨es,cl,(T.block jb hl hn).trans hb,r⟩,h2⟩
theorem KR.lt {w:World} {kb r:Nat} {K T:List Blo} (h:KR w kb r K T):r<w.heap.size∧kb<w.heap.size:=by obtain ⟨n,D,l,c,h,_⟩:=h; exact ⟨h.lt,h.owns.lt⟩
theorem JR.lt {w:World} {jb r:Nat} {J:Jud} {T:List Int} (h:JR w jb r J T):r<w.heap.size∧jb<w.heap.size:=by obtain ⟨n,D,l,c,h,_⟩:=h; exact ⟨h.lt,h.owns.lt⟩
theorem KR.turn {w w':World} {kb r:Nat} {K T:List Blo} {X:Nat→Prop} (h:KR w kb r K T) (hT:Turn X w w') (hn:¬X kb) (hr:¬X r):KR w' kb r K T:=by
  obtain ⟨l1,l2⟩:=h.lt
  obtain ⟨n,D,left,cnt,⟨es,cl,since,seen,c0,hb,f,s,d,hi,rest⟩,h2⟩:=h
  exact ⟨n,D,left,cnt,⟨es,cl,since,seen,c0,(hT.block kb l2 hn).trans hb,f,s,d,(hT.block r l1 hr).trans hi,rest⟩,h2⟩
theorem JR.turn {w w':World} {jb r:Nat} {J:Jud} {T:List Int} {X:Nat→Prop} (h:JR w jb r J T) (hT:Turn X w w') (hn:¬X jb) (hr:¬X r):JR w' jb r J T:=by
  obtain ⟨l1,l2⟩:=h.lt
  obtain ⟨n,D,left,cnt,⟨es,cl,since,seen,c0,hb,f,s,d,hi,rest⟩,h2⟩:=h
  exact ⟨n,D,left,cnt,⟨es,cl,since,seen,c0,(hT.block jb l2 hn).trans hb,f,s,d,(hT.block r l1 hr).trans hi,rest⟩,h2⟩
theorem KR.km {w:World} {kb r:Nat} {K T:List Blo} (h:KR w kb r K T):KM w kb K:=by obtain ⟨n,D,l,c,h,h2,_⟩:=h; exact ⟨n,D,h.owns,h2⟩
theorem turn_left {w w':World} {b r:Nat} {X:Nat→Prop} (hT:Turn X w w') (hb:b<w.heap.size) (hr:r<w.heap.size) (h1:¬X b) (h2:¬X r):w'.rangeLeft b r=w.rangeLeft b r:=by
  unfold World.rangeLeft
  rw [hT.block b hb h1,hT.block r hr h2]
theorem keys_len {H α:Type} {es:List (Lit×DataW H)} {L:List α} {f:α→Lit} (hp:es.Pairwise (fun p q=>p.1≠q.1)) (hk:∀p∈es,WideAt.IsKeyLit p.1) (hn:L.Nodup) (hf:∀a∈L,∀b∈L,f a=f b→a=b)
    (h:∀l,Maps.has (.map es) l=true↔∃b∈L,l=f b):es.length=L.length:=by
  have h1:(es.map (·.1)).Nodup:=by
    unfold List.Nodup
    rw [List.pairwise_map]
    exact hp
  have h2:(L.map f).Nodup:=by
    unfold List.Nodup
    rw [List.pairwise_map]
    exact hn.imp_of_mem (fun ha hb hne e=>hne (hf _ ha _ hb e))
  have h3:∀x∈es.map (·.1),x∈L.map f:=by
    intro x hx
    obtain ⟨p,hp',rfl⟩:=List.mem_map.1 hx
    obtain ⟨b,hb,e⟩:=(h p.1).1 (by
      rw [Maps.has_eq,List.any_eq_true]
      exact ⟨p,hp',WideAt.sameKey_self (hk p hp')⟩)
    exact List.mem_map.2 ⟨b,hb,e.symm⟩
  have h4:∀x∈L.map f,x∈es.map (·.1):=by
    intro x hx
    obtain ⟨b,hb,rfl⟩:=List.mem_map.1 hx
    have:=(h (f b)).2 ⟨b,hb,rfl⟩
    rw [Maps.has_eq,List.any_eq_true] at this
    obtain ⟨p,hp',e⟩:=this
    exact List.mem_map.2 ⟨p,hp',WideAt.sameKey_eq e⟩
  have g1:=nodup_len h1 h3
  have g2:=nodup_len h2 h4
  simp only [List.length_map] at g1 g2
  omega
theorem own_size {H α:Type} {k:TypeId} {R:Value→Option (DataW H×List MemPlace)} {w:World} {b n:Nat} {D:DataW H} {L:List α} {f:α→Lit} (h:w.ownsMap Tryz.prog k R b n D) (Kd:Keyed Tryz.prog k) (hn:L.Nodup) (hf:∀a∈L,∀b∈L,f a=f b→a=b)
    (hh:∀l,Maps.has D l=true↔∃b∈L,l=f b):Maps.size D=L.length:=by
  obtain ⟨es,rfl,hp,hk⟩:=h.entries Kd
  exact keys_len hp hk hn hf hh
theorem own_tight {H:Type} {k:TypeId} {R:Value→Option (DataW H×List MemPlace)} {w:World} {b n:Nat} {D:DataW H} (h:w.ownsMap Tryz.prog k R b n D) {N:Nat} (hN:Maps.size D≤N):w.ownsMap Tryz.prog k R b N D:=by
  obtain ⟨es,cl,hb,F,hs,rfl⟩:=h
  refine ⟨es,cl,hb,F,?_,rfl⟩
  rwa [Maps.size_eq,length_sorted,List.length_map,Array.length_toList] at hN
theorem KM.size {w:World} {kb:Nat} {K:List Blo} (h:KM w kb K) (hn:K.Nodup) (hK:∀b∈K,KOk b):∃D,w.ownsMap Tryz.prog 45 uE kb K.length D∧(∀l,Maps.has D l=true↔∃b∈K,l=kB b)∧Maps.size D=K.length:=by
  obtain ⟨n,D,h,hh⟩:=h
  have hs:=own_size h lawB hn (fun a ha b hb e=>kB_inj (hK a ha) (hK b hb) e) hh
  exact ⟨D,own_tight h (by omega),hh,hs⟩
theorem KM.made (w:World):KM (w.alloc (.map #[] 0)) w.heap.size []:=⟨0,.map [],World.ownsMap_made w _ _ _,fun l=>by simp [Maps.has]⟩
theorem JM.made (w:World):JM (w.alloc (.map #[] 0)) w.heap.size (fun _=>none):=⟨0,.map [],World.ownsMap_made w _ _ _,fun l=>by simp [Maps.has],fun a c h=>by cases h⟩
theorem KM.put {w:World} {kb:Nat} {K:List Blo} {b:Blo} (h:KM w kb K) (hn:K.Nodup) (hK:∀b∈K,KOk b) (hb:KOk b) (hl:K.length<4611686018427387904) :
    ∃w',(Instr.mapUpdate 115 (.map (some kb)) (.agg #[.int .i64 b.asid,.int .i64 b.t.size,.int .u32 b.t.va,.int .u64 b.t.pa,.int .i64 b.t.dom,.int .i64 b.t.ap,.int .u32 b.t.bits,.bool b.t.ng,.bool b.t.xn]) (.agg #[])).run Tryz.prog w= .ok () w'∧KM w' kb (adB K b)∧w.grownBy w' (some kb):=by
  obtain ⟨D,h1,h2,h3⟩:=h.size hn hK
  obtain ⟨w',hr,ho,hg⟩:=h1.update lawB Tryz.underlying115 (by unfold maxLen; omega) (keyB hb) unitElem_mk
  refine ⟨w',hr,⟨_,_,ho,fun l=> ?_⟩,hg⟩
  by_cases e:l=kB b
  · subst e
    rw [Maps.has_put_same h1.isMap kB_key]
    exact ⟨fun _=>⟨b,(mem_adB K).2 (.inl rfl),rfl⟩,fun _=>rfl⟩
  · rw [Maps.has_put_other e,h2]
    constructor
    · rintro ⟨x,hx,rfl⟩
      exact ⟨x,(mem_adB K).2 (.inr hx),rfl⟩
    · rintro ⟨x,hx,rfl⟩
      rcases (mem_adB K).1 hx with rfl|hx
      · exact absurd rfl e
      · exact ⟨x,hx,rfl⟩
theorem KM.range {w:World} {kb:Nat} {K:List Blo} (h:KM w kb K) :
    ∃w',(Instr.range 115 (.map (some kb))).run Tryz.prog w= .ok (.pointer (some ⟨w.heap.size,0,none⟩)) w'∧KR w' kb w.heap.size K K∧w.grownBy w' none∧w'.heap.size=w.heap.size+1:=by
  obtain ⟨n,D,h1,h2⟩:=h
  obtain ⟨w',hr,g1,g2,g3⟩:=h1.range lawB Tryz.underlying115
  exact ⟨w',hr,⟨n,D,_,_,g1,h2,h2⟩,g2,g3⟩
def rm (T:List Blo) (b:Blo):List Blo:=T.filter fun x=> !x.same b
theorem mem_rm {T:List Blo} {b x:Blo}:x∈rm T b↔x∈T∧x≠b:=by
  unfold rm
  rw [List.mem_filter]
  constructor
  · rintro ⟨h1,h2⟩
    exact ⟨h1,fun e=>by rw [e,Blo.same_self] at h2; cases h2⟩
  · rintro ⟨h1,h2⟩
    refine ⟨h1,?_⟩
    cases hc:x.same b with
    | false=>rfl
    | true=>exact absurd ((Blo.same_iff _ _).1 hc) h2
theorem left_rm {left:Lit→Bool} {T:List Blo} {b:Blo} (hT:∀x∈T,KOk x) (hb:KOk b) (h:∀l,left l=true↔∃b∈T,l=kB b) (l:Lit):(left l && !l.sameKey (kB b))=true↔∃x∈rm T b,l=kB x:=by
  rw [Bool.and_eq_true,h]
  constructor
  · rintro ⟨⟨x,hx,rfl⟩,hne⟩
    refine ⟨x,mem_rm.2 ⟨hx,?_⟩,rfl⟩
    rintro rfl
    rw [WideAt.sameKey_self kB_key] at hne
    cases hne
  · rintro ⟨x,hx,rfl⟩
    obtain ⟨h1,h2⟩:=mem_rm.1 hx
    refine ⟨⟨x,h1,rfl⟩,?_⟩
    rw [Maps.sameKey_ne (fun e=>h2 (kB_inj (hT x h1) hb e))]
    rfl
theorem KR.next {w:World} {kb r:Nat} {K T:List Blo} (h:KR w kb r K T) (hT:∀x∈T,KOk x) (ty:TypeId) :
    (T=[]∧(Instr.next (.pointer (some ⟨r,0,none⟩)) false ty).run Tryz.prog w= .ok (.tuple #[.bool false]) w)∨
    ∃b w',b∈T∧(Instr.next (.pointer (some ⟨r,0,none⟩)) false ty).run Tryz.prog w= .ok (.tuple #[.bool true,.agg #[.int .i64 b.asid,.int .i64 b.t.size,.int .u32 b.t.va,.int .u64 b.t.pa,.int .i64 b.t.dom,.int .i64 b.t.ap,.int .u32 b.t.bits,.bool b.t.ng,.bool b.t.xn],.agg #[]]) w'∧KR w' kb r K (rm T b)∧w.grownBy w' (some r)∧w'.heap.size=w.heap.size∧
      (Instr.entry (.pointer (some ⟨r,0,none⟩))).run Tryz.prog w'= .ok (.tuple #[.agg #[.int .i64 b.asid,.int .i64 b.t.size,.int .u32 b.t.va,.int .u64 b.t.pa,.int .i64 b.t.dom,.int .i64 b.t.ap,.int .u32 b.t.bits,.bool b.t.ng,.bool b.t.xn],.agg #[]]) w'∧w'.rangeLeft kb r<w.rangeLeft kb r:=by
  obtain ⟨n,D,left,cnt,h1,h2,h3⟩:=h
  rcases h1.next lawB ty with ⟨_,hl,hr⟩|⟨key,v,kl,y,w',cnt',hkey,hlk,hv,hat,hr,hrg,hlt,hg,hs,hen⟩
  · refine .inl ⟨?_,hr⟩
    cases T with
    | nil=>rfl
    | cons b T =>
      have:=(h3 (kB b)).2 ⟨b,.head _,rfl⟩
      rw [hl] at this
      cases this
  · obtain ⟨b,hb,rfl⟩:=(h3 kl).1 hlk
    have e:=lawB.inj hkey (keyB (hT b hb))
    subst e
    obtain ⟨rfl,_⟩:=unitElem_inv hv
    refine .inr ⟨b,w',hb,hr,⟨n,D,_,_,hrg,h2,left_rm hT (hT b hb) h3⟩,hg,hs,hen,?_⟩
    rw [hrg.left_eq,h1.left_eq]
    exact hlt
theorem KR.drop {w:World} {kb r:Nat} {K T:List Blo} {b:Blo} (h:KR w kb r K T) (hK:∀x∈K,KOk x) (hT:∀x∈T,KOk x) (hb:KOk b) (ty:TypeId) :
    ∃w',(Builtin.delete_ #[115,45] ty #[.map (some kb),.agg #[.int .i64 b.asid,.int .i64 b.t.size,.int .u32 b.t.va,.int .u64 b.t.pa,.int .i64 b.t.dom,.int .i64 b.t.ap,.int .u32 b.t.bits,.bool b.t.ng,.bool b.t.xn]]).run Tryz.prog w= .ok (.tuple #[]) w'∧KR w' kb r (rm K b) (rm T b)∧w.grownBy w' (some kb)∧w'.rangeLeft kb r≤w.rangeLeft kb r:=by
  obtain ⟨n,D,left,cnt,h1,h2,h3⟩:=h
  obtain ⟨w',cnt',hr,hrg,hle,hm⟩:=h1.drop lawB Tryz.underlying115 (keyB hb) ty
  refine ⟨w',hr,⟨n,_,_,_,hrg,fun l=> ?_,left_rm hT hb h3⟩,hm.grown,?_⟩
  · by_cases e:l=kB b
    · subst e
      rw [Maps.has_del_same]
      constructor
      · intro h; cases h
      · rintro ⟨x,hx,e⟩
        obtain ⟨g1,g2⟩:=mem_rm.1 hx
        exact absurd (kB_inj (hK x g1) hb e.symm) g2
    · rw [Maps.has_del_other e,h2]
      constructor
      · rintro ⟨x,hx,rfl⟩
        exact ⟨x,mem_rm.2 ⟨hx,fun e'=>e (by rw [e'])⟩,rfl⟩
      · rintro ⟨x,hx,rfl⟩
        exact ⟨x,(mem_rm.1 hx).1,rfl⟩
  · rw [hrg.left_eq,h1.left_eq]
    exact hle
end Go.Proofs.YtnjlajjjcmhfgaaGreatDoor
namespace Go.Proofs.YtnjlajjjcmhfgaaGreatDoor
open Go.RowKit
open Mm (Byts)
set_option linter.unusedVariables false
set_option linter.unusedSimpArgs false
def mI (A:Int) (n:Nat):Int:=A%2^(14-n) / 4
theorem cl_mod (b:Int) (k:Nat) (r:Int) (h0:0≤r) (h:r<2^k):(cl b k+r)%2^k=r:=by
  unfold cl
  rw [Int.add_comm,Int.add_mul_emod_self_right]
  exact Int.emod_eq_of_lt h0 h
theorem fA_mI {c:Ctx} {va:Int} (hv:0≤va∧va<4294967296):∃n,n<8∧mI (fA c va) n=va / 1048576:=by
  unfold fA
  by_cases h:lw c va=true
  · rw [if_pos h]
    refine ⟨nN c,by have:=nN_lt c; omega,?_⟩
    unfold mI
    rw [cl_mod _ _ _ (by omega) (lw_idx hv.1 h)]
    omega
  · rw [if_neg h]
    refine ⟨0,by omega,?_⟩
    unfold mI
    rw [Nat.sub_zero,cl_mod _ _ _ (by omega) (by show 4*(va / 1048576)<16384; omega)]
    omega
def tA (M:Mo) (A va:Int):Tra:=if (D1 (M.wd A)).kind=1 then (w2 M (D1 (M.wd A)) va).1 else trF (D1 (M.wd A)) 0 va
theorem wk_tA {M:Mo} {c:Ctx} {va:Int} {t:Tra} (hon:c.on=true) (h:wk M c va=(t,fZ)):t=tA M (fA c va) va∧M.er (fA c va)=0∧(D1 (M.wd (fA c va))).kind≠0∧fO c va=true∧((D1 (M.wd (fA c va))).kind=1→w2 M (D1 (M.wd (fA c va))) va=(t,fZ)):=by
  unfold wk at h
  rw [if_pos hon] at h
  split at h
  · rename_i h1
    obtain ⟨e1,e2,e3,e4⟩:=w1_kind h1
    rw [e3] at h
    dsimp only at h
    unfold tA
    split at h
    · rename_i h2
      rw [if_pos h2,h]
      exact ⟨rfl,e2,e4,e1,fun _=>rfl⟩
    · rename_i h2
      rw [if_neg h2]
      exact ⟨(Prod.mk.inj h).1.symm,e2,e4,e1,fun h3=>absurd h3 h2⟩
  · rename_i h1
    exact absurd (by rw [(Prod.mk.inj h).2]; rfl) h1
theorem tA_page {M:Mo} {A va vb:Int} (h:va / 4096=vb / 4096):tA M A va=tA M A vb:=by
  unfold tA
  have:w2 M (D1 (M.wd A)) va=w2 M (D1 (M.wd A)) vb:=by
    unfold w2 sA
    rw [h,tr_page h]
  rw [this,tr_page h]
def li1 (M:Mo) (A:Int):List Tra:=(List.range 8).flatMap fun (n:Nat)=>(List.range 256).map fun (j:Nat)=>tA M A (mI A n*1048576+(j:Int)*4096)
theorem flat_len {α β:Type} {f:α→List β} {k:Nat}:∀ {l:List α},(∀a∈l,(f a).length=k)→(l.flatMap f).length=l.length*k
  | [],_=>by simp
  | a::l,h=>by
    have ih:=flat_len (f:=f) (k:=k) (l:=l) (fun b hb=>h b (.tail _ hb))
    rw [List.flatMap_cons,List.length_append,ih,h a (.head _),List.length_cons,Nat.add_mul]
    omega
theorem li1_len (M:Mo) (A:Int):(li1 M A).length=2048:=by
  unfold li1
  rw [flat_len (k:=256) (fun a _=>by simp)]
  simp
theorem mem_li1 {M:Mo} {c:Ctx} {va:Int} {t:Tra} (hon:c.on=true) (hv:0≤va∧va<4294967296) (h:wk M c va=(t,fZ)):t∈li1 M (fA c va):=by
  obtain ⟨e,_⟩:=wk_tA hon h
  obtain ⟨n,hn,hm⟩:=fA_mI (c:=c) hv
  unfold li1
  refine List.mem_flatMap.2 ⟨n,List.mem_range.2 hn,List.mem_map.2 ⟨(va / 4096%256).toNat,List.mem_range.2 (by omega),?_⟩⟩
  rw [e]
  refine tA_page ?_
  rw [hm]
  omega
def li2 (y A:Int):List Tra:=(List.range 4096).flatMap fun (m:Nat)=>(List.range 16).map fun (d:Nat)=>trF (D2 y) d ((m:Int)*1048576+A / 4%256*4096)
theorem li2_len (y A:Int):(li2 y A).length=65536:=by
  unfold li2
  rw [flat_len (k:=16) (fun a _=>by simp)]
  simp
def Wc (M:Mo) (U:List Tra):Prop:=∀c va t,c.Ok→c.on=true→(0≤va∧va<4294967296)→wk M c va=(t,fZ)→t.ng=false→t∈U
theorem Wc.nil:Wc nilMo []:=by
  intro c va t hc hon hv h hg
  obtain ⟨_,he,_⟩:=wk_tA hon h
  exact absurd he (by show ¬(30:Int)=0; decide)
theorem Wc.first {M:Mo} {As:List Int} (h:∀a,0≤a→M.wd a≠0→a∈As):Wc M (As.flatMap (li1 M)):=by
  intro c va t hc hon hv hw hg
  obtain ⟨_,he,hk,_⟩:=wk_tA hon hw
  refine List.mem_flatMap.2 ⟨fA c va,h _ (fA_rng c va hc hv).1 (fun e=>hk ?_),mem_li1 hon hv hw⟩
  rw [e]
  decide
theorem Wc.put {N:Nat} {m:Nat→Int} {A y:Int} {U:List Tra} (h:Wc (ramMo N m) U) (hB:Byts m) (hA:0≤A) (hy:0≤y∧y<4294967296) :
    Wc (ramMo N (putM N m A y)) (U++(li1 (ramMo N (putM N m A y)) A++li2 y A)):=by
  intro c va t hc hon hv hw hg
  by_cases hz:Mm.errV N A 4=0
  · obtain ⟨e,he,hk,hO,hs⟩:=wk_tA hon hw
    by_cases h1:fA c va=A
    · have:=mem_li1 hon hv hw
      rw [h1] at this
      exact List.mem_append_right _ (List.mem_append_left _ this)
    · have hf:=fA_rng c va hc hv
      have hM:=ramMo_ok (N:=N) hB
      have d1:(ramMo N (putM N m A y)).wd (fA c va)=(ramMo N m).wd (fA c va):=putM_other hA hf.1 (fun e=>h1 e.symm)
      rw [d1] at hk hs
      have w1e:w1 (ramMo N m) c va=(D1 ((ramMo N m).wd (fA c va)),fZ):=by
        unfold w1
        rw [if_pos hO,if_pos (show (ramMo N m).er (fA c va)=0 from he),if_neg hk]
      by_cases hk1:(D1 ((ramMo N m).wd (fA c va))).kind=1
      · have hs2:=hs hk1
        have hx:=hM (fA c va)
        have hsr:=sA_rng hx hk1 hv.1
        by_cases h2:sA (D1 ((ramMo N m).wd (fA c va))) va=A
        · refine List.mem_append_right _ (List.mem_append_right _ ?_)
          have hb:=D1_base _ hx hk1
          unfold w2 at hs2
          rw [h2,if_pos (show (ramMo N (putM N m A y)).er A=0 from hz),putM_same hA hz hy.1 hy.2] at hs2
          split at hs2
          · have:=(Prod.mk.inj hs2).2
            rw [Fa.mk.injEq] at this
            exact absurd this.1 (by decide)
          · have ht:=(Prod.mk.inj hs2).1
            rw [←ht]
            unfold li2
            refine List.mem_flatMap.2 ⟨(va / 1048576).toNat,List.mem_range.2 (by omega),List.mem_map.2 ⟨(D1 ((ramMo N m).wd (fA c va))).dom.toNat,List.mem_range.2 (by omega),?_⟩⟩
            rw [Int.toNat_of_nonneg hb.2.2.2.1,Int.toNat_of_nonneg (by omega)]
            refine tr_page ?_
            unfold sA at h2
            omega
        · refine List.mem_append_left _ (h c va t hc hon hv ?_ hg)
          unfold wk
          rw [if_pos hon,w1e]
          dsimp only
          rw [if_pos (show (fZ:Fa).k=0 from rfl),if_pos hk1,←hs2]
          unfold w2
          rw [putM_other hA hsr.1 (fun e=>h2 e.symm)]
          rfl
      · refine List.mem_append_left _ (h c va t hc hon hv ?_ hg)
        unfold wk
        rw [if_pos hon,w1e]
        dsimp only
        rw [if_pos (show (fZ:Fa).k=0 from rfl),if_neg hk1,e]
        unfold tA
        rw [d1,if_neg hk1]
  · rw [putM_no hA hz] at hw
    exact List.mem_append_left _ (h c va t hc hon hv hw hg)
theorem blT_len (M:Mo) (c:Ctx) (n:Nat):(blT M c n).length≤4096*n:=by
  induction n with
  | zero=>simp [blT]
  | succ n ih =>
    rw [blT_succ,List.length_append]
    have:=wiL_len M c ((n:Int)*16777216)
    omega
theorem blL_len (M:Mo) (c:Ctx):(blL M c).length≤1048576:=by
  unfold blL
  split
  · exact blT_len M c 256
  · simp
def Kg (K:List Blo):List Blo:=K.filter fun b=>b.asid == -1
theorem diL_len {M:Mo} {K:List Blo} {J:Jud} (hJ:JOk J) (h:Ri K):(diL M K J).length≤256*(Kg K).length+K.length:=by
  have hn:(diL M K J).Nodup:=rising_nodup ltD_irrefl (diL_rising h)
  have hm:∀x∈diL M K J,x∈((List.range 256).flatMap fun (a:Nat)=>(Kg K).map fun b=>(⟨a,b⟩:Dir))++K.map fun b=>(⟨b.asid,b⟩:Dir):=by
    intro x hx
    obtain ⟨h1,h2⟩:=(mem_diL hJ).1 hx
    have h3:∃c,J x.asid=some c∧hoF x.b x.asid=true:=by
      unfold diF at h2
      split at h2
      · cases h2
      · rename_i c hc
        rw [Bool.and_eq_true] at h2
        exact ⟨c,hc,h2.1⟩
    obtain ⟨c,hc,ho⟩:=h3
    have ha:=(hJ _ _ hc).1
    unfold hoF at ho
    rw [Bool.or_eq_true] at ho
    obtain ⟨xa,xb⟩:=x
    dsimp only at *
    by_cases hg:xb.asid= -1
    · refine List.mem_append_left _ (List.mem_flatMap.2 ⟨xa.toNat,List.mem_range.2 (by omega),List.mem_map.2 ⟨xb,List.mem_filter.2 ⟨h1,by simp [hg]⟩,?_⟩⟩)
      rw [Int.toNat_of_nonneg ha.1]
    · refine List.mem_append_right _ (List.mem_map.2 ⟨xb,h1,?_⟩)
      rcases ho with ho|ho
      · rw [eq_of_beq ho]
      · exact absurd (eq_of_beq ho) hg
  have:=nodup_len hn hm
  rw [List.length_append,flat_len (k:=(Kg K).length) (fun a _=>by simp),List.length_map,List.length_range] at this
  exact this
theorem Kg_len {K:List Blo} {U:List Tra} (h:Ri K) (hU:∀b∈K,b.asid= -1→b.t∈U):(Kg K).length≤U.length:=by
  have h1:((Kg K).map (·.t)).Nodup:=by
    unfold List.Nodup
    rw [List.pairwise_map]
    refine List.Pairwise.imp_of_mem ?_ (h.nodup.filter _)
    intro a b ha hb hne e
    have h1:=(List.mem_filter.1 ha).2
    have h2:=(List.mem_filter.1 hb).2
    obtain ⟨a0,a1⟩:=a
    obtain ⟨b0,b1⟩:=b
    dsimp only at h1 h2 e
    rw [eq_of_beq h1,eq_of_beq h2,e] at hne
    exact hne rfl
  have:=nodup_len h1 (m:=U) (fun t ht=>by
    obtain ⟨b,hb,rfl⟩:=List.mem_map.1 ht
    obtain ⟨g1,g2⟩:=List.mem_filter.1 hb
    exact hU b g1 (eq_of_beq g2))
  rwa [List.length_map] at this
end Go.Proofs.YtnjlajjjcmhfgaaGreatDoor
