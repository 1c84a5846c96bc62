import Derived.Test.YtnjlajjjcmhfgaaGreatDoorTP00
import Derived.Deep.Draws
import Derived.Shelf.Abstract
import Derived.Defers
import Derived.Recover
import Derived.Laws.Pointers
import Derived.Lib.SliceRun
namespace Go.Proofs.YtnjlajjjcmhfgaaGreatDoor.Bs
set_option linter.unusedVariables false
structure Sp (α:Type) where
  lo:Int
  hi:Int
  val:α
variable {α:Type}
def Good (c:Int) (u:Option α):List (Sp α)→Prop
  | []=>True
  | s::r=>c≤s.lo∧s.lo≤s.hi∧s.hi≤18446744073709551615∧(s.lo=c→u≠some s.val)∧Good (s.hi+1) (some s.val) r
def get:List (Sp α)→Int→Option α
  | [],_=>none
  | s::r,k=>if s.lo≤k∧k≤s.hi then some s.val else get r k
theorem get_low {L:List (Sp α)} {c:Int} {u:Option α} (h:Good c u L) {k:Int} (hk:k<c):get L k=none:=by
  induction L generalizing c u with
  | nil=>rfl
  | cons s r ih =>
    obtain ⟨h1,h2,h3,h4,h5⟩:=h
    rw [get,if_neg (by omega)]
    exact ih h5 (by omega)
def below:List (Sp α)→Int→List (Sp α)
  | [],_=>[]
  | s::r,b=>if b≤s.lo then [] else if b≤s.hi then [⟨s.lo,b-1,s.val⟩] else s::below r b
def above:List (Sp α)→Int→List (Sp α)
  | [],_=>[]
  | s::r,h=>if s.hi≤h then above r h else if s.lo≤h then ⟨h+1,s.hi,s.val⟩::r else s::r
theorem get_below {L:List (Sp α)} {c:Int} {u:Option α} (h:Good c u L) (b k:Int):get (below L b) k=if k<b then get L k else none:=by
  induction L generalizing c u with
  | nil=>simp [below,get]
  | cons s r ih =>
    obtain ⟨h1,h2,h3,h4,h5⟩:=h
    rw [below]
    by_cases q1:b≤s.lo
    · rw [if_pos q1,get]
      by_cases hk:k<b
      · rw [if_pos hk,get,if_neg (by omega),get_low h5 (by omega)]
      · rw [if_neg hk]
    · rw [if_neg q1]
      by_cases q2:b≤s.hi
      · rw [if_pos q2,get,get]
        show (if s.lo≤k∧k≤b-1 then some s.val else none)=_
        by_cases hk:k<b
        · rw [if_pos hk,get]
          by_cases q3:s.lo≤k
          · rw [if_pos (by omega),if_pos (by omega)]
          · rw [if_neg (by omega),if_neg (by omega),get_low h5 (by omega)]
        · rw [if_neg hk,if_neg (by omega)]
      · rw [if_neg q2,get,get,ih h5]
        by_cases hk:k<b
        · rw [if_pos hk,if_pos hk]
        · rw [if_neg hk,if_neg hk,if_neg (by omega)]
theorem get_above {L:List (Sp α)} {c:Int} {u:Option α} (h:Good c u L) (b k:Int):get (above L b) k=if b<k then get L k else none:=by
  induction L generalizing c u with
  | nil=>simp [above,get]
  | cons s r ih =>
    obtain ⟨h1,h2,h3,h4,h5⟩:=h
    rw [above]
    by_cases q1:s.hi≤b
    · rw [if_pos q1,ih h5,get]
      by_cases hk:b<k
      · rw [if_pos hk,if_pos hk,if_neg (by omega)]
      · rw [if_neg hk,if_neg hk]
    · rw [if_neg q1]
      by_cases q2:s.lo≤b
      · rw [if_pos q2,get,get]
        show (if b+1≤k∧k≤s.hi then some s.val else get r k)=_
        by_cases hk:b<k
        · rw [if_pos hk]
          by_cases q3:k≤s.hi
          · rw [if_pos (by omega),if_pos (by omega)]
          · rw [if_neg (by omega),if_neg (by omega)]
        · rw [if_neg hk,if_neg (by omega),get_low h5 (by omega)]
      · rw [if_neg q2,get]
        by_cases hk:b<k
        · rw [if_pos hk]
        · rw [if_neg hk,if_neg (by omega),get_low h5 (by omega)]
theorem get_append (A B:List (Sp α)) (k:Int):get (A++B) k=(get A k).or (get B k):=by
  induction A with
  | nil=>simp [get]
  | cons s r ih =>
    rw [List.cons_append,get,get,ih]
    split <;>simp
def endc (c:Int):List (Sp α)→Int
  | []=>c
  | s::r=>endc (s.hi+1) r
def endu (u:Option α):List (Sp α)→Option α
  | []=>u
  | s::r=>endu (some s.val) r
theorem Good.append {A B:List (Sp α)} {c:Int} {u:Option α}:Good c u (A++B)↔Good c u A∧Good (endc c A) (endu u A) B:=by
  induction A generalizing c u with
  | nil=>simp [Good,endc,endu]
  | cons s r ih =>
    simp only [List.cons_append,Good,ih,endc,endu]
    constructor
    · rintro ⟨a,b,c,d,e,f⟩; exact ⟨⟨a,b,c,d,e⟩,f⟩
    · rintro ⟨⟨a,b,c,d,e⟩,f⟩; exact ⟨a,b,c,d,e,f⟩
theorem endc_le {A:List (Sp α)} {c b:Int} (h:∀s∈A,s.hi<b) (hc:c≤b):endc c A≤b:=by
  induction A generalizing c with
  | nil=>exact hc
  | cons s r ih=>exact ih (fun t ht=>h t (by simp [ht])) (by have:=h s (by simp); omega)
theorem endu_get {A:List (Sp α)} {c:Int} {u:Option α} (h:Good c u A):(A=[]∧endc c A=c∧endu u A=u)∨(c<endc c A∧get A (endc c A-1)=endu u A):=by
  induction A generalizing c u with
  | nil=>exact .inl ⟨rfl,rfl,rfl⟩
  | cons s r ih =>
    obtain ⟨h1,h2,h3,h4,h5⟩:=h
    right
    rw [endc,endu,get]
    rcases ih h5 with ⟨e1,e2,e3⟩|⟨e2,e3⟩
    · rw [e2,e3]
      exact ⟨by omega,by rw [if_pos (by omega)]⟩
    · exact ⟨by omega,by rw [if_neg (by omega),e3]⟩
theorem below_good {L:List (Sp α)} {c:Int} {u:Option α} (h:Good c u L) (b:Int):Good c u (below L b)∧(∀s∈below L b,s.hi<b):=by
  induction L generalizing c u with
  | nil=>exact ⟨trivial,fun s hs=>by cases hs⟩
  | cons s r ih =>
    obtain ⟨h1,h2,h3,h4,h5⟩:=h
    rw [below]
    by_cases q1:b≤s.lo
    · rw [if_pos q1]; exact ⟨trivial,fun s hs=>by cases hs⟩
    · rw [if_neg q1]
      by_cases q2:b≤s.hi
      · rw [if_pos q2]
        refine ⟨⟨h1,?_,?_,h4,trivial⟩,fun t ht=> ?_⟩
        · show s.lo≤b-1; omega
        · show b-1≤18446744073709551615; omega
        · rw [List.mem_singleton] at ht; subst ht; show b-1<b; omega
      · rw [if_neg q2]
        refine ⟨⟨h1,h2,h3,h4,(ih h5).1⟩,fun t ht=> ?_⟩
        rcases List.mem_cons.1 ht with rfl|ht
        · omega
        · exact (ih h5).2 t ht
theorem above_good {L:List (Sp α)} {c:Int} {u:Option α} (h:Good c u L) (b:Int) {c':Int} {u':Option α} (hc:c'≤b+1) (hu:c'=b+1→u'≠none→get L (b+1)≠u'):Good c' u' (above L b):=by
  induction L generalizing c u with
  | nil=>trivial
  | cons s r ih =>
    obtain ⟨h1,h2,h3,h4,h5⟩:=h
    rw [above]
    by_cases q1:s.hi≤b
    · rw [if_pos q1]
      refine ih h5 (fun e1 e2=> ?_)
      have:=hu e1 e2
      rwa [get,if_neg (by omega)] at this
    · rw [if_neg q1]
      by_cases q2:s.lo≤b
      · rw [if_pos q2]
        refine ⟨hc,?_,h3,fun e1 e2=> ?_,h5⟩
        · show b+1≤s.hi; omega
        · have:=hu e1.symm (by rw [e2]; simp)
          rw [get,if_pos (by omega)] at this
          exact this e2.symm
      · rw [if_neg q2]
        refine ⟨by omega,h2,h3,fun e1 e2=> ?_,h5⟩
        have:=hu (by omega) (by rw [e2]; simp)
        rw [get,if_pos (by omega)] at this
        exact this e2.symm
theorem ends_below {L:List (Sp α)} {c b:Int} {u:Option α} (h:Good c u L) (hc:c≤b):endc c (below L b)≤b:=endc_le (below_good h b).2 hc
def putL (L:List (Sp α)) (lo hi:Int) (v:α):List (Sp α):=below L lo++⟨lo,hi,v⟩::above L hi
theorem putL_good {L:List (Sp α)} (h:Good 0 none L) {lo hi:Int} {v:α} (h1:0≤lo) (h2:lo≤hi) (h3:hi≤18446744073709551615) (h4:get L (lo-1)≠some v) (h5:get L (hi+1)≠some v):Good 0 none (putL L lo hi v):=by
  have hb:=ends_below h h1
  refine Good.append.2 ⟨(below_good h lo).1,hb,h2,h3,fun e1 e2=> ?_,above_good h hi (Int.le_refl _) (fun _ _=>h5)⟩
  rcases endu_get (below_good h lo).1 with ⟨q1,q2,q3⟩|⟨q2,q3⟩
  · rw [q3] at e2; cases e2
  · rw [get_below h,if_pos (by omega)] at q3
    rw [←e1] at q3
    exact h4 (q3.trans e2)
theorem putL_get {L:List (Sp α)} {c:Int} {u:Option α} (h:Good c u L) {lo hi:Int} {v:α} (h2:lo≤hi) (k:Int):get (putL L lo hi v) k=if lo≤k∧k≤hi then some v else get L k:=by
  rw [putL,get_append,get_below h,get,get_above h]
  show ((if k<lo then get L k else none).or (if lo≤k∧k≤hi then some v else if hi<k then get L k else none))=_
  by_cases q1:k<lo
  · rw [if_pos q1,if_neg (show ¬(lo≤k∧k≤hi) by omega),if_neg (show ¬(hi<k) by omega),if_neg (show ¬(lo≤k∧k≤hi) by omega)]; simp
  · rw [if_neg q1]
    by_cases q2:hi<k
    · rw [if_pos q2,if_neg (show ¬(lo≤k∧k≤hi) by omega)]; simp
    · rw [if_pos (show lo≤k∧k≤hi by omega),if_pos (show lo≤k∧k≤hi by omega)]; simp
def next:List (Sp α)→Int→Option (Sp α)
  | [],_=>none
  | s::r,k=>if k≤s.hi then some s else next r k
def run (L:List (Sp α)) (k:Int):Option (Sp α):=(next L k).filter (fun s=>decide (s.lo≤k))
theorem next_some {L:List (Sp α)} {c:Int} {u:Option α} (h:Good c u L) {k:Int} {s:Sp α} (hs:next L k=some s) :
    c≤s.lo∧s.lo≤s.hi∧s.hi≤18446744073709551615∧k≤s.hi∧(∀x,k≤x→x<s.lo→get L x=none)∧(∀x,s.lo≤x→x≤s.hi→get L x=some s.val)∧(c<s.lo→get L (s.lo-1)≠some s.val)∧get L (s.hi+1)≠some s.val:=by
  induction L generalizing c u with
  | nil=>cases hs
  | cons t r ih =>
    obtain ⟨h1,h2,h3,h4,h5⟩:=h
    rw [next] at hs
    by_cases q:k≤t.hi
    · rw [if_pos q] at hs
      cases hs
      refine ⟨h1,h2,h3,q,fun x a b=> ?_,fun x a b=> ?_,fun a=> ?_,?_⟩
      · rw [get,if_neg (by omega),get_low h5 (by omega)]
      · rw [get,if_pos (by omega)]
      · rw [get,if_neg (by omega),get_low h5 (by omega)]; simp
      · rw [get,if_neg (by omega)]
        cases r with
        | nil=>simp [get]
        | cons a r2 =>
          obtain ⟨a1,a2,a3,a4,a5⟩:=h5
          rw [get]
          by_cases hq:a.lo≤s.hi+1∧s.hi+1≤a.hi
          · rw [if_pos hq]
            exact fun e=>a4 (by omega) e.symm
          · rw [if_neg hq,get_low a5 (by omega)]; simp
    · rw [if_neg q] at hs
      obtain ⟨a1,a2,a3,a4,a5,a6,a7,a8⟩:=ih h5 hs
      refine ⟨by omega,a2,a3,a4,fun x a b=> ?_,fun x a b=> ?_,fun a=> ?_,?_⟩
      · rw [get,if_neg (by omega)]; exact a5 x a b
      · rw [get,if_neg (by omega)]; exact a6 x a b
      · by_cases e:t.hi+1<s.lo
        · rw [get,if_neg (by omega)]; exact a7 e
        · have e:s.lo=t.hi+1:=by omega
          rw [get,if_pos (by omega)]
          intro e2
          cases r with
          | nil=>cases hs
          | cons a r2 =>
            obtain ⟨b1,b2,b3,b4,b5⟩:=h5
            rw [next] at hs
            by_cases hq:k≤a.hi
            · rw [if_pos hq] at hs
              cases hs
              exact b4 e e2
            · exfalso
              rw [if_neg hq] at hs
              have:=a6 s.lo (by omega) (by omega)
              have h9:a.hi+1≤s.lo:=by
                clear this a5 a6 a7 a8
                have:∀(R:List (Sp α)) (c:Int) (u:Option α),Good c u R→next R k=some s→c≤s.lo:=by
                  intro R
                  induction R with
                  | nil=>intro c u _ h; cases h
                  | cons y R2 ihR =>
                    intro c u hg hn
                    obtain ⟨y1,y2,y3,y4,y5⟩:=hg
                    rw [next] at hn
                    by_cases yq:k≤y.hi
                    · rw [if_pos yq] at hn; cases hn; exact y1
                    · rw [if_neg yq] at hn
                      have:=ihR _ _ y5 hn
                      omega
                exact this _ _ _ b5 hs
              omega
      · rw [get,if_neg (by omega)]; exact a8
theorem next_none {L:List (Sp α)} {c:Int} {u:Option α} (h:Good c u L) {k:Int} (hs:next L k=none) (x:Int) (hx:k≤x):get L x=none:=by
  induction L generalizing c u with
  | nil=>rfl
  | cons t r ih =>
    obtain ⟨h1,h2,h3,h4,h5⟩:=h
    rw [next] at hs
    by_cases q:k≤t.hi
    · rw [if_pos q] at hs; cases hs
    · rw [if_neg q] at hs
      rw [get,if_neg (by omega)]
      exact ih h5 hs
theorem run_some {L:List (Sp α)} (h:Good 0 none L) {k:Int} {s:Sp α} (hs:run L k=some s) :
    0≤s.lo∧s.lo≤k∧k≤s.hi∧s.hi≤18446744073709551615∧(∀x,s.lo≤x→x≤s.hi→get L x=some s.val)∧get L (s.lo-1)≠some s.val∧get L (s.hi+1)≠some s.val:=by
  obtain ⟨h1,h2⟩:=Option.filter_eq_some_iff.1 hs
  have h2:=of_decide_eq_true h2
  obtain ⟨a1,a2,a3,a4,a5,a6,a7,a8⟩:=next_some h h1
  refine ⟨a1,h2,a4,a3,a6,?_,a8⟩
  by_cases e:0<s.lo
  · exact a7 e
  · rw [get_low h (by omega)]; simp
theorem run_none {L:List (Sp α)} (h:Good 0 none L) {k:Int} (hs:run L k=none):get L k=none:=by
  rw [run] at hs
  cases hn:next L k with
  | none=>exact next_none h hn k (Int.le_refl _)
  | some s =>
    rw [hn] at hs
    have:¬s.lo≤k:=by
      intro hle
      simp [Option.filter,hle] at hs
    exact (next_some h hn).2.2.2.2.1 k (Int.le_refl _) (by omega)
section
variable [DecidableEq α]
def widLo (L:List (Sp α)) (lo:Int) (v:α):Int:=match run L (lo-1) with|some s=>if s.val=v then s.lo else lo|none=>lo
def widHi (L:List (Sp α)) (hi:Int) (v:α):Int:=match run L (hi+1) with|some s=>if s.val=v then s.hi else hi|none=>hi
def setL (L:List (Sp α)) (lo hi:Int) (v:α):List (Sp α):=putL L (widLo L lo v) (widHi L hi v) v
theorem widLo_spec {L:List (Sp α)} (h:Good 0 none L) {lo:Int} (h0:0≤lo) (v:α):0≤widLo L lo v∧widLo L lo v≤lo∧get L (widLo L lo v-1)≠some v∧(∀x,widLo L lo v≤x→x<lo→get L x=some v):=by
  rw [widLo]
  cases hr:run L (lo-1) with
  | none =>
    refine ⟨h0,Int.le_refl _,?_,fun x a b=> ?_⟩
    · show get L (lo-1)≠_
      rw [run_none h hr]; simp
    · replace a:lo≤x:=a
      omega
  | some s =>
    obtain ⟨a1,a2,a3,a4,a5,a6,a7⟩:=run_some h hr
    by_cases e:s.val=v
    · simp only [e,if_pos]
      refine ⟨a1,by omega,by rw [←e]; exact a6,fun x p q=>by rw [←e]; exact a5 x p (by omega)⟩
    · simp only [if_neg e]
      refine ⟨h0,Int.le_refl _,?_,fun x a b=>by omega⟩
      rw [a5 _ a2 a3]
      intro e2; exact e (Option.some.inj e2)
theorem widHi_spec {L:List (Sp α)} (h:Good 0 none L) {hi:Int} (h0:hi≤18446744073709551615) (v:α):widHi L hi v≤18446744073709551615∧hi≤widHi L hi v∧get L (widHi L hi v+1)≠some v∧(∀x,hi<x→x≤widHi L hi v→get L x=some v):=by
  rw [widHi]
  cases hr:run L (hi+1) with
  | none =>
    refine ⟨h0,Int.le_refl _,?_,fun x a b=> ?_⟩
    · show get L (hi+1)≠_
      rw [run_none h hr]; simp
    · replace b:x≤hi:=b
      omega
  | some s =>
    obtain ⟨a1,a2,a3,a4,a5,a6,a7⟩:=run_some h hr
    by_cases e:s.val=v
    · simp only [e,if_pos]
      refine ⟨a4,by omega,by rw [←e]; exact a7,fun x p q=>by rw [←e]; exact a5 x (by omega) q⟩
    · simp only [if_neg e]
      refine ⟨h0,Int.le_refl _,?_,fun x a b=>by omega⟩
      rw [a5 _ a2 a3]
      intro e2; exact e (Option.some.inj e2)
theorem setL_good {L:List (Sp α)} (h:Good 0 none L) {lo hi:Int} (h1:0≤lo) (h2:lo≤hi) (h3:hi≤18446744073709551615) (v:α):Good 0 none (setL L lo hi v):=by
  obtain ⟨a1,a2,a3,a4⟩:=widLo_spec h h1 v
  obtain ⟨b1,b2,b3,b4⟩:=widHi_spec h h3 v
  exact putL_good h a1 (by omega) b1 a3 b3
theorem setL_get {L:List (Sp α)} (h:Good 0 none L) {lo hi:Int} (h1:0≤lo) (h2:lo≤hi) (h3:hi≤18446744073709551615) (v:α) (k:Int):get (setL L lo hi v) k=if lo≤k∧k≤hi then some v else get L k:=by
  obtain ⟨a1,a2,a3,a4⟩:=widLo_spec h h1 v
  obtain ⟨b1,b2,b3,b4⟩:=widHi_spec h h3 v
  rw [setL,putL_get h (by omega)]
  by_cases q:lo≤k∧k≤hi
  · rw [if_pos (by omega),if_pos q]
  · rw [if_neg q]
    by_cases q2:widLo L lo v≤k∧k≤widHi L hi v
    · rw [if_pos q2]
      by_cases q3:k<lo
      · exact (a4 k q2.1 q3).symm
      · exact (b4 k (by omega) q2.2).symm
    · rw [if_neg q2]
end
end Go.Proofs.YtnjlajjjcmhfgaaGreatDoor.Bs
namespace Go.Proofs.YtnjlajjjcmhfgaaGreatDoor.Bs
set_option linter.unusedVariables false
variable {α:Type}
def ei (L:List (Sp α)) (k:Int):Nat:=L.countP (fun s=> !decide (k≤s.hi))
def sa (L:List (Sp α)) (k:Int):Nat:=L.countP (fun s=> !decide (k<s.lo))
theorem good_lo {L:List (Sp α)} {c:Int} {u:Option α} (h:Good c u L):∀s∈L,c≤s.lo∧s.lo≤s.hi∧s.hi≤18446744073709551615:=by
  induction L generalizing c u with
  | nil=>intro s hs; cases hs
  | cons t r ih =>
    obtain ⟨h1,h2,h3,h4,h5⟩:=h
    intro s hs
    rcases List.mem_cons.1 hs with rfl|hs
    · exact ⟨h1,h2,h3⟩
    · have:=ih h5 s hs; omega
theorem ei_zero {L:List (Sp α)} {c:Int} {u:Option α} (h:Good c u L) {k:Int} (hk:k≤c):ei L k=0:=by
  rw [ei,List.countP_eq_zero]
  intro s hs
  have:=good_lo h s hs
  simp; omega
theorem sa_zero {L:List (Sp α)} {c:Int} {u:Option α} (h:Good c u L) {k:Int} (hk:k<c):sa L k=0:=by
  rw [sa,List.countP_eq_zero]
  intro s hs
  have:=good_lo h s hs
  simp; omega
theorem ei_cons_low {s:Sp α} {r:List (Sp α)} {c:Int} {u:Option α} (h:Good c u (s::r)) {k:Int} (hk:k≤s.hi):ei (s::r) k=0:=by
  obtain ⟨h1,h2,h3,h4,h5⟩:=h
  have:=ei_zero h5 (k:=k) (by omega)
  rw [ei] at this ⊢
  rw [List.countP_cons_of_neg (by simp; omega),this]
theorem ei_cons_high (s:Sp α) (r:List (Sp α)) {k:Int} (hk:s.hi<k):ei (s::r) k=ei r k+1:=by
  rw [ei,ei,List.countP_cons_of_pos (by simp; omega)]
theorem sa_cons_low {s:Sp α} {r:List (Sp α)} {c:Int} {u:Option α} (h:Good c u (s::r)) {k:Int} (hk:k<s.lo):sa (s::r) k=0:=by
  obtain ⟨h1,h2,h3,h4,h5⟩:=h
  have:=sa_zero h5 (k:=k) (by omega)
  rw [sa] at this ⊢
  rw [List.countP_cons_of_neg (by simp; omega),this]
theorem sa_cons_high (s:Sp α) (r:List (Sp α)) {k:Int} (hk:s.lo≤k):sa (s::r) k=sa r k+1:=by
  rw [sa,sa,List.countP_cons_of_pos (by simp; omega)]
theorem ei_le (L:List (Sp α)) (k:Int):ei L k≤L.length:=List.countP_le_length
theorem sa_le (L:List (Sp α)) (k:Int):sa L k≤L.length:=List.countP_le_length
theorem ei_next {L:List (Sp α)} {c:Int} {u:Option α} (h:Good c u L) (k:Int):L[ei L k]? =next L k:=by
  induction L generalizing c u with
  | nil=>rfl
  | cons s r ih =>
    rw [next]
    by_cases q:k≤s.hi
    · rw [if_pos q,ei_cons_low h q]; rfl
    · rw [if_neg q,←ih h.2.2.2.2,ei_cons_high s r (by omega)]; rfl
def cutLo (L:List (Sp α)) (i:Nat) (lo:Int):List (Sp α):=match L[i]? with|some s=>if s.lo<lo then [⟨s.lo,lo-1,s.val⟩] else []|none=>[]
def cutHi (L:List (Sp α)) (j:Nat) (hi:Int):List (Sp α):=match j with|0=>[]|j+1=>match L[j]? with|some s=>if hi<s.hi then [⟨hi+1,s.hi,s.val⟩] else []|none=>[]
theorem below_take {L:List (Sp α)} {c:Int} {u:Option α} (h:Good c u L) (lo:Int):L.take (ei L lo)++cutLo L (ei L lo) lo=below L lo:=by
  induction L generalizing c u with
  | nil=>rfl
  | cons s r ih =>
    rw [below]
    by_cases q:lo≤s.hi
    · rw [ei_cons_low h q]
      by_cases q1:lo≤s.lo
      · rw [if_pos q1]; simp [cutLo]; omega
      · rw [if_neg q1,if_pos q]; simp [cutLo]; omega
    · have:=h.2.1
      rw [if_neg (by omega),if_neg q,ei_cons_high s r (by omega),List.take_succ_cons,List.cons_append]
      congr 1
      rw [←ih h.2.2.2.2]
      rfl
theorem above_drop {L:List (Sp α)} {c:Int} {u:Option α} (h:Good c u L) (hi:Int):cutHi L (sa L hi) hi++L.drop (sa L hi)=above L hi:=by
  induction L generalizing c u with
  | nil=>rfl
  | cons s r ih =>
    have h5:=h.2.2.2.2
    have h2:=h.2.1
    rw [above]
    by_cases q:s.lo≤hi
    · by_cases q1:s.hi≤hi
      · rw [if_pos q1,sa_cons_high s r q,←ih h5,List.drop_succ_cons]
        congr 1
        cases hs:sa r hi with
        | zero=>simp [cutHi]; omega
        | succ j=>rfl
      · rw [if_neg q1,if_pos q,sa_cons_high s r q,sa_zero h5 (by omega)]
        simp [cutHi,show hi<s.hi by omega]
    · rw [if_neg (by omega),if_neg q,sa_cons_low h (by omega)]
      simp [cutHi]
theorem ei_le_sa {L:List (Sp α)} {c:Int} {u:Option α} (h:Good c u L) {lo hi:Int} (h2:lo≤hi+1):ei L lo≤sa L hi:=by
  induction L generalizing c u with
  | nil=>exact Nat.le_refl _
  | cons s r ih =>
    by_cases q:lo≤s.hi
    · rw [ei_cons_low h q]; omega
    · have:=h.2.1
      rw [ei_cons_high s r (by omega),sa_cons_high s r (by omega)]
      have:=ih h.2.2.2.2
      omega
theorem cutLo_prog {L:List (Sp α)} {c:Int} {u:Option α} (h:Good c u L) {lo hi:Int} (h2:lo≤hi) {s:Sp α} (hs:L[ei L lo]? =some s) (hl:s.lo<lo):ei L lo<sa L hi:=by
  induction L generalizing c u with
  | nil=>simp at hs
  | cons t r ih =>
    by_cases q:lo≤t.hi
    · rw [ei_cons_low h q] at hs ⊢
      cases hs
      rw [sa_cons_high s r (by omega)]; omega
    · have:=h.2.1
      rw [ei_cons_high t r (by omega)] at hs ⊢
      rw [sa_cons_high t r (by omega)]
      have:=ih h.2.2.2.2 hs
      omega
theorem cutHi_prog {L:List (Sp α)} {c:Int} {u:Option α} (h:Good c u L) {lo hi:Int} (h2:lo≤hi) {j:Nat} (hj:sa L hi=j+1) {s:Sp α} (hs:L[j]? =some s) (hl:hi<s.hi):ei L lo<j+1:=by
  induction L generalizing c u j with
  | nil=>simp at hs
  | cons t r ih =>
    by_cases q:lo≤t.hi
    · rw [ei_cons_low h q]; omega
    · have:=h.2.1
      rw [ei_cons_high t r (by omega)]
      rw [sa_cons_high t r (by omega)] at hj
      cases j with
      | zero=>simp at hs; subst hs; omega
      | succ j =>
        have:=ih h.2.2.2.2 (j:=j) (by omega) (by simpa using hs)
        omega
def step [DecidableEq α] (l:List (Sp α)) (c e:Int):Option α→List (Sp α)
  | none=>l
  | some v=>match l.getLast? with
    | some t=>if t.val=v∧t.hi+1=c then l.dropLast++[⟨t.lo,e,v⟩] else l++[⟨c,e,v⟩]
    | none=>[⟨c,e,v⟩]
theorem endc_snoc (c:Int) (A:List (Sp α)) (t:Sp α):endc c (A++[t])=t.hi+1:=by
  induction A generalizing c with
  | nil=>rfl
  | cons s r ih=>exact ih _
theorem endu_snoc (u:Option α) (A:List (Sp α)) (t:Sp α):endu u (A++[t])=some t.val:=by
  induction A generalizing u with
  | nil=>rfl
  | cons s r ih=>exact ih _
theorem get_out {L:List (Sp α)} {k:Int} (h:∀s∈L,¬(s.lo≤k∧k≤s.hi)):get L k=none:=by
  induction L with
  | nil=>rfl
  | cons s r ih=>rw [get,if_neg (h s (by simp))]; exact ih (fun t ht=>h t (by simp [ht]))
theorem step_good [DecidableEq α] {l:List (Sp α)} (h:Good 0 none l) {c e:Int} (hc:0≤c) (hce:c≤e) (he:e≤18446744073709551615) (hl:∀s∈l,s.hi<c) (o:Option α) :
    Good 0 none (step l c e o)∧(∀s∈step l c e o,s.hi<e+1)∧(∀k,get (step l c e o) k=if c≤k∧k≤e then o else get l k):=by
  have hout:∀k,c≤k→get l k=none:=fun k hk=>get_out (fun s hs h=>by have:=hl s hs; omega)
  cases o with
  | none =>
    refine ⟨h,fun s hs=>by have:=hl s hs; omega,fun k=> ?_⟩
    show get l k=_
    by_cases q:c≤k∧k≤e
    · rw [if_pos q,hout k q.1]
    · rw [if_neg q]
  | some v =>
    rcases List.eq_nil_or_concat l with rfl|⟨A,t,rfl⟩
    · refine ⟨⟨hc,hce,he,fun _=>by simp,trivial⟩,fun s hs=> ?_,fun k=>rfl⟩
      rw [step] at hs
      simp at hs
      subst hs
      show e<e+1
      omega
    · rw [List.concat_eq_append] at *
      have ht:=hl t (by simp)
      obtain ⟨g1,g2⟩:=Good.append.1 h
      obtain ⟨a1,a2,a3,a4,a5⟩:=g2
      by_cases q:t.val=v∧t.hi+1=c
      · have es:step (A++[t]) c e (some v)=A++[⟨t.lo,e,v⟩]:=by
          rw [step,List.getLast?_concat]
          simp only [if_pos q,List.dropLast_concat]
        rw [es]
        refine ⟨Good.append.2 ⟨g1,a1,by show t.lo≤e; omega,he,fun h1 h2=>a4 h1 (by rw [q.1]; exact h2),trivial⟩,fun s hs=> ?_,fun k=> ?_⟩
        · rcases List.mem_append.1 hs with hs|hs
          · have:=hl s (by simp [hs]); omega
          · rw [List.mem_singleton] at hs; subst hs; show e<e+1; omega
        · rw [get_append,get_append]
          show (get A k).or (if t.lo≤k∧k≤e then some v else none)=if c≤k∧k≤e then some v else (get A k).or (if t.lo≤k∧k≤t.hi then some t.val else none)
          by_cases q1:c≤k∧k≤e
          · have hA:get A k=none:=get_out (fun s hs h=>by have:=hl s (by simp [hs]); omega)
            rw [if_pos q1,if_pos (by omega),hA]; rfl
          · rw [if_neg q1]
            by_cases q2:t.lo≤k∧k≤t.hi
            · rw [if_pos q2,if_pos (by omega),q.1]
            · rw [if_neg q2,if_neg (by omega)]
      · have es:step (A++[t]) c e (some v)=A++[t]++[⟨c,e,v⟩]:=by
          rw [step,List.getLast?_concat]
          simp only [if_neg q]
        rw [es]
        refine ⟨Good.append.2 ⟨h,by rw [endc_snoc]; show t.hi+1≤c; omega,hce,he,fun h1 h2=> ?_,trivial⟩,fun s hs=> ?_,fun k=> ?_⟩
        · rw [endu_snoc] at h2
          rw [endc_snoc] at h1
          exact q ⟨Option.some.inj h2,h1.symm⟩
        · rcases List.mem_append.1 hs with hs|hs
          · have:=hl s hs; omega
          · rw [List.mem_singleton] at hs; subst hs; show e<e+1; omega
        · rw [get_append]
          show (get (A++[t]) k).or (if c≤k∧k≤e then some v else none)=_
          by_cases q1:c≤k∧k≤e
          · rw [if_pos q1,if_pos q1,hout k q1.1]; rfl
          · rw [if_neg q1,if_neg q1]; simp
end Go.Proofs.YtnjlajjjcmhfgaaGreatDoor.Bs
namespace Go.Proofs.YtnjlajjjcmhfgaaGreatDoor.Bs
open Go.RowKit
set_option linter.unusedVariables false
theorem drewN_drewN' (w:World) (a b:Nat):(w.drewN a).drewN b=w.drewN (a+b):=World.drewN_drewN w a b
set_option maxHeartbeats 4000000 in
set_option maxRecDepth 100000 in
theorem search_any (g:Nat) (cb:Array Value) (n:Nat) (p:Nat→Bool) (w:World) (eg:∀args w,(callFunc g args).run Tryz.prog w= .ok (.enter g args) w) (hsz:n<4611686018427387904)
    (hf:∀(q i:Nat),i<n→Calls Tryz.prog g (#[.int .i64 i]++cb) (w.drewN q) fun e w'=>e= .returned (.bool (p i))∧∃q',w'=w.drewN q')
    (hmono:∀a b,a≤b→b<n→p a=true→p b=true) :
    Calls Tryz.prog 221 #[.int .i64 n,.func (.func g) #[] cb] w fun e w'=>∃c:Nat,e= .returned (.int .i64 c)∧(c≤n∧(∀t,t<c→p t=false)∧(∀t,c≤t→t<n→p t=true))∧∃q,w'=w.drewN q:=by
  have HF:Hid (∀(q i:Nat),i<n→Calls Tryz.prog g (#[.int .i64 i]++cb) (w.drewN q) fun e w'=>e= .returned (.bool (p i))∧∃q',w'=w.drewN q'):=hf
  have M:Hid (∀a b,a≤b→b<n→p a=true→p b=true):=hmono
  clear hf hmono
  go_enter Tryz.func221,Tryz.ntmps221
  go_wp2
  go_loopw [5,6] (fun s5 s6 wr=>∃(lo hi q:Nat),s5= .int .i64 lo∧s6= .int .i64 hi∧lo≤hi∧hi≤n∧wr=w.drewN q∧Hid ((∀t,t<lo→p t=false)∧(∀t,hi≤t→t<n→p t=true))) (fun s5 s6 _=>(intOf s6-intOf s5).toNat)
  case atStart=>exact ⟨0,n,0,rfl,rfl,Nat.zero_le _,Nat.le_refl _,rfl,(⟨fun t ht=>absurd ht (Nat.not_lt_zero _),fun t h1 h2=>by omega⟩:(∀t,t<0→p t=false)∧(∀t,n≤t→t<n→p t=true))⟩
  case round =>
    obtain ⟨lo,hi,q,rfl,rfl,hlh,hin,rfl,I⟩:=hrel
    by_cases hlt:lo<hi
    · have hc:=HF.out q ((lo+hi) / 2) (by omega)
      rw [show (((lo+hi) / 2:Nat):Int)=((lo:Int)+(hi:Int)) / 2 by omega] at hc
      cases hp:p ((lo+hi) / 2) <;>rw [hp] at hc
      · have HP:Hid (p ((lo+hi) / 2)=false):=hp
        clear hp
        go_wp2_with (go_at_fn g; refine hc.mono ?_; rintro e w' ⟨rfl,nq,rfl⟩)
        go_roundw
        case measure=>simp [intOf]; omega
        case rel =>
          have I2:Hid ((∀t,t<(lo+hi) / 2+1→p t=false)∧(∀t,hi≤t→t<n→p t=true)):=⟨fun t ht=>(by
            cases h:p t with
            | false=>rfl
            | true=>have:=M.out t ((lo+hi) / 2) (by omega) (by omega) h; rw [HP.out] at this; cases this),I.out.2⟩
          exact ⟨(lo+hi) / 2+1,hi,_,by rw [show ((lo:Int)+(hi:Int)) / 2+1=(((lo+hi) / 2+1:Nat):Int) by omega],rfl,by omega,hin,rfl,I2⟩
      · have HP:Hid (p ((lo+hi) / 2)=true):=hp
        clear hp
        go_wp2_with (go_at_fn g; refine hc.mono ?_; rintro e w' ⟨rfl,nq,rfl⟩)
        go_roundw
        case measure=>simp [intOf]; omega
        case rel =>
          have I2:Hid ((∀t,t<lo→p t=false)∧(∀t,(lo+hi) / 2≤t→t<n→p t=true)):=⟨I.out.1,fun t ht htn=>M.out ((lo+hi) / 2) t ht htn HP.out⟩
          exact ⟨lo,(lo+hi) / 2,_,rfl,by rw [show ((lo:Int)+(hi:Int)) / 2=(((lo+hi) / 2:Nat):Int) by omega],by omega,by omega,rfl,I2⟩
    · obtain rfl:hi=lo:=by omega
      go_wp2
      go_ret
      exact ⟨hi,rfl,⟨hin,I.out.1,I.out.2⟩,q,rfl⟩
end Go.Proofs.YtnjlajjjcmhfgaaGreatDoor.Bs
namespace Go.Proofs.YtnjlajjjcmhfgaaGreatDoor.Bs
open Go.RowKit
set_option linter.unusedVariables false
def encS (s:Sp Bool):List Value:=[.int .u64 s.lo,.int .u64 s.hi,.bool s.val]
def cellsL (L:List (Sp Bool)):List Value:=L.flatMap encS
theorem encS_len (s:Sp Bool):(encS s).length=3:=rfl
theorem cellsL_append (A B:List (Sp Bool)):cellsL (A++B)=cellsL A++cellsL B:=by simp [cellsL]
theorem cellsL_cons (s:Sp Bool) (r:List (Sp Bool)):cellsL (s::r)=encS s++cellsL r:=by simp [cellsL]
theorem cellsL_at {L:List (Sp Bool)} {i:Nat} {s:Sp Bool} (h:L[i]? =some s) (j:Nat) (hj:j<3):(cellsL L)[i*3+j]? =(encS s)[j]? :=by
  induction L generalizing i with
  | nil=>simp at h
  | cons t r ih =>
    rw [cellsL_cons]
    cases i with
    | zero =>
      simp at h
      subst h
      rw [Nat.zero_mul,Nat.zero_add,List.getElem?_append_left (by rw [encS_len]; exact hj)]
    | succ i =>
      rw [List.getElem?_append_right (by rw [encS_len]; omega),encS_len,show (i+1)*3+j-3=i*3+j by omega]
      exact ih (by simpa using h)
theorem cellsL_take (L:List (Sp Bool)) (i:Nat):(cellsL L).take (i*3)=cellsL (L.take i):=by
  induction L generalizing i with
  | nil=>simp [cellsL]
  | cons s r ih =>
    cases i with
    | zero=>simp [cellsL]
    | succ i =>
      rw [cellsL_cons,List.take_succ_cons,cellsL_cons,List.take_append,encS_len,List.take_of_length_le (by rw [encS_len]; omega),show (i+1)*3-3=i*3 by omega,ih]
theorem cellsL_drop (L:List (Sp Bool)) (i:Nat):(cellsL L).drop (i*3)=cellsL (L.drop i):=by
  induction L generalizing i with
  | nil=>simp [cellsL]
  | cons s r ih =>
    cases i with
    | zero=>simp
    | succ i =>
      rw [cellsL_cons,List.drop_succ_cons,List.drop_append,encS_len,List.drop_eq_nil_of_le (by rw [encS_len]; omega),show (i+1)*3-3=i*3 by omega,ih,List.nil_append]
theorem cellsL_one (L:List (Sp Bool)):∀u∈cellsL L,u.oneCell'=true:=by
  intro u hu
  obtain ⟨s,_,hs⟩:=List.mem_flatMap.1 hu
  simp [encS] at hs
  rcases hs with rfl|rfl|rfl <;>rfl
def Ls (W:World) (lo:Nat) (v:Value) (L:List (Sp Bool)):Prop:=W.ownsRow lo 232 3 v L.length (cellsL L)
structure MapAt (W:World) (lo p:Nat) (v:Value) (L:List (Sp Bool)):Prop where
  box:W.heap[p]? =some (.cells #[v] 227 (0,0))
  own:Ls W lo v L
  low:lo≤p
  good:Good 0 none L
theorem below_grown {W W':World} (h:Below W.heap.size W W'):W.grownBy W' none:=⟨h.os,h.tape,h.output,h.size,fun k hk _=>h.block k hk⟩
theorem grown_below {W W':World} (h:W.grownBy W' none):Below W.heap.size W W':=⟨h.os,h.tape,h.output,h.size,fun k hk=>h.block k hk (by simp)⟩
theorem MapAt.lt {W:World} {lo p:Nat} {v:Value} {L:List (Sp Bool)} (h:MapAt W lo p v L):p<W.heap.size:=(Array.getElem?_eq_some_iff.1 h.box).1
theorem Ls.keep {W W':World} {lo:Nat} {v:Value} {L:List (Sp Bool)} (h:Ls W lo v L) {B:Nat} (hB:Below B W W') (hb:∀g,v.ownBlock=some g→g<B):Ls W' lo v L:=by
  rcases row_of_own h with ⟨rfl,h1,h2⟩|⟨g,cap,cur,rfl,a,b,c,d,e,f⟩
  · rw [Ls,h1,h2]; exact World.ownsRow_nil _ _ _ _
  · refine own_of_row (g:=g) (cur:=cur) ?_ a c d e f
    show W'.heap[g]? =_
    rw [hB.block g (hb g rfl)]; exact b
theorem Ls.lt {W:World} {lo:Nat} {v:Value} {L:List (Sp Bool)} (h:Ls W lo v L):∀g,v.ownBlock=some g→lo≤g∧g<W.heap.size:=World.ownsRow.lt h
theorem MapAt.keep {W W':World} {lo p:Nat} {v:Value} {L:List (Sp Bool)} (h:MapAt W lo p v L) (hB:Below W.heap.size W W'):MapAt W' lo p v L :=
  ⟨by rw [hB.block p h.lt]; exact h.box,h.own.keep hB (fun g hg=>(h.own.lt g hg).2),h.low,h.good⟩
theorem MapAt.cell {W:World} {lo p:Nat} {v:Value} {L:List (Sp Bool)} (h:MapAt W lo p v L):W.cell? ⟨p,0,none⟩=some v:=by simp [World.cell?,h.box]
theorem Ls.view {W:World} {lo:Nat} {v:Value} {L:List (Sp Bool)} (h:Ls W lo v L) :
    (v= .slice none 0 0∧L=[])∨∃g cap,v= .slice (some ⟨g,0,none⟩) L.length cap∧lo≤g∧g<W.heap.size∧L.length≤cap∧cap≤9223372036854775807∧∀i s,L[i]? =some s→∀j,j<3→W.cell? ⟨g,i*3+j,none⟩=(encS s)[j]? :=by
  rcases row_of_own h with ⟨rfl,h1,h2⟩|⟨g,cap,cur,rfl,a,b,c,d,e,f⟩
  · exact .inl ⟨rfl,List.eq_nil_of_length_eq_zero h1⟩
  · refine .inr ⟨g,cap,rfl,a,b.lt,c,d,fun i s hs j hj=> ?_⟩
    have hlt:i<L.length:=(List.getElem?_eq_some_iff.1 hs).1
    rw [World.ownsRow.cellAt h (i*3+j) (by omega)]
    exact cellsL_at hs j hj
set_option maxHeartbeats 4000000 in
set_option maxRecDepth 100000 in
theorem ends_closure (bm bk p g cap i n:Nat) (hiv k:Int) (W:World) (hm:W.cell? ⟨bm,0,none⟩=some (.pointer (some ⟨p,0,none⟩))) (hk:W.cell? ⟨bk,0,none⟩=some (.int .u64 k))
    (hs:W.cell? ⟨p,0,none⟩=some (.slice (some ⟨g,0,none⟩) n cap)) (hi:i<n) (hc:W.cell? ⟨g,i*3+1,none⟩=some (.int .u64 hiv)) :
    Calls Tryz.prog 222 (#[.int .i64 i]++#[.pointer (some ⟨bm,0,none⟩),.pointer (some ⟨bk,0,none⟩)]) W fun e w'=>e= .returned (.bool (decide (k≤hiv)))∧∃q,w'=W.drewN q:=by
  have hiz:(i:Int)<(n:Int):=by omega
  go_enter Tryz.func222,Tryz.ntmps222
  go_wp2
  go_region
  all_goals go_wp2
  all_goals go_ret
  all_goals exact ⟨by first|rfl|simp,1,rfl⟩
set_option maxHeartbeats 4000000 in
set_option maxRecDepth 100000 in
theorem starts_closure (bm bk p g cap i n:Nat) (lov k:Int) (W:World) (hm:W.cell? ⟨bm,0,none⟩=some (.pointer (some ⟨p,0,none⟩))) (hk:W.cell? ⟨bk,0,none⟩=some (.int .u64 k))
    (hs:W.cell? ⟨p,0,none⟩=some (.slice (some ⟨g,0,none⟩) n cap)) (hi:i<n) (hc:W.cell? ⟨g,i*3,none⟩=some (.int .u64 lov)) :
    Calls Tryz.prog 223 (#[.int .i64 i]++#[.pointer (some ⟨bm,0,none⟩),.pointer (some ⟨bk,0,none⟩)]) W fun e w'=>e= .returned (.bool (decide (k<lov)))∧∃q,w'=W.drewN q:=by
  have hiz:(i:Int)<(n:Int):=by omega
  go_enter Tryz.func223,Tryz.ntmps223
  go_wp2
  go_region
  all_goals go_wp2
  all_goals go_ret
  all_goals exact ⟨by first|rfl|simp,1,rfl⟩
end Go.Proofs.YtnjlajjjcmhfgaaGreatDoor.Bs
namespace Go.Proofs.YtnjlajjjcmhfgaaGreatDoor.Bs
open Go.RowKit
set_option linter.unusedVariables false
section
variable {α:Type}
theorem good_lt {L:List (Sp α)} {c:Int} {u:Option α} (h:Good c u L) {a b:Nat} {s t:Sp α} (ha:L[a]? =some s) (hb:L[b]? =some t) (hab:a<b):s.hi<t.lo:=by
  induction L generalizing c u a b with
  | nil=>simp at ha
  | cons x r ih =>
    obtain ⟨h1,h2,h3,h4,h5⟩:=h
    cases b with
    | zero=>omega
    | succ b =>
      cases a with
      | zero =>
        simp at ha hb
        subst ha
        have:=good_lo h5 t (List.mem_of_getElem? hb)
        omega
      | succ a=>exact ih h5 (by simpa using ha) (by simpa using hb) (by omega)
theorem countP_cut (L:List α) (f:α→Bool) (c:Nat) (hc:c≤L.length) (h1:∀t s,t<c→L[t]? =some s→f s=true) (h2:∀t s,c≤t→L[t]? =some s→f s=false):L.countP f=c:=by
  have e:L=L.take c++L.drop c:=(List.take_append_drop c L).symm
  rw [e,List.countP_append]
  have e1:(L.take c).countP f=c:=by
    rw [List.countP_eq_length.2,List.length_take,Nat.min_eq_left hc]
    intro s hs
    obtain ⟨t,ht⟩:=List.mem_iff_getElem?.1 hs
    rw [List.getElem?_take] at ht
    split at ht
    · exact h1 t s (by assumption) ht
    · cases ht
  have e2:(L.drop c).countP f=0:=by
    rw [List.countP_eq_zero]
    intro s hs
    obtain ⟨t,ht⟩:=List.mem_iff_getElem?.1 hs
    rw [List.getElem?_drop] at ht
    rw [h2 (c+t) s (by omega) ht]
    simp
  omega
def pEnd (L:List (Sp α)) (k:Int) (t:Nat):Bool:=match L[t]? with|some s=>decide (k≤s.hi)|none=>true
def pSta (L:List (Sp α)) (k:Int) (t:Nat):Bool:=match L[t]? with|some s=>decide (k<s.lo)|none=>true
theorem pEnd_mono {L:List (Sp α)} {c:Int} {u:Option α} (h:Good c u L) (k:Int):∀a b,a≤b→b<L.length→pEnd L k a=true→pEnd L k b=true:=by
  intro a b hab hb hp
  obtain ⟨s,hs⟩:∃s,L[a]? =some s:=⟨_,List.getElem?_eq_getElem (by omega)⟩
  obtain ⟨t,ht⟩:∃t,L[b]? =some t:=⟨_,List.getElem?_eq_getElem hb⟩
  rcases Nat.lt_or_ge a b with hlt|hge
  · have h1:=good_lt h hs ht hlt
    have h2:=(good_lo h t (List.mem_of_getElem? ht)).2.1
    simp only [pEnd,hs,ht,decide_eq_true_eq] at hp ⊢
    omega
  · obtain rfl:a=b:=by omega
    exact hp
theorem pSta_mono {L:List (Sp α)} {c:Int} {u:Option α} (h:Good c u L) (k:Int):∀a b,a≤b→b<L.length→pSta L k a=true→pSta L k b=true:=by
  intro a b hab hb hp
  obtain ⟨s,hs⟩:∃s,L[a]? =some s:=⟨_,List.getElem?_eq_getElem (by omega)⟩
  obtain ⟨t,ht⟩:∃t,L[b]? =some t:=⟨_,List.getElem?_eq_getElem hb⟩
  rcases Nat.lt_or_ge a b with hlt|hge
  · have h1:=good_lt h hs ht hlt
    have h2:=(good_lo h s (List.mem_of_getElem? hs)).2.1
    simp only [pSta,hs,ht,decide_eq_true_eq] at hp ⊢
    omega
  · obtain rfl:a=b:=by omega
    exact hp
theorem ei_of {L:List (Sp α)} {k:Int} {c:Nat} (hc:c≤L.length) (h1:∀t,t<c→pEnd L k t=false) (h2:∀t,c≤t→t<L.length→pEnd L k t=true):ei L k=c:=by
  refine countP_cut L _ c hc (fun t s ht hs=> ?_) (fun t s ht hs=> ?_)
  · have:=h1 t ht
    simp only [pEnd,hs] at this
    simp [this]
  · have:=h2 t ht (List.getElem?_eq_some_iff.1 hs).1
    simp only [pEnd,hs] at this
    simp [this]
theorem sa_of {L:List (Sp α)} {k:Int} {c:Nat} (hc:c≤L.length) (h1:∀t,t<c→pSta L k t=false) (h2:∀t,c≤t→t<L.length→pSta L k t=true):sa L k=c:=by
  refine countP_cut L _ c hc (fun t s ht hs=> ?_) (fun t s ht hs=> ?_)
  · have:=h1 t ht
    simp only [pSta,hs] at this
    simp [this]
  · have:=h2 t ht (List.getElem?_eq_some_iff.1 hs).1
    simp only [pSta,hs] at this
    simp [this]
end
theorem cell_new (W:World) (v:Value) (t:TypeId):(W.alloc (.cells #[v] t)).cell? ⟨W.heap.size,0,none⟩=some v:=by
  rw [World.cell?_alloc_at _ _ _ _ (by simp)]; rfl
set_option maxHeartbeats 4000000 in
set_option maxRecDepth 100000 in
theorem ends_any (W:World) (lo p:Nat) (v:Value) (L:List (Sp Bool)) (k:Int) (h:MapAt W lo p v L) (hsz:L.length<4611686018427387904) :
    Calls Tryz.prog 194 #[.pointer (some ⟨p,0,none⟩),.int .u64 k] W fun e W'=>e= .returned (.int .i64 (ei L k))∧Below W.heap.size W W':=by
  obtain ⟨W0,hW0⟩:∃W0,W0=(W.alloc (.cells #[.pointer (some ⟨p,0,none⟩)] 187)).alloc (.cells #[.int .u64 k] 35):=⟨_,rfl⟩
  have hB0:Below W.heap.size W W0:=by rw [hW0]; exact ((Below.refl _ W).alloc (Nat.le_refl _) _).alloc (by simp) _
  have hb1:W0.cell? ⟨W.heap.size,0,none⟩=some (.pointer (some ⟨p,0,none⟩)):=by
    have hc1:Below (W.heap.size+1) (W.alloc (.cells #[.pointer (some ⟨p,0,none⟩)] 187)) W0:=by rw [hW0]; exact (Below.refl _ _).alloc (by simp) _
    rw [hc1.cell (p:=⟨W.heap.size,0,none⟩) (by simp)]; exact cell_new _ _ _
  have hb2:W0.cell? ⟨W.heap.size+1,0,none⟩=some (.int .u64 k):=by
    rw [hW0]
    have:=cell_new (W.alloc (.cells #[.pointer (some ⟨p,0,none⟩)] 187)) (.int .u64 k) 35
    rwa [World.size_alloc] at this
  have h0:=h.keep hB0
  have eg:∀args w,(callFunc 222 args).run Tryz.prog w= .ok (.enter 222 args) w:=enters_of Tryz.func222 (by kernel_rfl) rfl
  have hS:=search_any 222 #[.pointer (some ⟨W.heap.size,0,none⟩),.pointer (some ⟨W.heap.size+1,0,none⟩)] L.length (pEnd L k) W0 eg hsz
    (fun q i hi=>by
      obtain ⟨s,hs⟩:∃s,L[i]? =some s:=⟨_,List.getElem?_eq_getElem hi⟩
      rcases h0.own.view with ⟨_,rfl⟩|⟨g,cap,rfl,hg1,hg2,hcap,hcap2,hcell⟩
      · simp at hi
      have:=ends_closure W.heap.size (W.heap.size+1) p g cap i L.length s.hi k (W0.drewN q) hb1 hb2 h0.cell hi (hcell i s hs 1 (by omega))
      refine this.mono ?_
      rintro e w' ⟨rfl,q',rfl⟩
      exact ⟨by simp only [pEnd,hs],q+q',by rw [drewN_drewN']⟩) (pEnd_mono h.good k)
  have hcell:=h0.cell
  clear hb1 hb2
  obtain ⟨a,cap,hv⟩:∃a cap,v= .slice a L.length cap:=by
    rcases h0.own.view with ⟨rfl,rfl⟩|⟨g,cap,rfl,_⟩
    · exact ⟨_,_,rfl⟩
    · exact ⟨_,_,rfl⟩
  subst hv
  have hcW:W.cell? ⟨p,0,none⟩=some (.slice a L.length cap):=h.cell
  have hlt:=h.lt
  go_enter Tryz.func194,Tryz.ntmps194
  go_wp2_with (go_at_call 221; rw [←hW0]; refine hS.mono ?_; rintro e w' ⟨c,rfl,⟨hc1,hc2,hc3⟩,q,rfl⟩)
  go_ret
  refine ⟨?_,?_⟩
  · rw [ei_of hc1 hc2 hc3]; rfl
  · rw [←hW0]
    exact hB0.trans (grown_below (grownBy_drewN W0 none q) |>.mono hB0.size)
set_option maxHeartbeats 4000000 in
set_option maxRecDepth 100000 in
theorem starts_any (W:World) (lo p:Nat) (v:Value) (L:List (Sp Bool)) (k:Int) (h:MapAt W lo p v L) (hsz:L.length<4611686018427387904) :
    Calls Tryz.prog 195 #[.pointer (some ⟨p,0,none⟩),.int .u64 k] W fun e W'=>e= .returned (.int .i64 (sa L k))∧Below W.heap.size W W':=by
  obtain ⟨W0,hW0⟩:∃W0,W0=(W.alloc (.cells #[.pointer (some ⟨p,0,none⟩)] 187)).alloc (.cells #[.int .u64 k] 35):=⟨_,rfl⟩
  have hB0:Below W.heap.size W W0:=by rw [hW0]; exact ((Below.refl _ W).alloc (Nat.le_refl _) _).alloc (by simp) _
  have hb1:W0.cell? ⟨W.heap.size,0,none⟩=some (.pointer (some ⟨p,0,none⟩)):=by
    have hc1:Below (W.heap.size+1) (W.alloc (.cells #[.pointer (some ⟨p,0,none⟩)] 187)) W0:=by rw [hW0]; exact (Below.refl _ _).alloc (by simp) _
    rw [hc1.cell (p:=⟨W.heap.size,0,none⟩) (by simp)]; exact cell_new _ _ _
  have hb2:W0.cell? ⟨W.heap.size+1,0,none⟩=some (.int .u64 k):=by
    rw [hW0]
    have:=cell_new (W.alloc (.cells #[.pointer (some ⟨p,0,none⟩)] 187)) (.int .u64 k) 35
    rwa [World.size_alloc] at this
  have h0:=h.keep hB0
  have eg:∀args w,(callFunc 223 args).run Tryz.prog w= .ok (.enter 223 args) w:=enters_of Tryz.func223 (by kernel_rfl) rfl
  have hS:=search_any 223 #[.pointer (some ⟨W.heap.size,0,none⟩),.pointer (some ⟨W.heap.size+1,0,none⟩)] L.length (pSta L k) W0 eg hsz
    (fun q i hi=>by
      obtain ⟨s,hs⟩:∃s,L[i]? =some s:=⟨_,List.getElem?_eq_getElem hi⟩
      rcases h0.own.view with ⟨_,rfl⟩|⟨g,cap,rfl,hg1,hg2,hcap,hcap2,hcell⟩
      · simp at hi
      have:=starts_closure W.heap.size (W.heap.size+1) p g cap i L.length s.lo k (W0.drewN q) hb1 hb2 h0.cell hi (hcell i s hs 0 (by omega))
      refine this.mono ?_
      rintro e w' ⟨rfl,q',rfl⟩
      exact ⟨by simp only [pSta,hs],q+q',by rw [drewN_drewN']⟩) (pSta_mono h.good k)
  have hcell:=h0.cell
  clear hb1 hb2
  obtain ⟨a,cap,hv⟩:∃a cap,v= .slice a L.length cap:=by
    rcases h0.own.view with ⟨rfl,rfl⟩|⟨g,cap,rfl,_⟩
    · exact ⟨_,_,rfl⟩
    · exact ⟨_,_,rfl⟩
  subst hv
  have hcW:W.cell? ⟨p,0,none⟩=some (.slice a L.length cap):=h.cell
  have hlt:=h.lt
  go_enter Tryz.func195,Tryz.ntmps195
  go_wp2_with (go_at_call 221; rw [←hW0]; refine hS.mono ?_; rintro e w' ⟨c,rfl,⟨hc1,hc2,hc3⟩,q,rfl⟩)
  go_ret
  refine ⟨?_,?_⟩
  · rw [sa_of hc1 hc2 hc3]; rfl
  · rw [←hW0]
    exact hB0.trans (grown_below (grownBy_drewN W0 none q) |>.mono hB0.size)
end Go.Proofs.YtnjlajjjcmhfgaaGreatDoor.Bs
namespace Go.Proofs.YtnjlajjjcmhfgaaGreatDoor.Bs
open Go.RowKit
set_option linter.unusedVariables false
theorem bcell {B:Nat} {W w1:World} (hb:Below B W w1):(∀b o,b<B→w1.cell? ⟨b,o,none⟩=W.cell? ⟨b,o,none⟩)∧(∀b o,b<B→w1.frozen? ⟨b,o,none⟩=W.frozen? ⟨b,o,none⟩) :=
  ⟨fun b o h=>hb.cell (p:=⟨b,o,none⟩) h,fun b o h=>hb.frozen (p:=⟨b,o,none⟩) h⟩
theorem same_idle (p:Addr) (w:World) :
    CallsD Tryz.prog 197 #[.pointer (some p)] .returning w fun e u' w'=>e= .returned (.tuple #[])∧u'= .returning∧w'=w:=by
  refine callsD_of_wpS Tryz.func197 rfl fun c₀ cs hu=> ?_
  apply wpS_seq
  apply wpS_region
  simp [wpOpsS,go_sem,recoverD,hu,Tryz.ntmps197,Exit.thenS]
  refine wpS_cond (t:=false) (by simp [Act.eval,Array.replicate]) ?_
  simp only [Bool.false_eq_true,if_false]
  refine wpS_of_wp (wp_skip ?_)
  cases c₀
  simp_all [bodyPostS,results,Tryz.results197]
set_option maxHeartbeats 1000000 in
theorem same_any (a b:Bool) (w:World) :
    Calls Tryz.prog 147 #[.bool a,.bool b] w fun e w'=>e= .returned (.bool (decide (a=b)))∧Below w.heap.size w w':=by
  have hmf:∀(fn:Fn) (first cap:Array Value) (w:World),(Instr.makeFunc fn first cap).run Tryz.prog w= .ok (.func fn first cap) w:=fun _ _ _ _=>rfl
  go_enter_defers Tryz.func147,Tryz.ntmps147
  go_wp2
  refine leaves_cons (f:=197) (args:=#[.pointer (some ⟨w.heap.size,0,none⟩)]) (by simp) (by simp [go_sem]) ?_
  refine (same_idle ⟨w.heap.size,0,none⟩ _).mono ?_
  rintro e u' w'' ⟨rfl,rfl,rfl⟩
  simp [Leaves,settle,results,Tryz.results147,go_sem]
  exact ⟨by rw [Bool.eq_iff_iff]; simp,(Below.refl _ w).alloc (Nat.le_refl _) _⟩
def optV:Option (Sp Bool)→Value
  | some s=> .tuple #[.agg #[.int .u64 s.lo,.int .u64 s.hi,.bool s.val],.bool true]
  | none=> .tuple #[(.agg #[.int .u64 0,.int .u64 0,.bool false]),.bool false]
set_option maxHeartbeats 4000000 in
set_option maxRecDepth 100000 in
theorem next_none_any (W:World) (lo p:Nat) (v:Value) (L:List (Sp Bool)) (k:Int) (h:MapAt W lo p v L) (hsz:L.length<4611686018427387904) (hn:next L k=none) :
    Calls Tryz.prog 220 #[.pointer (some ⟨p,0,none⟩),.int .u64 k] W fun e W'=>e= .returned (.tuple #[(.agg #[.int .u64 0,.int .u64 0,.bool false]),.bool false])∧Below W.heap.size W W':=by
  have hei:ei L k=L.length:=by
    have h1:=ei_next h.good k
    rw [hn] at h1
    have h2:=ei_le L k
    have h3:=List.getElem?_eq_none_iff.1 h1
    omega
  obtain ⟨a,cap,hv⟩:∃a cap,v= .slice a L.length cap:=by
    rcases h.own.view with ⟨rfl,rfl⟩|⟨g,cap,rfl,_⟩
    · exact ⟨_,_,rfl⟩
    · exact ⟨_,_,rfl⟩
  subst hv
  have hB0:∀o,Below W.heap.size W (W.alloc o):=fun o=>(Below.refl _ W).alloc (Nat.le_refl _) _
  have hC:=ends_any (W.alloc (.cells #[.int .u64 0,.int .u64 0,.bool false] 232)) lo p _ L k (h.keep (hB0 _)) hsz
  rw [hei] at hC
  have hcW:W.cell? ⟨p,0,none⟩=some (.slice a L.length cap):=h.cell
  have hlt:=h.lt
  go_enter Tryz.func220,Tryz.ntmps220
  go_wp2_with (go_at_call 194; refine hC.mono ?_; rintro e w1 ⟨rfl,hb⟩; have hb':=hb; rw [World.size_alloc] at hb'; obtain ⟨hc,hf⟩:=bcell hb'; have hz:W.heap.size<w1.heap.size:=(by have:=hb.size; simp at this; omega))
  refine bodyPost_ret (v:= .tuple #[(.agg #[.int .u64 0,.int .u64 0,.bool false]),.bool false]) (by simp [results,Tryz.results220,go_sem,hc]) rfl ⟨rfl,?_⟩
  have hb2:Below W.heap.size W w1:=(hB0 _).trans (hb.mono (by simp))
  have hset:∀(q:Nat) (u:Value) (w2:World),Below W.heap.size W w2→Below W.heap.size W (w2.setCell ⟨W.heap.size,q,none⟩ u):=fun q u w2 h2=>h2.setCell (Nat.le_refl _) u
  repeat (first|exact hb2|refine hset _ _ _ ?_)
set_option maxHeartbeats 4000000 in
set_option maxRecDepth 100000 in
theorem next_some_any (W:World) (lo p:Nat) (v:Value) (L:List (Sp Bool)) (k:Int) (h:MapAt W lo p v L) (hsz:L.length<4611686018427387904) (s:Sp Bool) (hn:next L k=some s) :
    Calls Tryz.prog 220 #[.pointer (some ⟨p,0,none⟩),.int .u64 k] W fun e W'=>e= .returned (.tuple #[.agg #[.int .u64 s.lo,.int .u64 s.hi,.bool s.val],.bool true])∧Below W.heap.size W W':=by
  have h1:=ei_next h.good k
  rw [hn] at h1
  have hlt1:ei L k<L.length:=(List.getElem?_eq_some_iff.1 h1).1
  rcases h.own.view with ⟨_,rfl⟩|⟨g,cap,rfl,hg1,hg2,hcap,hcap2,hcell⟩
  · simp at hlt1
  have hB0:∀o,Below W.heap.size W (W.alloc o):=fun o=>(Below.refl _ W).alloc (Nat.le_refl _) _
  have hC:=ends_any (W.alloc (.cells #[.int .u64 0,.int .u64 0,.bool false] 232)) lo p _ L k (h.keep (hB0 _)) hsz
  generalize ei L k=c at h1 hlt1 hC
  have hcW:W.cell? ⟨p,0,none⟩=some (.slice (some ⟨g,0,none⟩) L.length cap):=h.cell
  have hlt:=h.lt
  have q0:=hcell c s h1 0 (by omega)
  have q1:=hcell c s h1 1 (by omega)
  have q2:=hcell c s h1 2 (by omega)
  simp only [encS,Nat.add_zero,List.getElem?_cons_zero,List.getElem?_cons_succ] at q0 q1 q2
  have hne:¬((c:Int)=(L.length:Int)):=by omega
  have hltz:(c:Int)<(L.length:Int):=by omega
  clear hcell h1
  go_enter Tryz.func220,Tryz.ntmps220
  go_wp2_with (go_at_call 194; refine hC.mono ?_; rintro e w1 ⟨rfl,hb⟩; have hb':=hb; rw [World.size_alloc] at hb'; obtain ⟨hc,hf⟩:=bcell hb'; have hz:W.heap.size<w1.heap.size:=(by have:=hb.size; simp at this; omega))
  refine bodyPost_ret (v:= .tuple #[.agg #[.int .u64 s.lo,.int .u64 s.hi,.bool s.val],.bool true]) (by simp [results,Tryz.results220,go_sem,hc]) rfl ⟨rfl,?_⟩
  have hb2:Below W.heap.size W w1:=(hB0 _).trans (hb.mono (by simp))
  have hset:∀(q:Nat) (u:Value) (w2:World),Below W.heap.size W w2→Below W.heap.size W (w2.setCell ⟨W.heap.size,q,none⟩ u):=fun q u w2 h2=>h2.setCell (Nat.le_refl _) u
  repeat (first|exact hb2|refine hset _ _ _ ?_)
theorem next_any (W:World) (lo p:Nat) (v:Value) (L:List (Sp Bool)) (k:Int) (h:MapAt W lo p v L) (hsz:L.length<4611686018427387904) :
    Calls Tryz.prog 220 #[.pointer (some ⟨p,0,none⟩),.int .u64 k] W fun e W'=>e= .returned (optV (next L k))∧Below W.heap.size W W':=by
  cases hn:next L k with
  | none=>exact next_none_any W lo p v L k h hsz hn
  | some s=>exact next_some_any W lo p v L k h hsz s hn
set_option maxHeartbeats 4000000 in
set_option maxRecDepth 100000 in
theorem run_any (W:World) (lo p:Nat) (v:Value) (L:List (Sp Bool)) (k:Int) (h:MapAt W lo p v L) (hsz:L.length<4611686018427387904) :
    Calls Tryz.prog 193 #[.pointer (some ⟨p,0,none⟩),.int .u64 k] W fun e W'=>e= .returned (optV (run L k))∧Below W.heap.size W W':=by
  have hB0:∀o,Below W.heap.size W (W.alloc o):=fun o=>(Below.refl _ W).alloc (Nat.le_refl _) _
  have hC:=next_any (W.alloc (.cells #[.int .u64 0,.int .u64 0,.bool false] 232)) lo p _ L k (h.keep (hB0 _)) hsz
  have hset:∀(B:Nat) (a:Addr) (u:Value) (w2:World),B≤a.block→Below B W w2→Below B W (w2.setCell a u):=fun B a u w2 ha h2=>h2.setCell ha u
  cases hn:next L k with
  | none =>
    have hr:run L k=none:=by rw [run,hn]; rfl
    rw [hr]
    rw [hn] at hC
    simp only [optV] at hC ⊢
    go_enter Tryz.func193,Tryz.ntmps193
    go_wp2_with (go_at_call 220; refine hC.mono ?_; rintro e w1 ⟨rfl,hb⟩; have hb':=hb; rw [World.size_alloc] at hb'; obtain ⟨hc,hf⟩:=bcell hb'; have hz:W.heap.size<w1.heap.size:=(by have:=hb.size; simp at this; omega))
    refine bodyPost_ret (v:= .tuple #[(.agg #[.int .u64 0,.int .u64 0,.bool false]),.bool false]) (by simp [results,Tryz.results193,go_sem,hc,hz]) rfl ⟨rfl,?_⟩
    have hb2:Below W.heap.size W w1:=(hB0 _).trans (hb.mono (by simp))
    repeat (first|exact hb2|refine hset _ _ _ _ (by first|exact Nat.le_refl _|(simp; done)|(simp; omega)) ?_|refine Below.alloc ?_ (by first|exact Nat.le_refl _|(simp; done)|(simp; omega)) _)
  | some s =>
    rw [hn] at hC
    by_cases hlo:s.lo≤k
    · have hr:run L k=some s:=by rw [run,hn]; simp [Option.filter,hlo]
      rw [hr]
      simp only [optV] at hC ⊢
      have hlo':¬(k<s.lo):=by omega
      go_enter Tryz.func193,Tryz.ntmps193
      go_wp2_with (go_at_call 220; refine hC.mono ?_; rintro e w1 ⟨rfl,hb⟩; have hb':=hb; rw [World.size_alloc] at hb'; obtain ⟨hc,hf⟩:=bcell hb'; have hz:W.heap.size<w1.heap.size:=(by have:=hb.size; simp at this; omega))
      refine bodyPost_ret (v:= .tuple #[.agg #[.int .u64 s.lo,.int .u64 s.hi,.bool s.val],.bool true]) (by simp [results,Tryz.results193,go_sem,hc,hz]) rfl ⟨rfl,?_⟩
      have hb2:Below W.heap.size W w1:=(hB0 _).trans (hb.mono (by simp))
      repeat (first|exact hb2|refine hset _ _ _ _ (by first|exact Nat.le_refl _|(simp; done)|(simp; omega)) ?_|refine Below.alloc ?_ (by first|exact Nat.le_refl _|(simp; done)|(simp; omega)) _)
    · have hr:run L k=none:=by rw [run,hn]; simp [Option.filter,hlo]
      rw [hr]
      simp only [optV] at hC ⊢
      have hlo':k<s.lo:=by omega
      go_enter Tryz.func193,Tryz.ntmps193
      go_wp2_with (go_at_call 220; refine hC.mono ?_; rintro e w1 ⟨rfl,hb⟩; have hb':=hb; rw [World.size_alloc] at hb'; obtain ⟨hc,hf⟩:=bcell hb'; have hz:W.heap.size<w1.heap.size:=(by have:=hb.size; simp at this; omega))
      refine bodyPost_ret (v:= .tuple #[(.agg #[.int .u64 0,.int .u64 0,.bool false]),.bool false]) (by simp [results,Tryz.results193,go_sem,hc,hz]) rfl ⟨rfl,?_⟩
      have hb2:Below W.heap.size W w1:=(hB0 _).trans (hb.mono (by simp))
      repeat (first|exact hb2|refine hset _ _ _ _ (by first|exact Nat.le_refl _|(simp; done)|(simp; omega)) ?_|refine Below.alloc ?_ (by first|exact Nat.le_refl _|(simp; done)|(simp; omega)) _)
end Go.Proofs.YtnjlajjjcmhfgaaGreatDoor.Bs
namespace Go.Proofs.YtnjlajjjcmhfgaaGreatDoor.Bs
open Go.RowKit
set_option linter.unusedVariables false
set_option maxHeartbeats 1000000 in
theorem new_any (W:World) :
    Calls Tryz.prog 105 #[] W fun e W'=>e= .returned (.pointer (some ⟨W.heap.size,0,none⟩))∧W'=W.alloc (.cells #[.slice none 0 0] 227):=by
  go_enter Tryz.func105,Tryz.ntmps105
  go_wp2
  go_ret
  exact ⟨rfl,rfl⟩
end Go.Proofs.YtnjlajjjcmhfgaaGreatDoor.Bs
namespace Go.Proofs.YtnjlajjjcmhfgaaGreatDoor.Bs
open Go.RowKit
set_option linter.unusedVariables false
theorem below_alloc {W0 w:World} (h:Below W0.heap.size W0 w) (o:Obj):Below W0.heap.size W0 (w.alloc o):=h.alloc h.size o
theorem below_set {W0 w:World} (h:Below W0.heap.size W0 w) {a:Addr} (ha:W0.heap.size≤a.block) (u:Value):Below W0.heap.size W0 (w.setCell a u):=h.setCell ha u
theorem below_go {W0 w w':World} (h:Below W0.heap.size W0 w) (h2:Below w.heap.size w w'):Below W0.heap.size W0 w':=h.trans (h2.mono h.size)
theorem run_at (W0 W:World) (hB:Below W0.heap.size W0 W) (lo p:Nat) (v:Value) (L:List (Sp Bool)) (k:Int) (h:MapAt W0 lo p v L) (hsz:L.length<4611686018427387904) (o:Option (Sp Bool)) (ho:run L k=o) :
    Calls Tryz.prog 193 #[.pointer (some ⟨p,0,none⟩),.int .u64 k] W fun e W'=>e= .returned (optV o)∧Below W0.heap.size W0 W'∧W.heap.size≤W'.heap.size∧Below W.heap.size W W':=by
  subst ho
  refine (run_any W lo p v L k (h.keep hB) hsz).mono ?_
  rintro e W' ⟨rfl,hb⟩
  exact ⟨rfl,below_go hB hb,hb.size,hb⟩
theorem same_at (W0 W:World) (hB:Below W0.heap.size W0 W) (a b:Bool) (t:Bool) (ht:decide (a=b)=t) :
    Calls Tryz.prog 147 #[.bool a,.bool b] W fun e W'=>e= .returned (.bool t)∧Below W0.heap.size W0 W'∧W.heap.size≤W'.heap.size∧Below W.heap.size W W':=by
  subst ht
  refine (same_any a b W).mono ?_
  rintro e W' ⟨rfl,hb⟩
  exact ⟨rfl,below_go hB hb,hb.size,hb⟩
def Side (L:List (Sp Bool)) (k:Int) (x:Bool):Prop :=
  run L k=none∨(∃s,run L k=some s∧decide (s.val=x)=true)∨∃s,run L k=some s∧decide (s.val=x)=false
theorem side_of (L:List (Sp Bool)) (k:Int) (x:Bool):Side L k x:=by
  cases h:run L k with
  | none=>exact .inl h
  | some s =>
    by_cases e:s.val=x
    · exact .inr (.inl ⟨s,h,by simpa using e⟩)
    · exact .inr (.inr ⟨s,h,by simpa using e⟩)
theorem widLo_zero {L:List (Sp Bool)} (h:Good 0 none L) (x:Bool):widLo L 0 x=0:=by
  have hr:run L (0-1)=none:=by
    cases hr:run L (0-1) with
    | none=>rfl
    | some s=>have:=run_some h hr; omega
  rw [widLo,hr]
theorem widHi_last {L:List (Sp Bool)} (h:Good 0 none L) (x:Bool):widHi L 18446744073709551615 x=18446744073709551615:=by
  have hr:run L (18446744073709551615+1)=none:=by
    cases hr:run L (18446744073709551615+1) with
    | none=>rfl
    | some s=>have:=run_some h hr; omega
  rw [widHi,hr]
theorem widLo_same {L:List (Sp Bool)} {a:Int} {x:Bool} {s:Sp Bool} (h:run L (a-1)=some s) (e:decide (s.val=x)=true):widLo L a x=s.lo:=by
  rw [widLo,h]; simp only [decide_eq_true_eq] at e; simp [e]
theorem widLo_other {L:List (Sp Bool)} {a:Int} {x:Bool} {s:Sp Bool} (h:run L (a-1)=some s) (e:decide (s.val=x)=false):widLo L a x=a:=by
  rw [widLo,h]; simp only [decide_eq_false_iff_not] at e; simp [e]
theorem widLo_none {L:List (Sp Bool)} {a:Int} {x:Bool} (h:run L (a-1)=none):widLo L a x=a:=by rw [widLo,h]
theorem widHi_same {L:List (Sp Bool)} {a:Int} {x:Bool} {s:Sp Bool} (h:run L (a+1)=some s) (e:decide (s.val=x)=true):widHi L a x=s.hi:=by
  rw [widHi,h]; simp only [decide_eq_true_eq] at e; simp [e]
theorem widHi_other {L:List (Sp Bool)} {a:Int} {x:Bool} {s:Sp Bool} (h:run L (a+1)=some s) (e:decide (s.val=x)=false):widHi L a x=a:=by
  rw [widHi,h]; simp only [decide_eq_false_iff_not] at e; simp [e]
theorem widHi_none {L:List (Sp Bool)} {a:Int} {x:Bool} (h:run L (a+1)=none):widHi L a x=a:=by rw [widHi,h]
set_option maxHeartbeats 8000000 in
set_option maxRecDepth 100000 in
theorem widen_ZZ (W:World) (lo p:Nat) (v:Value) (L:List (Sp Bool)) (a b:Int) (x:Bool) (h:MapAt W lo p v L) (hsz:L.length<4611686018427387904) (ha:0≤a) (hb:b≤18446744073709551615) (ha2:a≤18446744073709551615) (hb2:0≤b) (ha0:¬0<a) (hbm:¬b<18446744073709551615) :
    Calls Tryz.prog 143 #[.pointer (some ⟨p,0,none⟩),.int .u64 a,.int .u64 b,.bool x] W fun e W'=>e= .returned (.tuple #[.int .u64 (a),.int .u64 (b)])∧Below W.heap.size W W':=by
  have hB:=Below.refl W.heap.size W
  go_enter Tryz.func143,Tryz.ntmps143
  go_wp2
  go_ret2
  exact ⟨rfl,(by repeat (first|assumption|refine below_set ?_ (by first|assumption|exact Nat.le_refl _|omega) _|refine below_alloc ?_ _))⟩
set_option maxHeartbeats 8000000 in
set_option maxRecDepth 100000 in
theorem widen_ZN (W:World) (lo p:Nat) (v:Value) (L:List (Sp Bool)) (a b:Int) (x:Bool) (h:MapAt W lo p v L) (hsz:L.length<4611686018427387904) (ha:0≤a) (hb:b≤18446744073709551615) (ha2:a≤18446744073709551615) (hb2:0≤b) (ha0:¬0<a) (hbm:b<18446744073709551615) (HR':Hid (run L (b+1)=none)) :
    Calls Tryz.prog 143 #[.pointer (some ⟨p,0,none⟩),.int .u64 a,.int .u64 b,.bool x] W fun e W'=>e= .returned (.tuple #[.int .u64 (a),.int .u64 (b)])∧Below W.heap.size W W':=by
  have hB:=Below.refl W.heap.size W
  go_enter Tryz.func143,Tryz.ntmps143
  go_wp2_with (first|(go_at_call 193; refine (run_at W _ (by repeat (first|assumption|refine below_set ?_ (by first|assumption|exact Nat.le_refl _|omega) _|refine below_alloc ?_ _)) lo p v L _ h hsz _ (by first|exact HR'.out)).mono ?_; simp only [optV]; rintro e w1 ⟨rfl,hb1,hz1,hc1⟩))
  go_ret2
  exact ⟨rfl,(by repeat (first|assumption|refine below_set ?_ (by first|assumption|exact Nat.le_refl _|omega) _|refine below_alloc ?_ _))⟩
set_option maxHeartbeats 8000000 in
set_option maxRecDepth 100000 in
theorem widen_ZS (W:World) (lo p:Nat) (v:Value) (L:List (Sp Bool)) (a b:Int) (x:Bool) (h:MapAt W lo p v L) (hsz:L.length<4611686018427387904) (ha:0≤a) (hb:b≤18446744073709551615) (ha2:a≤18446744073709551615) (hb2:0≤b) (ha0:¬0<a) (hbm:b<18446744073709551615) (s':Sp Bool) (HR':Hid (run L (b+1)=some s')) (E':Hid (decide (s'.val=x)=true)) :
    Calls Tryz.prog 143 #[.pointer (some ⟨p,0,none⟩),.int .u64 a,.int .u64 b,.bool x] W fun e W'=>e= .returned (.tuple #[.int .u64 (a),.int .u64 (s'.hi)])∧Below W.heap.size W W':=by
  have hB:=Below.refl W.heap.size W
  go_enter Tryz.func143,Tryz.ntmps143
  go_wp2_with (first|(go_at_call 193; refine (run_at W _ (by repeat (first|assumption|refine below_set ?_ (by first|assumption|exact Nat.le_refl _|omega) _|refine below_alloc ?_ _)) lo p v L _ h hsz _ (by first|exact HR'.out)).mono ?_; simp only [optV]; rintro e w1 ⟨rfl,hb1,hz1,hc1⟩)|(go_at_call 147; refine (same_at W _ (by repeat (first|assumption|refine below_set ?_ (by first|assumption|exact Nat.le_refl _|omega) _|refine below_alloc ?_ _)) _ _ _ (by first|exact E'.out)).mono ?_; rintro e w2 ⟨rfl,hb3,hz3,hc3⟩; rw [World.size_alloc] at hc3 hz3; obtain ⟨hcc,hff⟩:=bcell hc3))
  go_ret2
  exact ⟨rfl,(by repeat (first|assumption|refine below_set ?_ (by first|assumption|exact Nat.le_refl _|omega) _|refine below_alloc ?_ _))⟩
set_option maxHeartbeats 8000000 in
set_option maxRecDepth 100000 in
theorem widen_ZO (W:World) (lo p:Nat) (v:Value) (L:List (Sp Bool)) (a b:Int) (x:Bool) (h:MapAt W lo p v L) (hsz:L.length<4611686018427387904) (ha:0≤a) (hb:b≤18446744073709551615) (ha2:a≤18446744073709551615) (hb2:0≤b) (ha0:¬0<a) (hbm:b<18446744073709551615) (s':Sp Bool) (HR':Hid (run L (b+1)=some s')) (E':Hid (decide (s'.val=x)=false)) :
    Calls Tryz.prog 143 #[.pointer (some ⟨p,0,none⟩),.int .u64 a,.int .u64 b,.bool x] W fun e W'=>e= .returned (.tuple #[.int .u64 (a),.int .u64 (b)])∧Below W.heap.size W W':=by
  have hB:=Below.refl W.heap.size W
  go_enter Tryz.func143,Tryz.ntmps143
  go_wp2_with (first|(go_at_call 193; refine (run_at W _ (by repeat (first|assumption|refine below_set ?_ (by first|assumption|exact Nat.le_refl _|omega) _|refine below_alloc ?_ _)) lo p v L _ h hsz _ (by first|exact HR'.out)).mono ?_; simp only [optV]; rintro e w1 ⟨rfl,hb1,hz1,hc1⟩)|(go_at_call 147; refine (same_at W _ (by repeat (first|assumption|refine below_set ?_ (by first|assumption|exact Nat.le_refl _|omega) _|refine below_alloc ?_ _)) _ _ _ (by first|exact E'.out)).mono ?_; rintro e w2 ⟨rfl,hb3,hz3,hc3⟩; rw [World.size_alloc] at hc3 hz3; obtain ⟨hcc,hff⟩:=bcell hc3))
  go_ret2
  exact ⟨rfl,(by repeat (first|assumption|refine below_set ?_ (by first|assumption|exact Nat.le_refl _|omega) _|refine below_alloc ?_ _))⟩
set_option maxHeartbeats 8000000 in
set_option maxRecDepth 100000 in
theorem widen_NZ (W:World) (lo p:Nat) (v:Value) (L:List (Sp Bool)) (a b:Int) (x:Bool) (h:MapAt W lo p v L) (hsz:L.length<4611686018427387904) (ha:0≤a) (hb:b≤18446744073709551615) (ha2:a≤18446744073709551615) (hb2:0≤b) (ha0:0<a) (hbm:¬b<18446744073709551615) (HR:Hid (run L (a-1)=none)) :
    Calls Tryz.prog 143 #[.pointer (some ⟨p,0,none⟩),.int .u64 a,.int .u64 b,.bool x] W fun e W'=>e= .returned (.tuple #[.int .u64 (a),.int .u64 (b)])∧Below W.heap.size W W':=by
  have hB:=Below.refl W.heap.size W
  go_enter Tryz.func143,Tryz.ntmps143
  go_wp2_with (first|(go_at_call 193; refine (run_at W _ (by repeat (first|assumption|refine below_set ?_ (by first|assumption|exact Nat.le_refl _|omega) _|refine below_alloc ?_ _)) lo p v L _ h hsz _ (by first|exact HR.out)).mono ?_; simp only [optV]; rintro e w1 ⟨rfl,hb1,hz1,hc1⟩))
  go_ret2
  exact ⟨rfl,(by repeat (first|assumption|refine below_set ?_ (by first|assumption|exact Nat.le_refl _|omega) _|refine below_alloc ?_ _))⟩
set_option maxHeartbeats 8000000 in
set_option maxRecDepth 100000 in
theorem widen_NN (W:World) (lo p:Nat) (v:Value) (L:List (Sp Bool)) (a b:Int) (x:Bool) (h:MapAt W lo p v L) (hsz:L.length<4611686018427387904) (ha:0≤a) (hb:b≤18446744073709551615) (ha2:a≤18446744073709551615) (hb2:0≤b) (ha0:0<a) (hbm:b<18446744073709551615) (HR:Hid (run L (a-1)=none)) (HR':Hid (run L (b+1)=none)) :
    Calls Tryz.prog 143 #[.pointer (some ⟨p,0,none⟩),.int .u64 a,.int .u64 b,.bool x] W fun e W'=>e= .returned (.tuple #[.int .u64 (a),.int .u64 (b)])∧Below W.heap.size W W':=by
  have hB:=Below.refl W.heap.size W
  go_enter Tryz.func143,Tryz.ntmps143
  go_wp2_with (first|(go_at_call 193; refine (run_at W _ (by repeat (first|assumption|refine below_set ?_ (by first|assumption|exact Nat.le_refl _|omega) _|refine below_alloc ?_ _)) lo p v L _ h hsz _ (by first|exact HR.out|exact HR'.out)).mono ?_; simp only [optV]; rintro e w1 ⟨rfl,hb1,hz1,hc1⟩))
  go_ret2
  exact ⟨rfl,(by repeat (first|assumption|refine below_set ?_ (by first|assumption|exact Nat.le_refl _|omega) _|refine below_alloc ?_ _))⟩
set_option maxHeartbeats 8000000 in
set_option maxRecDepth 100000 in
theorem widen_NS (W:World) (lo p:Nat) (v:Value) (L:List (Sp Bool)) (a b:Int) (x:Bool) (h:MapAt W lo p v L) (hsz:L.length<4611686018427387904) (ha:0≤a) (hb:b≤18446744073709551615) (ha2:a≤18446744073709551615) (hb2:0≤b) (ha0:0<a) (hbm:b<18446744073709551615) (HR:Hid (run L (a-1)=none)) (s':Sp Bool) (HR':Hid (run L (b+1)=some s')) (E':Hid (decide (s'.val=x)=true)) :
    Calls Tryz.prog 143 #[.pointer (some ⟨p,0,none⟩),.int .u64 a,.int .u64 b,.bool x] W fun e W'=>e= .returned (.tuple #[.int .u64 (a),.int .u64 (s'.hi)])∧Below W.heap.size W W':=by
  have hB:=Below.refl W.heap.size W
  go_enter Tryz.func143,Tryz.ntmps143
  go_wp2_with (first|(go_at_call 193; refine (run_at W _ (by repeat (first|assumption|refine below_set ?_ (by first|assumption|exact Nat.le_refl _|omega) _|refine below_alloc ?_ _)) lo p v L _ h hsz _ (by first|exact HR.out|exact HR'.out)).mono ?_; simp only [optV]; rintro e w1 ⟨rfl,hb1,hz1,hc1⟩)|(go_at_call 147; refine (same_at W _ (by repeat (first|assumption|refine below_set ?_ (by first|assumption|exact Nat.le_refl _|omega) _|refine below_alloc ?_ _)) _ _ _ (by first|exact E'.out)).mono ?_; rintro e w2 ⟨rfl,hb3,hz3,hc3⟩; rw [World.size_alloc] at hc3 hz3; obtain ⟨hcc,hff⟩:=bcell hc3))
  go_ret2
  exact ⟨rfl,(by repeat (first|assumption|refine below_set ?_ (by first|assumption|exact Nat.le_refl _|omega) _|refine below_alloc ?_ _))⟩
set_option maxHeartbeats 8000000 in
set_option maxRecDepth 100000 in
theorem widen_NO (W:World) (lo p:Nat) (v:Value) (L:List (Sp Bool)) (a b:Int) (x:Bool) (h:MapAt W lo p v L) (hsz:L.length<4611686018427387904) (ha:0≤a) (hb:b≤18446744073709551615) (ha2:a≤18446744073709551615) (hb2:0≤b) (ha0:0<a) (hbm:b<18446744073709551615) (HR:Hid (run L (a-1)=none)) (s':Sp Bool) (HR':Hid (run L (b+1)=some s')) (E':Hid (decide (s'.val=x)=false)) :
    Calls Tryz.prog 143 #[.pointer (some ⟨p,0,none⟩),.int .u64 a,.int .u64 b,.bool x] W fun e W'=>e= .returned (.tuple #[.int .u64 (a),.int .u64 (b)])∧Below W.heap.size W W':=by
  have hB:=Below.refl W.heap.size W
  go_enter Tryz.func143,Tryz.ntmps143
  go_wp2_with (first|(go_at_call 193; refine (run_at W _ (by repeat (first|assumption|refine below_set ?_ (by first|assumption|exact Nat.le_refl _|omega) _|refine below_alloc ?_ _)) lo p v L _ h hsz _ (by first|exact HR.out|exact HR'.out)).mono ?_; simp only [optV]; rintro e w1 ⟨rfl,hb1,hz1,hc1⟩)|(go_at_call 147; refine (same_at W _ (by repeat (first|assumption|refine below_set ?_ (by first|assumption|exact Nat.le_refl _|omega) _|refine below_alloc ?_ _)) _ _ _ (by first|exact E'.out)).mono ?_; rintro e w2 ⟨rfl,hb3,hz3,hc3⟩; rw [World.size_alloc] at hc3 hz3; obtain ⟨hcc,hff⟩:=bcell hc3))
  go_ret2
  exact ⟨rfl,(by repeat (first|assumption|refine below_set ?_ (by first|assumption|exact Nat.le_refl _|omega) _|refine below_alloc ?_ _))⟩
set_option maxHeartbeats 8000000 in
set_option maxRecDepth 100000 in
theorem widen_SZ (W:World) (lo p:Nat) (v:Value) (L:List (Sp Bool)) (a b:Int) (x:Bool) (h:MapAt W lo p v L) (hsz:L.length<4611686018427387904) (ha:0≤a) (hb:b≤18446744073709551615) (ha2:a≤18446744073709551615) (hb2:0≤b) (ha0:0<a) (hbm:¬b<18446744073709551615) (s:Sp Bool) (HR:Hid (run L (a-1)=some s)) (E:Hid (decide (s.val=x)=true)) :
    Calls Tryz.prog 143 #[.pointer (some ⟨p,0,none⟩),.int .u64 a,.int .u64 b,.bool x] W fun e W'=>e= .returned (.tuple #[.int .u64 (s.lo),.int .u64 (b)])∧Below W.heap.size W W':=by
  have hB:=Below.refl W.heap.size W
  go_enter Tryz.func143,Tryz.ntmps143
  go_wp2_with (first|(go_at_call 193; refine (run_at W _ (by repeat (first|assumption|refine below_set ?_ (by first|assumption|exact Nat.le_refl _|omega) _|refine below_alloc ?_ _)) lo p v L _ h hsz _ (by first|exact HR.out)).mono ?_; simp only [optV]; rintro e w1 ⟨rfl,hb1,hz1,hc1⟩)|(go_at_call 147; refine (same_at W _ (by repeat (first|assumption|refine below_set ?_ (by first|assumption|exact Nat.le_refl _|omega) _|refine below_alloc ?_ _)) _ _ _ (by first|exact E.out)).mono ?_; rintro e w2 ⟨rfl,hb3,hz3,hc3⟩; rw [World.size_alloc] at hc3 hz3; obtain ⟨hcc,hff⟩:=bcell hc3))
  go_ret2
  exact ⟨rfl,(by repeat (first|assumption|refine below_set ?_ (by first|assumption|exact Nat.le_refl _|omega) _|refine below_alloc ?_ _))⟩
set_option maxHeartbeats 8000000 in
set_option maxRecDepth 100000 in
theorem widen_SN (W:World) (lo p:Nat) (v:Value) (L:List (Sp Bool)) (a b:Int) (x:Bool) (h:MapAt W lo p v L) (hsz:L.length<4611686018427387904) (ha:0≤a) (hb:b≤18446744073709551615) (ha2:a≤18446744073709551615) (hb2:0≤b) (ha0:0<a) (hbm:b<18446744073709551615) (s:Sp Bool) (HR:Hid (run L (a-1)=some s)) (E:Hid (decide (s.val=x)=true)) (HR':Hid (run L (b+1)=none)) :
    Calls Tryz.prog 143 #[.pointer (some ⟨p,0,none⟩),.int .u64 a,.int .u64 b,.bool x] W fun e W'=>e= .returned (.tuple #[.int .u64 (s.lo),.int .u64 (b)])∧Below W.heap.size W W':=by
  have hB:=Below.refl W.heap.size W
  go_enter Tryz.func143,Tryz.ntmps143
  go_wp2_with (first|(go_at_call 193; refine (run_at W _ (by repeat (first|assumption|refine below_set ?_ (by first|assumption|exact Nat.le_refl _|omega) _|refine below_alloc ?_ _)) lo p v L _ h hsz _ (by first|exact HR.out|exact HR'.out)).mono ?_; simp only [optV]; rintro e w1 ⟨rfl,hb1,hz1,hc1⟩)|(go_at_call 147; refine (same_at W _ (by repeat (first|assumption|refine below_set ?_ (by first|assumption|exact Nat.le_refl _|omega) _|refine below_alloc ?_ _)) _ _ _ (by first|exact E.out)).mono ?_; rintro e w2 ⟨rfl,hb3,hz3,hc3⟩; rw [World.size_alloc] at hc3 hz3; obtain ⟨hcc,hff⟩:=bcell hc3))
  go_ret2
  exact ⟨rfl,(by repeat (first|assumption|refine below_set ?_ (by first|assumption|exact Nat.le_refl _|omega) _|refine below_alloc ?_ _))⟩
set_option maxHeartbeats 8000000 in
set_option maxRecDepth 100000 in
theorem widen_SS (W:World) (lo p:Nat) (v:Value) (L:List (Sp Bool)) (a b:Int) (x:Bool) (h:MapAt W lo p v L) (hsz:L.length<4611686018427387904) (ha:0≤a) (hb:b≤18446744073709551615) (ha2:a≤18446744073709551615) (hb2:0≤b) (ha0:0<a) (hbm:b<18446744073709551615) (s:Sp Bool) (HR:Hid (run L (a-1)=some s)) (E:Hid (decide (s.val=x)=true)) (s':Sp Bool) (HR':Hid (run L (b+1)=some s')) (E':Hid (decide (s'.val=x)=true)) :
    Calls Tryz.prog 143 #[.pointer (some ⟨p,0,none⟩),.int .u64 a,.int .u64 b,.bool x] W fun e W'=>e= .returned (.tuple #[.int .u64 (s.lo),.int .u64 (s'.hi)])∧Below W.heap.size W W':=by
  have hB:=Below.refl W.heap.size W
  go_enter Tryz.func143,Tryz.ntmps143
  go_wp2_with (first|(go_at_call 193; refine (run_at W _ (by repeat (first|assumption|refine below_set ?_ (by first|assumption|exact Nat.le_refl _|omega) _|refine below_alloc ?_ _)) lo p v L _ h hsz _ (by first|exact HR.out|exact HR'.out)).mono ?_; simp only [optV]; rintro e w1 ⟨rfl,hb1,hz1,hc1⟩)|(go_at_call 147; refine (same_at W _ (by repeat (first|assumption|refine below_set ?_ (by first|assumption|exact Nat.le_refl _|omega) _|refine below_alloc ?_ _)) _ _ _ (by first|exact E.out|exact E'.out)).mono ?_; rintro e w2 ⟨rfl,hb3,hz3,hc3⟩; rw [World.size_alloc] at hc3 hz3; obtain ⟨hcc,hff⟩:=bcell hc3))
  go_ret2
  exact ⟨rfl,(by repeat (first|assumption|refine below_set ?_ (by first|assumption|exact Nat.le_refl _|omega) _|refine below_alloc ?_ _))⟩
set_option maxHeartbeats 8000000 in
set_option maxRecDepth 100000 in
theorem widen_SO (W:World) (lo p:Nat) (v:Value) (L:List (Sp Bool)) (a b:Int) (x:Bool) (h:MapAt W lo p v L) (hsz:L.length<4611686018427387904) (ha:0≤a) (hb:b≤18446744073709551615) (ha2:a≤18446744073709551615) (hb2:0≤b) (ha0:0<a) (hbm:b<18446744073709551615) (s:Sp Bool) (HR:Hid (run L (a-1)=some s)) (E:Hid (decide (s.val=x)=true)) (s':Sp Bool) (HR':Hid (run L (b+1)=some s')) (E':Hid (decide (s'.val=x)=false)) :
    Calls Tryz.prog 143 #[.pointer (some ⟨p,0,none⟩),.int .u64 a,.int .u64 b,.bool x] W fun e W'=>e= .returned (.tuple #[.int .u64 (s.lo),.int .u64 (b)])∧Below W.heap.size W W':=by
  have hB:=Below.refl W.heap.size W
  go_enter Tryz.func143,Tryz.ntmps143
  go_wp2_with (first|(go_at_call 193; refine (run_at W _ (by repeat (first|assumption|refine below_set ?_ (by first|assumption|exact Nat.le_refl _|omega) _|refine below_alloc ?_ _)) lo p v L _ h hsz _ (by first|exact HR.out|exact HR'.out)).mono ?_; simp only [optV]; rintro e w1 ⟨rfl,hb1,hz1,hc1⟩)|(go_at_call 147; refine (same_at W _ (by repeat (first|assumption|refine below_set ?_ (by first|assumption|exact Nat.le_refl _|omega) _|refine below_alloc ?_ _)) _ _ _ (by first|exact E.out|exact E'.out)).mono ?_; rintro e w2 ⟨rfl,hb3,hz3,hc3⟩; rw [World.size_alloc] at hc3 hz3; obtain ⟨hcc,hff⟩:=bcell hc3))
  go_ret2
  exact ⟨rfl,(by repeat (first|assumption|refine below_set ?_ (by first|assumption|exact Nat.le_refl _|omega) _|refine below_alloc ?_ _))⟩
set_option maxHeartbeats 8000000 in
set_option maxRecDepth 100000 in
theorem widen_OZ (W:World) (lo p:Nat) (v:Value) (L:List (Sp Bool)) (a b:Int) (x:Bool) (h:MapAt W lo p v L) (hsz:L.length<4611686018427387904) (ha:0≤a) (hb:b≤18446744073709551615) (ha2:a≤18446744073709551615) (hb2:0≤b) (ha0:0<a) (hbm:¬b<18446744073709551615) (s:Sp Bool) (HR:Hid (run L (a-1)=some s)) (E:Hid (decide (s.val=x)=false)) :
    Calls Tryz.prog 143 #[.pointer (some ⟨p,0,none⟩),.int .u64 a,.int .u64 b,.bool x] W fun e W'=>e= .returned (.tuple #[.int .u64 (a),.int .u64 (b)])∧Below W.heap.size W W':=by
  have hB:=Below.refl W.heap.size W
  go_enter Tryz.func143,Tryz.ntmps143
  go_wp2_with (first|(go_at_call 193; refine (run_at W _ (by repeat (first|assumption|refine below_set ?_ (by first|assumption|exact Nat.le_refl _|omega) _|refine below_alloc ?_ _)) lo p v L _ h hsz _ (by first|exact HR.out)).mono ?_; simp only [optV]; rintro e w1 ⟨rfl,hb1,hz1,hc1⟩)|(go_at_call 147; refine (same_at W _ (by repeat (first|assumption|refine below_set ?_ (by first|assumption|exact Nat.le_refl _|omega) _|refine below_alloc ?_ _)) _ _ _ (by first|exact E.out)).mono ?_; rintro e w2 ⟨rfl,hb3,hz3,hc3⟩; rw [World.size_alloc] at hc3 hz3; obtain ⟨hcc,hff⟩:=bcell hc3))
  go_ret2
  exact ⟨rfl,(by repeat (first|assumption|refine below_set ?_ (by first|assumption|exact Nat.le_refl _|omega) _|refine below_alloc ?_ _))⟩
set_option maxHeartbeats 8000000 in
set_option maxRecDepth 100000 in
theorem widen_ON (W:World) (lo p:Nat) (v:Value) (L:List (Sp Bool)) (a b:Int) (x:Bool) (h:MapAt W lo p v L) (hsz:L.length<4611686018427387904) (ha:0≤a) (hb:b≤18446744073709551615) (ha2:a≤18446744073709551615) (hb2:0≤b) (ha0:0<a) (hbm:b<18446744073709551615) (s:Sp Bool) (HR:Hid (run L (a-1)=some s)) (E:Hid (decide (s.val=x)=false)) (HR':Hid (run L (b+1)=none)) :
    Calls Tryz.prog 143 #[.pointer (some ⟨p,0,none⟩),.int .u64 a,.int .u64 b,.bool x] W fun e W'=>e= .returned (.tuple #[.int .u64 (a),.int .u64 (b)])∧Below W.heap.size W W':=by
  have hB:=Below.refl W.heap.size W
  go_enter Tryz.func143,Tryz.ntmps143
  go_wp2_with (first|(go_at_call 193; refine (run_at W _ (by repeat (first|assumption|refine below_set ?_ (by first|assumption|exact Nat.le_refl _|omega) _|refine below_alloc ?_ _)) lo p v L _ h hsz _ (by first|exact HR.out|exact HR'.out)).mono ?_; simp only [optV]; rintro e w1 ⟨rfl,hb1,hz1,hc1⟩)|(go_at_call 147; refine (same_at W _ (by repeat (first|assumption|refine below_set ?_ (by first|assumption|exact Nat.le_refl _|omega) _|refine below_alloc ?_ _)) _ _ _ (by first|exact E.out)).mono ?_; rintro e w2 ⟨rfl,hb3,hz3,hc3⟩; rw [World.size_alloc] at hc3 hz3; obtain ⟨hcc,hff⟩:=bcell hc3))
  go_ret2
  exact ⟨rfl,(by repeat (first|assumption|refine below_set ?_ (by first|assumption|exact Nat.le_refl _|omega) _|refine below_alloc ?_ _))⟩
set_option maxHeartbeats 8000000 in
set_option maxRecDepth 100000 in
theorem widen_OS (W:World) (lo p:Nat) (v:Value) (L:List (Sp Bool)) (a b:Int) (x:Bool) (h:MapAt W lo p v L) (hsz:L.length<4611686018427387904) (ha:0≤a) (hb:b≤18446744073709551615) (ha2:a≤18446744073709551615) (hb2:0≤b) (ha0:0<a) (hbm:b<18446744073709551615) (s:Sp Bool) (HR:Hid (run L (a-1)=some s)) (E:Hid (decide (s.val=x)=false)) (s':Sp Bool) (HR':Hid (run L (b+1)=some s')) (E':Hid (decide (s'.val=x)=true)) :
    Calls Tryz.prog 143 #[.pointer (some ⟨p,0,none⟩),.int .u64 a,.int .u64 b,.bool x] W fun e W'=>e= .returned (.tuple #[.int .u64 (a),.int .u64 (s'.hi)])∧Below W.heap.size W W':=by
  have hB:=Below.refl W.heap.size W
  go_enter Tryz.func143,Tryz.ntmps143
  go_wp2_with (first|(go_at_call 193; refine (run_at W _ (by repeat (first|assumption|refine below_set ?_ (by first|assumption|exact Nat.le_refl _|omega) _|refine below_alloc ?_ _)) lo p v L _ h hsz _ (by first|exact HR.out|exact HR'.out)).mono ?_; simp only [optV]; rintro e w1 ⟨rfl,hb1,hz1,hc1⟩)|(go_at_call 147; refine (same_at W _ (by repeat (first|assumption|refine below_set ?_ (by first|assumption|exact Nat.le_refl _|omega) _|refine below_alloc ?_ _)) _ _ _ (by first|exact E.out|exact E'.out)).mono ?_; rintro e w2 ⟨rfl,hb3,hz3,hc3⟩; rw [World.size_alloc] at hc3 hz3; obtain ⟨hcc,hff⟩:=bcell hc3))
  go_ret2
  exact ⟨rfl,(by repeat (first|assumption|refine below_set ?_ (by first|assumption|exact Nat.le_refl _|omega) _|refine below_alloc ?_ _))⟩
set_option maxHeartbeats 8000000 in
set_option maxRecDepth 100000 in
theorem widen_OO (W:World) (lo p:Nat) (v:Value) (L:List (Sp Bool)) (a b:Int) (x:Bool) (h:MapAt W lo p v L) (hsz:L.length<4611686018427387904) (ha:0≤a) (hb:b≤18446744073709551615) (ha2:a≤18446744073709551615) (hb2:0≤b) (ha0:0<a) (hbm:b<18446744073709551615) (s:Sp Bool) (HR:Hid (run L (a-1)=some s)) (E:Hid (decide (s.val=x)=false)) (s':Sp Bool) (HR':Hid (run L (b+1)=some s')) (E':Hid (decide (s'.val=x)=false)) :
    Calls Tryz.prog 143 #[.pointer (some ⟨p,0,none⟩),.int .u64 a,.int .u64 b,.bool x] W fun e W'=>e= .returned (.tuple #[.int .u64 (a),.int .u64 (b)])∧Below W.heap.size W W':=by
  have hB:=Below.refl W.heap.size W
  go_enter Tryz.func143,Tryz.ntmps143
  go_wp2_with (first|(go_at_call 193; refine (run_at W _ (by repeat (first|assumption|refine below_set ?_ (by first|assumption|exact Nat.le_refl _|omega) _|refine below_alloc ?_ _)) lo p v L _ h hsz _ (by first|exact HR.out|exact HR'.out)).mono ?_; simp only [optV]; rintro e w1 ⟨rfl,hb1,hz1,hc1⟩)|(go_at_call 147; refine (same_at W _ (by repeat (first|assumption|refine below_set ?_ (by first|assumption|exact Nat.le_refl _|omega) _|refine below_alloc ?_ _)) _ _ _ (by first|exact E.out|exact E'.out)).mono ?_; rintro e w2 ⟨rfl,hb3,hz3,hc3⟩; rw [World.size_alloc] at hc3 hz3; obtain ⟨hcc,hff⟩:=bcell hc3))
  go_ret2
  exact ⟨rfl,(by repeat (first|assumption|refine below_set ?_ (by first|assumption|exact Nat.le_refl _|omega) _|refine below_alloc ?_ _))⟩
theorem widen_any (W:World) (lo p:Nat) (v:Value) (L:List (Sp Bool)) (a b:Int) (x:Bool) (h:MapAt W lo p v L) (hsz:L.length<4611686018427387904) (ha:0≤a) (hb:b≤18446744073709551615) (ha2:a≤18446744073709551615) (hb2:0≤b) :
    Calls Tryz.prog 143 #[.pointer (some ⟨p,0,none⟩),.int .u64 a,.int .u64 b,.bool x] W fun e W'=>e= .returned (.tuple #[.int .u64 (widLo L a x),.int .u64 (widHi L b x)])∧Below W.heap.size W W':=by
  have hg:=h.good
  by_cases ha0:0<a
  · by_cases hbm:b<18446744073709551615
    · rcases side_of L (a-1) x with hr|⟨s,hr,e⟩|⟨s,hr,e⟩ <;>rcases side_of L (b+1) x with hr'|⟨s',hr',e'⟩|⟨s',hr',e'⟩
      · rw [widLo_none hr,widHi_none hr']; exact widen_NN W lo p v L a b x h hsz ha hb ha2 hb2 ha0 hbm hr hr'
      · rw [widLo_none hr,widHi_same hr' e']; exact widen_NS W lo p v L a b x h hsz ha hb ha2 hb2 ha0 hbm hr s' hr' e'
      · rw [widLo_none hr,widHi_other hr' e']; exact widen_NO W lo p v L a b x h hsz ha hb ha2 hb2 ha0 hbm hr s' hr' e'
      · rw [widLo_same hr e,widHi_none hr']; exact widen_SN W lo p v L a b x h hsz ha hb ha2 hb2 ha0 hbm s hr e hr'
      · rw [widLo_same hr e,widHi_same hr' e']; exact widen_SS W lo p v L a b x h hsz ha hb ha2 hb2 ha0 hbm s hr e s' hr' e'
      · rw [widLo_same hr e,widHi_other hr' e']; exact widen_SO W lo p v L a b x h hsz ha hb ha2 hb2 ha0 hbm s hr e s' hr' e'
      · rw [widLo_other hr e,widHi_none hr']; exact widen_ON W lo p v L a b x h hsz ha hb ha2 hb2 ha0 hbm s hr e hr'
      · rw [widLo_other hr e,widHi_same hr' e']; exact widen_OS W lo p v L a b x h hsz ha hb ha2 hb2 ha0 hbm s hr e s' hr' e'
      · rw [widLo_other hr e,widHi_other hr' e']; exact widen_OO W lo p v L a b x h hsz ha hb ha2 hb2 ha0 hbm s hr e s' hr' e'
    · obtain rfl:b=18446744073709551615:=by omega
      rw [widHi_last hg]
      rcases side_of L (a-1) x with hr|⟨s,hr,e⟩|⟨s,hr,e⟩
      · rw [widLo_none hr]; exact widen_NZ W lo p v L a _ x h hsz ha hb ha2 hb2 ha0 hbm hr
      · rw [widLo_same hr e]; exact widen_SZ W lo p v L a _ x h hsz ha hb ha2 hb2 ha0 hbm s hr e
      · rw [widLo_other hr e]; exact widen_OZ W lo p v L a _ x h hsz ha hb ha2 hb2 ha0 hbm s hr e
  · obtain rfl:a=0:=by omega
    rw [widLo_zero hg]
    by_cases hbm:b<18446744073709551615
    · rcases side_of L (b+1) x with hr'|⟨s',hr',e'⟩|⟨s',hr',e'⟩
      · rw [widHi_none hr']; exact widen_ZN W lo p v L _ b x h hsz ha hb ha2 hb2 ha0 hbm hr'
      · rw [widHi_same hr' e']; exact widen_ZS W lo p v L _ b x h hsz ha hb ha2 hb2 ha0 hbm s' hr' e'
      · rw [widHi_other hr' e']; exact widen_ZO W lo p v L _ b x h hsz ha hb ha2 hb2 ha0 hbm s' hr' e'
    · obtain rfl:b=18446744073709551615:=by omega
      rw [widHi_last hg]
      exact widen_ZZ W lo p v L _ _ x h hsz ha hb ha2 hb2 ha0 hbm
end Go.Proofs.YtnjlajjjcmhfgaaGreatDoor.Bs
