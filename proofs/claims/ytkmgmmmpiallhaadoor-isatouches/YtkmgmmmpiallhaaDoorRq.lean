import Derived.Test.YtkmgmmmpiallhaaDoorRn
import Derived.Test.YtkmgmmmpiallhaaDoorRo
import Derived.Test.YtkmgmmmpiallhaaDoorRp
namespace Go.Proofs.YtkmgmmmpiallhaaDoor
open Go.RowKit
set_option linter.unusedVariables false
set_option linter.unusedSimpArgs false
theorem mayJ_L (r:RowJ) (i:Ins):mayJ r i=mayL (any15J r i) (lsP i.list i.rn) (lsP i.list 15) r.form i.cond i.op i.rd i.rn i.rm i.ra i.amount i.list i.pre i.write:=by
  unfold mayJ mayL
  simp only [cond_eq_ite,Bool.or_eq_true,Bool.and_eq_true,beq_iff_eq,decide_eq_true_eq]
def mayQK (q:RowJ):Bool:=q.ops.all (fun o=>decide (1≤o) && decide (o≤52) && (!(q.form == 3) || decide (o≤16)))
set_option maxRecDepth 100000 in
theorem mayQK_all:∀q∈rowsJ,mayQK q=true:=by
  have:rowsJ.all mayQK=true:=by decide
  exact List.all_eq_true.1 this
theorem bit_ls (m:Nat) (n:Int):decide (bN m n.toNat=1)=lsP (m:Int) n:=by
  rw [lsP,←pow_nat,←Int.natCast_ediv,bN]
  generalize m / 2^n.toNat=q
  rw [Bool.eq_iff_iff]; simp; omega
set_option maxRecDepth 100000 in
theorem jmay_any (r:RowJ) (hr:r∈rowsJ) (o:Value) (s:ByteArray) (i:Ins) (w:World) (hp:Pat s r.pat) (ho:r.ops.contains i.op=true) (hn:0≤i.rn∧i.rn<16) (hl:0≤i.list∧i.list<65536) :
    Calls Tryd.prog 52 #[.agg #[o,.int .i64 r.form,.string s],.agg (insA i)] w fun e w'=>e= .returned (.bool (mayJ r i))∧Below w.heap.size w w':=by
  have hk:=List.all_eq_true.1 (mayQK_all r hr) i.op (by simpa using ho)
  simp only [Bool.and_eq_true,Bool.or_eq_true,decide_eq_true_eq,Bool.not_eq_true',beq_eq_false_iff_ne] at hk
  obtain ⟨⟨k1,k2⟩,k3⟩:=hk
  obtain ⟨m,hm⟩:=Int.eq_ofNat_of_zero_le hl.1
  have HA:Hid (∀w',Calls Tryd.prog 60 #[.agg #[o,.int .i64 r.form,.string s],.agg (insA i)] w' fun e w''=>e= .returned (.bool (any15J r i))∧Below w'.heap.size w' w''):=fun w'=>jany_any o r.form s r.pat i w' hp
  have HL:Hid (∀w',Calls Tryd.prog 61 #[.int .u16 i.list,.int .i64 i.rn] w' fun e w''=>e= .returned (.bool (lsP i.list i.rn))∧w''=w'):=fun w'=>by
    rw [hm]; exact (bit_ls m i.rn)▸jlisted_any m i.rn w' hn.1 hn.2 (by omega)
  have HM:Hid (∀w',Calls Tryd.prog 61 #[.int .u16 i.list,.int .i64 15] w' fun e w''=>e= .returned (.bool (lsP i.list 15))∧w''=w'):=fun w'=>by
    rw [hm]; exact (bit_ls m 15)▸jlisted_any m 15 w' (by decide) (by decide) (by omega)
  rw [mayJ_L]
  generalize any15J r i=ANY at *
  generalize lsP i.list i.rn=L1 at *
  generalize lsP i.list 15=L15 at *
  generalize r.form=q at *
  clear ho hp hr hm hn hl
  obtain ⟨jc,jo,js,jf,jd,jn,jm,jr,ja,ji,jt,jk,jp,ju,jw,jl,jx,jy,jz,jv⟩:=i
  change Calls Tryd.prog 52 #[.agg #[o,.int .i64 q,.string s],.agg #[.int .i64 jc,.int .i64 jo,.bool js,.int .i64 jf,.int .i64 jd,.int .i64 jn,.int .i64 jm,.int .i64 jr,.int .i64 ja,.int .u32 ji,.int .i64 jt,.int .i64 jk,.bool jp,.bool ju,.bool jw,.int .u16 jl,.int .i64 jx,.int .i64 jy,.int .i64 jz,.int .i64 jv]] w fun e w'=>e= .returned (.bool (mayL ANY L1 L15 q jc jo jd jn jm ja jk jl jp jw))∧Below w.heap.size w w'
  change Hid (∀w',Calls Tryd.prog 60 #[.agg #[o,.int .i64 q,.string s],.agg #[.int .i64 jc,.int .i64 jo,.bool js,.int .i64 jf,.int .i64 jd,.int .i64 jn,.int .i64 jm,.int .i64 jr,.int .i64 ja,.int .u32 ji,.int .i64 jt,.int .i64 jk,.bool jp,.bool ju,.bool jw,.int .u16 jl,.int .i64 jx,.int .i64 jy,.int .i64 jz,.int .i64 jv]] w' fun e w''=>e= .returned (.bool ANY)∧Below w'.heap.size w' w'') at HA
  dsimp only at *
  cases e15:(jc == 15)
  · cases e3:(q == 3)
    · by_cases c1:jo≤16
      · exact may_k1 o q s jc jo jf jd jn jm jr ja ji jt jk jl jx jy jz jv js jp ju jw w ANY L1 L15 HA HL HM e15 e3 k1 c1
      by_cases c2:jo≤30
      · exact may_k2 o q s jc jo jf jd jn jm jr ja ji jt jk jl jx jy jz jv js jp ju jw w ANY L1 L15 HA HL HM e15 e3 (by omega) c2
      by_cases c3:jo≤38
      · exact may_k3 o q s jc jo jf jd jn jm jr ja ji jt jk jl jx jy jz jv js jp ju jw w ANY L1 L15 HA HL HM e15 e3 (by omega) c3
      have hd:jo=39∨jo=40∨jo=41∨jo=42∨jo=43∨jo=44∨jo=45∨jo=46∨jo=47∨jo=48∨jo=49∨jo=50∨jo=51∨jo=52:=by omega
      clear c1 c2 c3 k1 k2 k3
      rcases hd with rfl|rfl|rfl|rfl|rfl|rfl|rfl|rfl|rfl|rfl|rfl|rfl|rfl|rfl
      · exact may_k39 o q s jc jf jd jn jm jr ja ji jt jk jl jx jy jz jv js jp ju jw w ANY L1 L15 HA HL HM e15 e3
      · exact may_k40 o q s jc jf jd jn jm jr ja ji jt jk jl jx jy jz jv js jp ju jw w ANY L1 L15 HA HL HM e15 e3
      · exact may_k41 o q s jc jf jd jn jm jr ja ji jt jk jl jx jy jz jv js jp ju jw w ANY L1 L15 HA HL HM e15 e3
      · exact may_k42 o q s jc jf jd jn jm jr ja ji jt jk jl jx jy jz jv js jp ju jw w ANY L1 L15 HA HL HM e15 e3
      · exact may_k43 o q s jc jf jd jn jm jr ja ji jt jk jl jx jy jz jv js jp ju jw w ANY L1 L15 HA HL HM e15 e3
      · exact may_k44 o q s jc jf jd jn jm jr ja ji jt jk jl jx jy jz jv js jp ju jw w ANY L1 L15 HA HL HM e15 e3
      · exact may_k45 o q s jc jf jd jn jm jr ja ji jt jk jl jx jy jz jv js jp ju jw w ANY L1 L15 HA HL HM e15 e3
      · exact may_k46 o q s jc jf jd jn jm jr ja ji jt jk jl jx jy jz jv js jp ju jw w ANY L1 L15 HA HL HM e15 e3
      · exact may_k47 o q s jc jf jd jn jm jr ja ji jt jk jl jx jy jz jv js jp ju jw w ANY L1 L15 HA HL HM e15 e3
      · exact may_k48 o q s jc jf jd jn jm jr ja ji jt jk jl jx jy jz jv js jp ju jw w ANY L1 L15 HA HL HM e15 e3
      · exact may_k49 o q s jc jf jd jn jm jr ja ji jt jk jl jx jy jz jv js jp ju jw w ANY L1 L15 HA HL HM e15 e3
      · exact may_k50 o q s jc jf jd jn jm jr ja ji jt jk jl jx jy jz jv js jp ju jw w ANY L1 L15 HA HL HM e15 e3
      · exact may_k51 o q s jc jf jd jn jm jr ja ji jt jk jl jx jy jz jv js jp ju jw w ANY L1 L15 HA HL HM e15 e3
      · exact may_k52 o q s jc jf jd jn jm jr ja ji jt jk jl jx jy jz jv js jp ju jw w ANY L1 L15 HA HL HM e15 e3
    · have hq:q=3:=beq_iff_eq.1 e3
      exact may_r3 o q s jc jo jf jd jn jm jr ja ji jt jk jl jx jy jz jv js jp ju jw w ANY L1 L15 HA HL HM e15 e3 k1 (by rcases k3 with k3|k3; exact absurd hq k3; exact k3)
  · exact may_c15 o q s jc jo jf jd jn jm jr ja ji jt jk jl jx jy jz jv js jp ju jw w ANY L1 L15 HA HL HM e15
end Go.Proofs.YtkmgmmmpiallhaaDoor
