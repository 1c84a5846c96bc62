import Derived.Test.YtkmgmmmpiallhaaDoorQb
namespace Go.Proofs.YtkmgmmmpiallhaaDoor
set_option linter.unusedVariables false
def rp0:RowP:=⟨1,1,251658240,33554432,555⟩
def rp1:RowP:=⟨1,2,251658256,0,196715⟩
def rp2:RowP:=⟨1,3,251658384,16,65771⟩
def rp3:RowP:=⟨13,1,262144000,58720256,555⟩
def rp4:RowP:=⟨13,2,262144016,25165824,196715⟩
def rp5:RowP:=⟨13,3,262144144,25165840,65771⟩
def rp6:RowP:=⟨9,1,261156864,51380224,547⟩
def rp7:RowP:=⟨9,2,261156880,17825792,196707⟩
def rp8:RowP:=⟨9,3,261157008,17825808,65763⟩
def rp9:RowP:=⟨14,1,263127040,60817408,523⟩
def rp10:RowP:=⟨14,2,263127056,27262976,196683⟩
def rp11:RowP:=⟨14,3,263127184,27262992,65739⟩
def rp12:RowP:=⟨17,0,267386880,50331648,33288⟩
def rp13:RowP:=⟨18,0,267386880,54525952,33288⟩
def rp14:RowP:=⟨19,0,266399984,144,210⟩
def rp15:RowP:=⟨20,0,266338544,2097296,466⟩
def rp16:RowP:=⟨21,0,266338544,8388752,466⟩
def rp17:RowP:=⟨22,0,266338544,10485904,466⟩
def rp18:RowP:=⟨23,0,266338544,12583056,466⟩
def rp19:RowP:=⟨24,0,266338544,14680208,466⟩
def rp20:RowP:=⟨25,0,268374000,24055568,72⟩
def rp21:RowP:=⟨35,1,240124144,5243056,7352360⟩
def rp22:RowP:=⟨36,1,240124144,4194480,7352360⟩
def rp23:RowP:=⟨37,1,240124144,5243088,7352360⟩
def rp24:RowP:=⟨38,1,240124144,5243120,7352360⟩
def rp25:RowP:=⟨35,2,240127984,1048752,7340136⟩
def rp26:RowP:=⟨36,2,240127984,176,7340136⟩
def rp27:RowP:=⟨37,2,240127984,1048784,7340136⟩
def rp28:RowP:=⟨38,2,240127984,1048816,7340136⟩
def rp29:RowP:=⟨43,0,268435440,19922704,64⟩
def rp30:RowP:=⟨44,0,268435440,19922736,64⟩
def rp31:RowP:=⟨46,0,267387120,18874480,20480⟩
def rp32:RowP:=⟨47,0,264179711,17760256,12⟩
def rp33:RowP:=⟨51,0,268435455,52490240,0⟩
def rp34:RowP:=⟨52,0,268435455,52490243,0⟩
def rp35:RowP:=⟨48,2,263258096,18935808,524356⟩
def rp36:RowP:=⟨48,1,263254016,52490240,524804⟩
def rp37:RowP:=⟨31,1,240123904,68157440,7340584⟩
def rp38:RowP:=⟨32,1,240123904,67108864,7340584⟩
def rp39:RowP:=⟨33,1,240123904,72351744,7340584⟩
def rp40:RowP:=⟨34,1,240123904,71303168,7340584⟩
def rp41:RowP:=⟨31,2,240123920,101711872,7536744⟩
def rp42:RowP:=⟨32,2,240123920,100663296,7536744⟩
def rp43:RowP:=⟨33,2,240123920,105906176,7536744⟩
def rp44:RowP:=⟨34,2,240123920,104857600,7536744⟩
def rp45:RowP:=⟨26,0,268374000,113184560,72⟩
def rp46:RowP:=⟨27,0,268370928,116326512,262216⟩
def rp47:RowP:=⟨28,0,268370928,117375088,262216⟩
def rp48:RowP:=⟨29,0,268370928,112132208,262216⟩
def rp49:RowP:=⟨30,0,268370928,113180784,262216⟩
def rp50:RowP:=⟨39,0,240123904,135266304,15728672⟩
def rp51:RowP:=⟨40,0,240123904,134217728,15728672⟩
def rp52:RowP:=⟨41,0,251658240,167772160,2048⟩
def rp53:RowP:=⟨42,0,251658240,184549376,2048⟩
def rp54:RowP:=⟨45,0,251658240,251658240,1024⟩
def rp55:RowP:=⟨49,0,252710672,234884880,251658248⟩
def rp56:RowP:=⟨50,0,252710672,235933456,251658248⟩
theorem low_eq:lowL=[rp0,rp1,rp2,rp3,rp4,rp5,rp6,rp7,rp8,rp9,rp10,rp11,rp12,rp13,rp14,rp15,rp16,rp17,rp18,rp19,rp20,rp21,rp22,rp23,rp24,rp25,rp26,rp27,rp28,rp29,rp30,rp31,rp32,rp33,rp34,rp35,rp36]:=rfl
theorem high_eq:highL=[rp37,rp38,rp39,rp40,rp41,rp42,rp43,rp44,rp45,rp46,rp47,rp48,rp49,rp50,rp51,rp52,rp53,rp54,rp55,rp56]:=rfl
def prL:List (RowP×RowJ):=[(rp0,rj0),(rp1,rj1),(rp2,rj2),(rp3,rj0),(rp4,rj1),(rp5,rj2),(rp6,rj3),(rp7,rj4),(rp8,rj5),(rp9,rj6),(rp10,rj7),(rp11,rj8),(rp12,rj9),(rp13,rj10),(rp14,rj11),(rp15,rj12),(rp16,rj13),(rp17,rj14),(rp18,rj15),(rp19,rj16),(rp20,rj17),(rp21,rj44),(rp22,rj45),(rp23,rj46),(rp24,rj47),(rp25,rj48),(rp26,rj49),(rp27,rj50),(rp28,rj51),(rp29,rj25),(rp30,rj26),(rp31,rj28),(rp32,rj29),(rp33,rj34),(rp34,rj35),(rp35,rj30),(rp36,rj31),(rp37,rj36),(rp38,rj37),(rp39,rj38),(rp40,rj39),(rp41,rj40),(rp42,rj41),(rp43,rj42),(rp44,rj43),(rp45,rj18),(rp46,rj19),(rp47,rj20),(rp48,rj21),(rp49,rj22),(rp50,rj52),(rp51,rj53),(rp52,rj23),(rp53,rj24),(rp54,rj27),(rp55,rj32),(rp56,rj33)]
def o16 (r:RowJ):Bool:=decide (0<cnt 111 r.pat)
def fldO (r:RowJ):Bool:=coL 111 r.pat == crL 21 4 0 32
def eqP (a b:RowP):Bool:=a.op == b.op && (a.form == b.form && (a.mask == b.mask && (a.bits == b.bits && a.parts == b.parts)))
theorem eqP_eq {a b:RowP} (h:eqP a b=true):a=b:=by
  cases a; cases b
  simp only [eqP,Bool.and_eq_true,beq_iff_eq] at h
  obtain ⟨h1,h2,h3,h4,h5⟩:=h
  subst h1 h2 h3 h4 h5
  rfl
def goesK (M B:Nat) (ps:List RowP):Bool:=match rowK M B with|none=>false|some r=>ps.any (eqP r)
theorem goesK_some {M B w:Nat} {ps:List RowP} (h:kb M B w) (hg:goesK M B ps=true):∃r∈ps,rowW w=some r:=by
  unfold goesK at hg
  split at hg
  · cases hg
  · rename_i r hr
    obtain ⟨q,hq,e⟩:=List.any_eq_true.1 hg
    exact ⟨r,by rw [eqP_eq e]; exact hq,rowK_some h hr⟩
def goesO (M B:Nat) (ps:List RowP) (op:Int):Bool:=decide (1≤op∧op≤16) && goesK (M ||| 31457280) ((B &&& M) ||| (((op-1).toNat*2097152) &&& 31457280)) ps
theorem kb_op {w:Nat} {op:Int} (h1:1≤op) (h2:op≤16) (h:((w / 2^21%2^4:Nat):Int)+1=op):kb 31457280 ((op-1).toNat*2097152) w:=by
  have e:w / 2^21%2^4=(op-1).toNat:=by omega
  intro i hi
  have h3:(31457280:Nat)=2^21*(2^4-1):=by decide
  rw [h3,Nat.testBit_two_pow_mul,Nat.testBit_two_pow_sub_one] at hi
  simp only [Bool.and_eq_true,decide_eq_true_eq,ge_iff_le] at hi
  have h4:=congrArg (fun z=>Nat.testBit z (i-21)) e
  simp only [Nat.testBit_mod_two_pow,Nat.testBit_div_two_pow] at h4
  rw [show i-21+21=i by omega,decide_eq_true hi.2,Bool.true_and] at h4
  rw [h4,show (op-1).toNat*2097152=2^21*(op-1).toNat by omega,Nat.testBit_two_pow_mul,decide_eq_true hi.1,Bool.true_and]
def goesR (r:RowJ) (ps:List RowP):Bool:=if o16 r then fldO r && r.ops.all (goesO (maskJ r.pat) (biJ r.pat) ps) else goesK (maskJ r.pat) (biJ r.pat) ps
theorem goesR_some {w:Nat} {r:RowJ} {ps:List RowP} (hf:fiP w r.pat=true) (ho:r.ops.contains (opJ r w)=true) (hg:goesR r ps=true):∃q∈ps,rowW w=some q:=by
  have hk:=(fi_kb w r.pat).1 hf
  unfold goesR at hg
  by_cases h16:o16 r=true
  · rw [if_pos h16,Bool.and_eq_true] at hg
    have h16':0<cnt 111 r.pat:=by simpa [o16] using h16
    have hop:opJ r w=(fvP 111 w r.pat:Int)+1:=by rw [opJ,if_pos h16']
    have hfv:=fv_run 111 r.pat 21 4 0 w (by rw [show coL 111 r.pat=crL 21 4 0 32 from by simpa [fldO] using hg.1]; decide)
    rw [Nat.pow_zero,Nat.mul_one] at hfv
    have hgo:=List.all_eq_true.1 hg.2 (opJ r w) (by simpa using ho)
    simp only [goesO,Bool.and_eq_true,decide_eq_true_eq] at hgo
    exact goesK_some (kb_and hk (kb_op hgo.1.1 hgo.1.2 (by rw [hop,hfv]))) hgo.2
  · rw [if_neg h16] at hg
    exact goesK_some hk hg
def psMsr (k:Nat) (r:RowJ) (ps:List RowP):Bool:=goesK (maskJ r.pat ||| 2^k) ((biJ r.pat &&& maskJ r.pat) ||| (2^k &&& 2^k)) ps
theorem msr_some {w k:Nat} {r:RowJ} {ps:List RowP} (hf:fiP w r.pat=true) (hb:w.testBit k=true) (hg:psMsr k r ps=true):∃q∈ps,rowW w=some q:=by
  have hk:=(fi_kb w r.pat).1 hf
  refine goesK_some (kb_and hk (M':=2^k) (B':=2^k) ?_) hg
  intro i hi
  rw [tb_pow] at hi
  have:k=i:=by simpa using hi
  subst this
  rw [hb,tb_pow,decide_eq_true rfl]
theorem goes0:goesR rj0 [rp0,rp3]=true:=by decide
theorem goes1:goesR rj1 [rp1,rp4]=true:=by decide
theorem goes2:goesR rj2 [rp2,rp5]=true:=by decide
theorem goes3:goesR rj3 [rp6]=true:=by decide
theorem goes4:goesR rj4 [rp7]=true:=by decide
theorem goes5:goesR rj5 [rp8]=true:=by decide
theorem goes6:goesR rj6 [rp9]=true:=by decide
theorem goes7:goesR rj7 [rp10]=true:=by decide
theorem goes8:goesR rj8 [rp11]=true:=by decide
theorem goes9:goesR rj9 [rp12]=true:=by decide
theorem goes10:goesR rj10 [rp13]=true:=by decide
theorem goes11:goesR rj11 [rp14]=true:=by decide
theorem goes12:goesR rj12 [rp15]=true:=by decide
theorem goes13:goesR rj13 [rp16]=true:=by decide
theorem goes14:goesR rj14 [rp17]=true:=by decide
theorem goes15:goesR rj15 [rp18]=true:=by decide
theorem goes16:goesR rj16 [rp19]=true:=by decide
theorem goes17:goesR rj17 [rp20]=true:=by decide
theorem goes18:goesR rj18 [rp45]=true:=by decide
theorem goes19:goesR rj19 [rp46]=true:=by decide
theorem goes20:goesR rj20 [rp47]=true:=by decide
theorem goes21:goesR rj21 [rp48]=true:=by decide
theorem goes22:goesR rj22 [rp49]=true:=by decide
theorem goes23:goesR rj23 [rp52]=true:=by decide
theorem goes24:goesR rj24 [rp53]=true:=by decide
theorem goes25:goesR rj25 [rp29]=true:=by decide
theorem goes26:goesR rj26 [rp30]=true:=by decide
theorem goes27:goesR rj27 [rp54]=true:=by decide
theorem goes28:goesR rj28 [rp31]=true:=by decide
theorem goes29:goesR rj29 [rp32]=true:=by decide
theorem goes30:goesR rj30 [rp35]=true:=by decide
theorem goes32:goesR rj32 [rp55]=true:=by decide
theorem goes33:goesR rj33 [rp56]=true:=by decide
theorem goes34:goesR rj34 [rp33]=true:=by decide
theorem goes35:goesR rj35 [rp34]=true:=by decide
theorem goes36:goesR rj36 [rp37]=true:=by decide
theorem goes37:goesR rj37 [rp38]=true:=by decide
theorem goes38:goesR rj38 [rp39]=true:=by decide
theorem goes39:goesR rj39 [rp40]=true:=by decide
theorem goes40:goesR rj40 [rp41]=true:=by decide
theorem goes41:goesR rj41 [rp42]=true:=by decide
theorem goes42:goesR rj42 [rp43]=true:=by decide
theorem goes43:goesR rj43 [rp44]=true:=by decide
theorem goes44:goesR rj44 [rp21]=true:=by decide
theorem goes45:goesR rj45 [rp22]=true:=by decide
theorem goes46:goesR rj46 [rp23]=true:=by decide
theorem goes47:goesR rj47 [rp24]=true:=by decide
theorem goes48:goesR rj48 [rp25]=true:=by decide
theorem goes49:goesR rj49 [rp26]=true:=by decide
theorem goes50:goesR rj50 [rp27]=true:=by decide
theorem goes51:goesR rj51 [rp28]=true:=by decide
theorem goes52:goesR rj52 [rp50]=true:=by decide
theorem goes53:goesR rj53 [rp51]=true:=by decide
theorem goesM16:psMsr 16 rj31 [rp36]=true:=by decide
theorem goesM17:psMsr 17 rj31 [rp36]=true:=by decide
theorem goesM18:psMsr 18 rj31 [rp36]=true:=by decide
theorem goesM19:psMsr 19 rj31 [rp36]=true:=by decide
end Go.Proofs.YtkmgmmmpiallhaaDoor
