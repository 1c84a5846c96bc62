import Derived.Test.YtnjlajjjcmhfgaaGreatDoorTA01
namespace Go.Proofs.YtnjlajjjcmhfgaaGreatDoor
open Go.RowKit
set_option linter.unusedVariables false
set_option linter.unusedSimpArgs false
def Ok (e:Ent):Prop:=(0≤e.base∧e.base<18446744073709551616)∧(0≤e.bits∧e.bits<4294967296)
def leafOk (e:Ent):Prop:=0≤e.ap∧e.ap≤7∧e.bits≤63
def Says1 (e:Ent):Prop :=
  (e=dZ)∨(e.kind=1∧(e.base%1024=0∧e.base<4294967296)∧(0≤e.dom∧e.dom≤15)∧(e.ap=0∧e.bits=0∧e.ng=false∧e.xn=false))∨
  (e.kind=2∧(e.base%1048576=0∧e.base<4294967296)∧(0≤e.dom∧e.dom≤15)∧leafOk e)∨
  (e.kind=3∧(e.base%16777216=0∧e.base<1099511627776)∧e.dom=0∧leafOk e)
def Says2 (e:Ent):Prop :=
  (e=dZ)∨(e.kind=4∧(e.base%65536=0∧e.base<4294967296)∧e.dom=0∧e.ns=false∧leafOk e)∨
  (e.kind=5∧(e.base%4096=0∧e.base<4294967296)∧e.dom=0∧e.ns=false∧leafOk e)
theorem bits64 (t:Int):t / 8%8*8+t / 2%4*2+t%2=t%64:=by omega
theorem ap8 (t:Int):t / 4%2*4+t%4=t%8:=by omega
theorem base3 (b W:Int) (hb:0≤b) (h:W / 1048576=b%4294967296 / 16777216*16+b / 4294967296%16):W / 16777216*16777216+((b%4294967296 / 16777216*16+b / 4294967296%16)%16*4294967296+b / 68719476736%16*68719476736)=b%1099511627776 / 16777216*16777216:=by
  have h1:W / 16777216=b%4294967296 / 16777216:=by omega
  have h2:(b%4294967296 / 16777216*16+b / 4294967296%16)%16=b / 4294967296%16:=by omega
  have h3:b / 68719476736=b / 4294967296 / 16:=by omega
  have h4:b%1099511627776 / 16777216=b%4294967296 / 16777216+b / 4294967296%256*256:=by omega
  have h5:b / 4294967296%256=b / 4294967296%16+b / 4294967296 / 16%16*16:=by omega
  rw [h1,h2,h3,h4,h5]
  omega
theorem b2_rng (b:Bool):0≤b2 b∧b2 b≤1:=by cases b <;>simp [b2]
theorem b2_beq (b:Bool):(b2 b == 1)=b:=by cases b <;>rfl
theorem G_10_2 (v:Int):G v 10 2=v%4*1024:=rfl
theorem G_15_1 (v:Int):G v 15 1=v%2*32768:=rfl
theorem G_16_1 (v:Int):G v 16 1=v%2*65536:=rfl
theorem G_2_2 (v:Int):G v 2 2=v%4*4:=rfl
theorem G_12_3 (v:Int):G v 12 3=v%8*4096:=rfl
theorem G_17_1 (v:Int):G v 17 1=v%2*131072:=rfl
theorem G_4_1 (v:Int):G v 4 1=v%2*16:=rfl
theorem G_4_2 (v:Int):G v 4 2=v%4*16:=rfl
theorem G_9_1 (v:Int):G v 9 1=v%2*512:=rfl
theorem G_10_1 (v:Int):G v 10 1=v%2*1024:=rfl
theorem G_11_1 (v:Int):G v 11 1=v%2*2048:=rfl
theorem G_6_3 (v:Int):G v 6 3=v%8*64:=rfl
theorem G_0_1 (v:Int):G v 0 1=v%2*1:=rfl
theorem G_5_4 (v:Int):G v 5 4=v%16*32:=rfl
theorem G_3_1 (v:Int):G v 3 1=v%2*8:=rfl
theorem G_19_1 (v:Int):G v 19 1=v%2*524288:=rfl
theorem G_20_4 (v:Int):G v 20 4=v%16*1048576:=rfl
theorem F_5_4 (x:Int):F x 5 4=x / 32%16:=rfl
theorem F_3_1 (x:Int):F x 3 1=x / 8%2:=rfl
theorem F_19_1 (x:Int):F x 19 1=x / 524288%2:=rfl
theorem F_15_1 (x:Int):F x 15 1=x / 32768%2:=rfl
theorem F_10_2 (x:Int):F x 10 2=x / 1024%4:=rfl
theorem F_12_3 (x:Int):F x 12 3=x / 4096%8:=rfl
theorem F_2_2 (x:Int):F x 2 2=x / 4%4:=rfl
theorem F_16_1 (x:Int):F x 16 1=x / 65536%2:=rfl
theorem F_17_1 (x:Int):F x 17 1=x / 131072%2:=rfl
theorem F_4_1 (x:Int):F x 4 1=x / 16%2:=rfl
theorem F_20_4 (x:Int):F x 20 4=x / 1048576%16:=rfl
theorem F_9_1 (x:Int):F x 9 1=x / 512%2:=rfl
theorem F_4_2 (x:Int):F x 4 2=x / 16%4:=rfl
theorem F_10_1 (x:Int):F x 10 1=x / 1024%2:=rfl
theorem F_11_1 (x:Int):F x 11 1=x / 2048%2:=rfl
theorem F_6_3 (x:Int):F x 6 3=x / 64%8:=rfl
theorem F_0_1 (x:Int):F x 0 1=x / 1%2:=rfl
theorem F_18_1 (x:Int):F x 18 1=x / 262144%2:=rfl
structure WS (W t d s ap0 ap1 s0 cb tx g x b:Int):Prop where
  eq:W=t*262144+2+4*cb+16*x+32*d+1024*ap0+4096*tx+32768*ap1+65536*s0+131072*g+524288*s+1048576*b
  ht:0≤t∧t≤1
  hcb:0≤cb∧cb≤3
  hx:0≤x∧x≤1
  hd:0≤d∧d≤15
  h0:0≤ap0∧ap0≤3
  htx:0≤tx∧tx≤7
  h1:0≤ap1∧ap1≤1
  hs0:0≤s0∧s0≤1
  hg:0≤g∧g≤1
  hs:0≤s∧s≤1
  hb:0≤b∧b≤4095
theorem WS.get {W t d s ap0 ap1 s0 cb tx g x b:Int} (h:WS W t d s ap0 ap1 s0 cb tx g x b) :
    W%4=2∧W / 4%4=cb∧W / 16%2=x∧W / 32%16=d∧W / 1024%4=ap0∧W / 4096%8=tx∧W / 32768%2=ap1∧W / 65536%2=s0∧W / 131072%2=g∧W / 262144%2=t∧W / 524288%2=s∧W / 1048576=b∧0≤W∧W<4294967296:=by
  obtain ⟨eq,ht,hcb,hx,hd,h0,htx,h1,hs0,hg,hs,hb⟩:=h
  refine ⟨?_,?_,?_,?_,?_,?_,?_,?_,?_,?_,?_,?_,?_,?_⟩ <;>omega
structure WT (W d s b:Int):Prop where
  eq:W=1+8*s+32*d+1024*b
  hs:0≤s∧s≤1
  hd:0≤d∧d≤15
  hb:0≤b∧b<4194304
theorem WT.get {W d s b:Int} (h:WT W d s b):W%4=1∧W / 8%2=s∧W / 32%16=d∧W / 1024=b∧0≤W∧W<4294967296:=by
  obtain ⟨eq,hs,hd,hb⟩:=h
  refine ⟨?_,?_,?_,?_,?_,?_⟩ <;>omega
structure WL (W ap0 ap1 s0 cb tx g x b:Int):Prop where
  eq:W=1+4*cb+16*ap0+512*ap1+1024*s0+2048*g+4096*tx+32768*x+65536*b
  hcb:0≤cb∧cb≤3
  h0:0≤ap0∧ap0≤3
  h1:0≤ap1∧ap1≤1
  hs0:0≤s0∧s0≤1
  hg:0≤g∧g≤1
  htx:0≤tx∧tx≤7
  hx:0≤x∧x≤1
  hb:0≤b∧b≤65535
theorem WL.get {W ap0 ap1 s0 cb tx g x b:Int} (h:WL W ap0 ap1 s0 cb tx g x b) :
    W%4=1∧W / 4%4=cb∧W / 16%4=ap0∧W / 512%2=ap1∧W / 1024%2=s0∧W / 2048%2=g∧W / 4096%8=tx∧W / 32768%2=x∧W / 65536=b∧0≤W∧W<4294967296:=by
  obtain ⟨eq,hcb,h0,h1,hs0,hg,htx,hx,hb⟩:=h
  refine ⟨?_,?_,?_,?_,?_,?_,?_,?_,?_,?_,?_⟩ <;>omega
structure WM (W ap0 ap1 s0 cb tx g x b:Int):Prop where
  eq:W=2+x+4*cb+16*ap0+64*tx+512*ap1+1024*s0+2048*g+4096*b
  hcb:0≤cb∧cb≤3
  h0:0≤ap0∧ap0≤3
  h1:0≤ap1∧ap1≤1
  hs0:0≤s0∧s0≤1
  hg:0≤g∧g≤1
  htx:0≤tx∧tx≤7
  hx:0≤x∧x≤1
  hb:0≤b∧b≤1048575
theorem WM.get {W ap0 ap1 s0 cb tx g x b:Int} (h:WM W ap0 ap1 s0 cb tx g x b) :
    (W%4=2∨W%4=3)∧W / 4%4=cb∧W / 16%4=ap0∧W / 512%2=ap1∧W / 1024%2=s0∧W / 2048%2=g∧W / 64%8=tx∧W%2=x∧W / 4096=b∧0≤W∧W<4294967296:=by
  obtain ⟨eq,hcb,h0,h1,hs0,hg,htx,hx,hb⟩:=h
  refine ⟨?_,?_,?_,?_,?_,?_,?_,?_,?_,?_,?_⟩ <;>omega
theorem E1 (e:Ent) (h:e.kind=1) (hO:Ok e):WT (E e) (e.dom%16) (b2 e.ns) (e.base%4294967296 / 1024):=by
  obtain ⟨⟨_,_⟩,⟨_,_⟩⟩:=hO
  have hs:=b2_rng e.ns
  refine ⟨?_,hs,by omega,by omega⟩
  rw [E,if_pos h]
  simp only [eT,G_10_2,G_15_1,G_16_1,G_2_2,G_12_3,G_17_1,G_4_1,G_4_2,G_9_1,G_10_1,G_11_1,G_6_3,G_0_1,G_5_4,G_3_1,G_19_1,G_20_4]
  omega
theorem E2 (e:Ent) (h:e.kind=2) (hO:Ok e):WS (E e) 0 (e.dom%16) (b2 e.ns) (e.ap%4) (e.ap / 4%2) (e.bits%2) (e.bits / 2%4) (e.bits / 8%8) (b2 e.ng) (b2 e.xn) (e.base%4294967296 / 1048576):=by
  obtain ⟨⟨_,_⟩,⟨_,_⟩⟩:=hO
  have hs:=b2_rng e.ns
  have hg:=b2_rng e.ng
  have hx:=b2_rng e.xn
  refine ⟨?_,by omega,by omega,hx,by omega,by omega,by omega,by omega,by omega,hg,hs,by omega⟩
  rw [E,if_neg (by omega),if_pos h]
  simp only [eS,EL,G_10_2,G_15_1,G_16_1,G_2_2,G_12_3,G_17_1,G_4_1,G_4_2,G_9_1,G_10_1,G_11_1,G_6_3,G_0_1,G_5_4,G_3_1,G_19_1,G_20_4]
  omega
theorem E3 (e:Ent) (h:e.kind=3) (hO:Ok e):WS (E e) 1 (e.base / 68719476736%16) (b2 e.ns) (e.ap%4) (e.ap / 4%2) (e.bits%2) (e.bits / 2%4) (e.bits / 8%8) (b2 e.ng) (b2 e.xn) (e.base%4294967296 / 16777216*16+e.base / 4294967296%16):=by
  obtain ⟨⟨_,_⟩,⟨_,_⟩⟩:=hO
  have hs:=b2_rng e.ns
  have hg:=b2_rng e.ng
  have hx:=b2_rng e.xn
  refine ⟨?_,by omega,by omega,hx,by omega,by omega,by omega,by omega,by omega,hg,hs,by omega⟩
  rw [E,if_neg (by omega),if_neg (by omega),if_pos h]
  simp only [eU,EL,G_10_2,G_15_1,G_16_1,G_2_2,G_12_3,G_17_1,G_4_1,G_4_2,G_9_1,G_10_1,G_11_1,G_6_3,G_0_1,G_5_4,G_3_1,G_19_1,G_20_4]
  omega
theorem E4 (e:Ent) (h:e.kind=4) (hO:Ok e):WL (E e) (e.ap%4) (e.ap / 4%2) (e.bits%2) (e.bits / 2%4) (e.bits / 8%8) (b2 e.ng) (b2 e.xn) (e.base%4294967296 / 65536):=by
  obtain ⟨⟨_,_⟩,⟨_,_⟩⟩:=hO
  have hg:=b2_rng e.ng
  have hx:=b2_rng e.xn
  refine ⟨?_,by omega,by omega,by omega,by omega,hg,by omega,hx,by omega⟩
  rw [E,if_neg (by omega),if_neg (by omega),if_neg (by omega),if_pos h]
  simp only [eL,EL,G_10_2,G_15_1,G_16_1,G_2_2,G_12_3,G_17_1,G_4_1,G_4_2,G_9_1,G_10_1,G_11_1,G_6_3,G_0_1,G_5_4,G_3_1,G_19_1,G_20_4]
  omega
theorem E5 (e:Ent) (h:e.kind=5) (hO:Ok e):WM (E e) (e.ap%4) (e.ap / 4%2) (e.bits%2) (e.bits / 2%4) (e.bits / 8%8) (b2 e.ng) (b2 e.xn) (e.base%4294967296 / 4096):=by
  obtain ⟨⟨_,_⟩,⟨_,_⟩⟩:=hO
  have hg:=b2_rng e.ng
  have hx:=b2_rng e.xn
  refine ⟨?_,by omega,by omega,by omega,by omega,hg,by omega,hx,by omega⟩
  rw [E,if_neg (by omega),if_neg (by omega),if_neg (by omega),if_neg (by omega),if_pos h]
  simp only [eM,EL,G_10_2,G_15_1,G_16_1,G_2_2,G_12_3,G_17_1,G_4_1,G_4_2,G_9_1,G_10_1,G_11_1,G_6_3,G_0_1,G_5_4,G_3_1,G_19_1,G_20_4]
  omega
theorem E0 (e:Ent) (h:¬(1≤e.kind∧e.kind≤5)):E e=0:=by
  rw [E,if_neg (by omega),if_neg (by omega),if_neg (by omega),if_neg (by omega),if_neg (by omega)]
theorem E_rng (e:Ent) (hO:Ok e):0≤E e∧E e<4294967296:=by
  by_cases h1:e.kind=1
  · exact (E1 e h1 hO).get.2.2.2.2
  by_cases h2:e.kind=2
  · have:=(E2 e h2 hO).get
    omega
  by_cases h3:e.kind=3
  · have:=(E3 e h3 hO).get
    omega
  by_cases h4:e.kind=4
  · have:=(E4 e h4 hO).get
    omega
  by_cases h5:e.kind=5
  · have:=(E5 e h5 hO).get
    omega
  rw [E0 e (by omega)]
  omega
theorem DE1 (e:Ent) (h:e.kind=1) (hO:Ok e):D1 (E e)=⟨1,e.base%4294967296 / 1024*1024,e.dom%16,e.ns,0,0,false,false⟩:=by
  obtain ⟨a,b,c,d,f,g⟩:=(E1 e h hO).get
  rw [D1,if_pos a,dT,F_5_4,F_3_1,b,c,d,b2_beq]
theorem DE2 (e:Ent) (h:e.kind=2) (hO:Ok e):D1 (E e)=⟨2,e.base%4294967296 / 1048576*1048576,e.dom%16,e.ns,e.ap%8,e.bits%64,e.ng,e.xn⟩:=by
  obtain ⟨a,b,c,d,f,g,i,j,k,l,m,n,o,p⟩:=(E2 e h hO).get
  rw [D1,if_neg (by omega),if_pos a,if_neg (by rw [F_18_1]; omega),dS,F_5_4,F_19_1,F_15_1,F_10_2,F_12_3,F_2_2,F_16_1,F_17_1,F_4_1,b,c,d,f,g,i,j,k,m,n,b2_beq,b2_beq,b2_beq]
  rw [ap8,bits64]
theorem DE3 (e:Ent) (h:e.kind=3) (hO:Ok e):D1 (E e)=⟨3,e.base%1099511627776 / 16777216*16777216,0,e.ns,e.ap%8,e.bits%64,e.ng,e.xn⟩:=by
  obtain ⟨a,b,c,d,f,g,i,j,k,l,m,n,o,p⟩:=(E3 e h hO).get
  obtain ⟨⟨_,_⟩,⟨_,_⟩⟩:=hO
  rw [D1,if_neg (by omega),if_pos a,if_pos (by rw [F_18_1]; omega),dU,F_5_4,F_19_1,F_15_1,F_10_2,F_12_3,F_2_2,F_16_1,F_17_1,F_4_1,F_20_4,b,c,d,f,g,i,j,k,m,show E e / 1048576%16=(e.base%4294967296 / 16777216*16+e.base / 4294967296%16)%16 by rw [n],b2_beq,b2_beq,b2_beq]
  rw [ap8,bits64,base3 e.base (E e) (by omega) n]
theorem DE4 (e:Ent) (h:e.kind=4) (hO:Ok e):D2 (E e)=⟨4,e.base%4294967296 / 65536*65536,0,false,e.ap%8,e.bits%64,e.ng,e.xn⟩:=by
  obtain ⟨a,b,c,d,f,g,i,j,k,l,m⟩:=(E4 e h hO).get
  rw [D2,if_neg (by omega),if_pos a,dL,F_9_1,F_4_2,F_12_3,F_2_2,F_10_1,F_11_1,F_15_1,b,c,d,f,g,i,j,k,b2_beq,b2_beq]
  rw [ap8,bits64]
theorem DE5 (e:Ent) (h:e.kind=5) (hO:Ok e):D2 (E e)=⟨5,e.base%4294967296 / 4096*4096,0,false,e.ap%8,e.bits%64,e.ng,e.xn⟩:=by
  obtain ⟨a,b,c,d,f,g,i,j,k,l,m⟩:=(E5 e h hO).get
  rw [D2,if_neg (by omega),if_neg (by omega),dM,F_9_1,F_4_2,F_6_3,F_2_2,F_10_1,F_11_1,F_0_1,show E e / 1=E e by omega,b,c,d,f,g,i,j,k,b2_beq,b2_beq]
  rw [ap8,bits64]
theorem D1_kind (x:Int):(D1 x).kind=0∨(D1 x).kind=1∨(D1 x).kind=2∨(D1 x).kind=3:=by
  unfold D1
  split
  · exact .inr (.inl rfl)
  · split
    · split
      · exact .inr (.inr (.inr rfl))
      · exact .inr (.inr (.inl rfl))
    · exact .inl rfl
theorem D2_kind (x:Int):(D2 x).kind=0∨(D2 x).kind=4∨(D2 x).kind=5:=by
  unfold D2
  split
  · exact .inl rfl
  · split
    · exact .inr (.inl rfl)
    · exact .inr (.inr rfl)
theorem D1_0:D1 0=dZ:=by unfold D1; rfl
theorem D2_0:D2 0=dZ:=by unfold D2; rfl
theorem dZ_kind {e:Ent} (h:e=dZ):e.kind=0:=by rw [h]; rfl
theorem says1_iff (e:Ent) (hO:Ok e):D1 (E e)=e↔Says1 e:=by
  have hO':=hO
  obtain ⟨⟨_,_⟩,⟨_,_⟩⟩:=hO
  by_cases h1:e.kind=1
  · rw [DE1 e h1 hO']
    constructor
    · intro h
      refine .inr (.inl ⟨h1,?_⟩)
      have q1:=congrArg Ent.base h
      have q2:=congrArg Ent.dom h
      have q3:=congrArg Ent.ap h
      have q4:=congrArg Ent.bits h
      have q5:=congrArg Ent.ng h
      have q6:=congrArg Ent.xn h
      simp only at q1 q2 q3 q4 q5 q6
      exact ⟨by omega,by omega,q3.symm,q4.symm,q5.symm,q6.symm⟩
    · rintro (h|⟨_,⟨h2,h3⟩,h4,h5,h6,h7,h8⟩|⟨h,_⟩|⟨h,_⟩)
      · have:=dZ_kind h; omega
      · obtain ⟨k,b,d,s,a,t,g,x⟩:=e
        simp only at *
        subst h1 h5 h6 h7 h8
        congr 1 <;>omega
      · omega
      · omega
  by_cases h2:e.kind=2
  · rw [DE2 e h2 hO']
    constructor
    · intro h
      refine .inr (.inr (.inl ⟨h2,?_⟩))
      have q1:=congrArg Ent.base h
      have q2:=congrArg Ent.dom h
      have q3:=congrArg Ent.ap h
      have q4:=congrArg Ent.bits h
      simp only at q1 q2 q3 q4
      exact ⟨by omega,by omega,by unfold leafOk; omega⟩
    · rintro (h|⟨h,_⟩|⟨_,⟨h3,h4⟩,h5,h6,h7,h8⟩|⟨h,_⟩)
      · have:=dZ_kind h; omega
      · omega
      · obtain ⟨k,b,d,s,a,t,g,x⟩:=e
        simp only at *
        subst h2
        congr 1 <;>omega
      · omega
  by_cases h3:e.kind=3
  · rw [DE3 e h3 hO']
    constructor
    · intro h
      refine .inr (.inr (.inr ⟨h3,?_⟩))
      have q1:=congrArg Ent.base h
      have q2:=congrArg Ent.dom h
      have q3:=congrArg Ent.ap h
      have q4:=congrArg Ent.bits h
      simp only at q1 q2 q3 q4
      exact ⟨by omega,by omega,by unfold leafOk; omega⟩
    · rintro (h|⟨h,_⟩|⟨h,_⟩|⟨_,⟨h4,h5⟩,h6,h7,h8,h9⟩)
      · have:=dZ_kind h; omega
      · omega
      · omega
      · obtain ⟨k,b,d,s,a,t,g,x⟩:=e
        simp only at *
        subst h3 h6
        congr 1 <;>omega
  have hn:Says1 e→e=dZ:=by
    rintro (h|⟨h,_⟩|⟨h,_⟩|⟨h,_⟩)
    · exact h
    all_goals omega
  by_cases h4:e.kind=4∨e.kind=5
  · constructor
    · intro h
      have q:=D1_kind (E e)
      rw [h] at q
      omega
    · intro h
      have:=dZ_kind (hn h)
      omega
  rw [E0 e (by omega),D1_0]
  exact ⟨fun h=> .inl h.symm,fun h=>(hn h).symm⟩
theorem says2_iff (e:Ent) (hO:Ok e):D2 (E e)=e↔Says2 e:=by
  have hO':=hO
  obtain ⟨⟨_,_⟩,⟨_,_⟩⟩:=hO
  by_cases h1:e.kind=4
  · rw [DE4 e h1 hO']
    constructor
    · intro h
      refine .inr (.inl ⟨h1,?_⟩)
      have q1:=congrArg Ent.base h
      have q2:=congrArg Ent.dom h
      have q3:=congrArg Ent.ap h
      have q4:=congrArg Ent.bits h
      have q5:=congrArg Ent.ns h
      simp only at q1 q2 q3 q4 q5
      exact ⟨by omega,by omega,q5.symm,by unfold leafOk; omega⟩
    · rintro (h|⟨_,⟨h3,h4⟩,h5,h6,h7,h8,h9⟩|⟨h,_⟩)
      · have:=dZ_kind h; omega
      · obtain ⟨k,b,d,s,a,t,g,x⟩:=e
        simp only at *
        subst h1 h5 h6
        congr 1 <;>omega
      · omega
  by_cases h2:e.kind=5
  · rw [DE5 e h2 hO']
    constructor
    · intro h
      refine .inr (.inr ⟨h2,?_⟩)
      have q1:=congrArg Ent.base h
      have q2:=congrArg Ent.dom h
      have q3:=congrArg Ent.ap h
      have q4:=congrArg Ent.bits h
      have q5:=congrArg Ent.ns h
      simp only at q1 q2 q3 q4 q5
      exact ⟨by omega,by omega,q5.symm,by unfold leafOk; omega⟩
    · rintro (h|⟨h,_⟩|⟨_,⟨h3,h4⟩,h5,h6,h7,h8,h9⟩)
      · have:=dZ_kind h; omega
      · omega
      · obtain ⟨k,b,d,s,a,t,g,x⟩:=e
        simp only at *
        subst h2 h5 h6
        congr 1 <;>omega
  have hn:Says2 e→e=dZ:=by
    rintro (h|⟨h,_⟩|⟨h,_⟩)
    · exact h
    all_goals omega
  by_cases h4:e.kind=1∨e.kind=2∨e.kind=3
  · constructor
    · intro h
      have q:=D2_kind (E e)
      rw [h] at q
      omega
    · intro h
      have:=dZ_kind (hn h)
      omega
  rw [E0 e (by omega),D2_0]
  exact ⟨fun h=> .inl h.symm,fun h=>(hn h).symm⟩
end Go.Proofs.YtnjlajjjcmhfgaaGreatDoor
