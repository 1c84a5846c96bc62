import Derived.Test.YtnjlajjjcmhfgaaGreatDoorTP02
namespace Go.Proofs.YtnjlajjjcmhfgaaGreatDoor.Bs
open Go.RowKit
set_option linter.unusedVariables false
def pot:List (Sp Bool)→Int→Nat
  | [],_=>0
  | s::r,k=>2*r.length+(if s.lo≤k then 1 else 2)
theorem pot_le (L:List (Sp Bool)) (k:Int):pot L k≤2*L.length:=by
  cases L with
  | nil=>exact Nat.le_refl _
  | cons s r=>rw [pot,List.length_cons]; split <;>omega
theorem pot_after {A A':List (Sp Bool)} {k e:Int} (h:Rest A k A') (h1:k≤e) (h2:e≤(stretchL A' k).2):pot (afterL A' e) (e+1)≤pot A' k∧(e=(stretchL A' k).2→e<18446744073709551615→pot (afterL A' e) (e+1)+1≤pot A' k):=by
  obtain ⟨⟨c,u,hg⟩,h4,h3⟩:=h
  cases A' with
  | nil=>exact ⟨Nat.le_refl _,fun e1 e2=>by rw [e1] at e2; exact absurd e2 (by simp [stretchL])⟩
  | cons s r =>
    have hs:=good_lo hg s (by simp)
    have hs2:=h4 s (by simp)
    have hp:=pot_le r (e+1)
    rw [afterL]
    by_cases hlt:k<s.lo
    · rw [stretchL,if_pos hlt] at *
      have h2:e≤s.lo-1:=h2
      rw [if_neg (by omega),pot,pot,if_neg (show ¬s.lo≤k by omega)]
      refine ⟨by split <;>omega,fun e1 _=> ?_⟩
      have e1:e=s.lo-1:=e1
      rw [if_pos (by omega)]
      omega
    · rw [stretchL,if_neg hlt] at *
      have h2:e≤s.hi:=h2
      rw [show pot (s::r) k=2*r.length+1 by rw [pot,if_pos (by omega)]]
      by_cases he:s.hi≤e
      · rw [if_pos he]
        exact ⟨by omega,fun _ _=>by omega⟩
      · rw [if_neg he,pot]
        refine ⟨by split <;>omega,fun e1 _=> ?_⟩
        have e1:e=s.hi:=e1
        omega
theorem step_len {R:List (Sp Unit)} {k e:Int} {o:Option Unit}:(step R k e o).length≤R.length+1:=by
  cases o with
  | none=>exact Nat.le_succ _
  | some u =>
    rw [step]
    split
    · split
      · simp
      · simp
    · simp
theorem diff_round {A B A' B':List (Sp Bool)} {R:List (Sp Unit)} {k E:Int} {N:Nat} (k0:0≤k) (k1:k≤18446744073709551615) (hA:Rest A k A') (hB:Rest B k B') (hT:Told A B k R) (hp:R.length+pot A' k+pot B' k≤N) (o:Option Unit)
    (hE:E=if (stretchL B' k).2<(stretchL A' k).2 then (stretchL B' k).2 else (stretchL A' k).2) (ho:o=if (stretchL A' k).1=(stretchL B' k).1 then none else some ()) :
    k≤E∧E≤18446744073709551615∧(step R k E o).length≤N+1∧(E<18446744073709551615→Rest A (E+1) (afterL A' E)∧Rest B (E+1) (afterL B' E)∧Told A B (E+1) (step R k E o)∧(step R k E o).length+pot (afterL A' E) (E+1)+pot (afterL B' E) (E+1)≤N)∧(E=18446744073709551615→DiffIs A B (step R k E o)):=by
  obtain ⟨a1,a2⟩:=stretch_rng k1 hA
  obtain ⟨b1,b2⟩:=stretch_rng k1 hB
  have hl:=step_len (R:=R) (k:=k) (e:=E) (o:=o)
  have eA:E≤(stretchL A' k).2:=by rw [hE]; split <;>omega
  have eB:E≤(stretchL B' k).2:=by rw [hE]; split <;>omega
  have hor:E=(stretchL A' k).2∨E=(stretchL B' k).2:=by rw [hE]; split <;>simp
  have hke:k≤E:=by rcases hor with h|h <;>rw [h] <;>assumption
  have hT2:=hT.step k0 hA hB hke (Int.le_trans eA a2) eA eB
  rw [←ho] at hT2
  obtain ⟨pa1,pa2⟩:=pot_after hA hke eA
  obtain ⟨pb1,pb2⟩:=pot_after hB hke eB
  refine ⟨hke,Int.le_trans eA a2,by omega,fun hlt=>⟨hA.after hke eA,hB.after hke eB,hT2,?_⟩,fun he=>⟨hT2.1,fun x hx hx2=>hT2.2.2 x hx (by omega)⟩⟩
  rcases hor with h|h
  · have:=pa2 h hlt
    omega
  · have:=pb2 h hlt
    omega
set_option maxHeartbeats 4000000 in
set_option maxRecDepth 100000 in
theorem diff_any (W:World) (x y:Option Addr) (A B:List (Sp Bool)) (hA:PM W x A) (hB:PM W y B) (hl:A.length+B.length≤4200000) :
    Calls Tryz.prog 107 #[.pointer x,.pointer y] W fun e W'=>∃v,e= .returned v∧(∃R,Lm W' W.heap.size v R∧DiffIs A B R∧R.length≤8500000)∧Below W.heap.size W W':=by
  have hC1:=list_any W x A hA
  have hC2:=list_any W y B hB
  have HG:Hid (Good 0 none A∧Good 0 none B):=⟨hA.good,hB.good⟩
  clear hA hB
  go_enter Tryz.func107,Tryz.ntmps107
  go_wp2_with (fail)
  refine hC1.mono ?_
  rintro e wA ⟨va,rfl,hTA,rfl⟩
  go_wp2_with (fail)
  refine hC2.mono ?_
  rintro e wB ⟨vb,rfl,hTB,rfl⟩
  clear hC1 hC2
  go_wp2_with (fail)
  go_loopw [5,6,7,8] (fun vr vs vt sk wr=>∃(k:Int) (R:List (Sp Unit)) (A' B':List (Sp Bool)),sk= .int .u64 k∧(0≤k∧k≤18446744073709551615)∧Hid (Lm wr W.heap.size vr R∧Tl W vs A'∧Tl W vt B')∧Hid (Rest A k A'∧Rest B k B'∧Told A B k R∧R.length+pot A' k+pot B' k≤2*(A.length+B.length))∧Hid (Below W.heap.size W wr)) (fun _ _ _ sk _=>(18446744073709551616-intOf sk).toNat)
  case atStart=>exact ⟨0,[],A,B,rfl,by omega,⟨World.ownsRow_nil _ _ _ _,hTA,hTB⟩,⟨Rest.start HG.out.1,Rest.start HG.out.2,Told.start,by have:=pot_le A 0; have:=pot_le B 0; simp; omega⟩,Below.refl _ _⟩
  case round =>
    obtain ⟨k,R,A',B',rfl,⟨k0,k1⟩,HT,HR,HB⟩:=hrel
    clear hTA hTB
    have hS1:=stretch_any wr _ A' k (HT.out.2.1.keep HB.out) k0 HR.out.1.1
    have hS2:=fun w' hb=>stretch_any w' _ B' k (HT.out.2.2.keep hb) k0 HR.out.2.1.1
    have hD:=fun E o hE ho=>diff_round (E:=E) k0 k1 HR.out.1 HR.out.2.1 HR.out.2.2.1 HR.out.2.2.2 o hE ho
    have HJ:Hid (∀s∈R,0≤s.hi∧s.hi<k):=fun s hs=>⟨by have:=good_lo HR.out.2.2.1.1 s hs; omega,HR.out.2.2.1.2.1 s hs⟩
    have hRl:R.length≤8500000:=by have:=HR.out.2.2.2; omega
    have hlo:W.heap.size≤wr.heap.size:=HB.out.size
    obtain ⟨o1,e1,h1⟩:∃o1 e1,stretchL A' k=(o1,e1):=⟨_,_,rfl⟩
    obtain ⟨o2,e2,h2⟩:∃o2 e2,stretchL B' k=(o2,e2):=⟨_,_,rfl⟩
    rw [h1] at hS1
    rw [h2] at hS2
    rw [h1,h2] at hD
    simp only [strV] at hS1 hS2 hD
    clear h1 h2
    cases o1 with
    | none =>
      cases o2 with
      | none =>
        simp only [Option.getD_none,Option.isSome_none] at hS1 hS2
        by_cases hmin:e2<e1
        · have hDD:=hD e2 none (by rw [if_pos hmin]) (by rfl)
          clear hD
          obtain ⟨d1,d2,d3,d4,d5⟩:=hDD
          have HD:Hid ((step R k e2 none).length≤2*(A.length+B.length)+1∧(e2<18446744073709551615→Rest A (e2+1) (afterL A' e2)∧Rest B (e2+1) (afterL B' e2)∧Told A B (e2+1) (step R k e2 none)∧(step R k e2 none).length+pot (afterL A' e2) (e2+1)+pot (afterL B' e2) (e2+1)≤2*(A.length+B.length))∧(e2=18446744073709551615→DiffIs A B (step R k e2 none))):=⟨d3,d4,d5⟩
          clear d3 d4 d5
          by_cases hmx:e2=18446744073709551615
          · have hmx2:(e2 == 18446744073709551615)=true:=by simp [hmx]
            have HF:Hid (DiffIs A B (step R k e2 none)):=HD.out.2.2 hmx
            clear hmx
            go_wp2_with (fail)
            refine hS1.mono ?_
            rintro e w1 ⟨rfl,hb1⟩
            have hB1:=below_go HB.out hb1
            go_wp2_with (fail)
            refine (hS2 w1 hB1).mono ?_
            rintro e w2 ⟨rfl,hb2⟩
            have hB2:=below_go hB1 hb2
            have HL2:Hid (Lm w2 W.heap.size u5 R):=row_keep HT.out.1 (below_go hb1 hb2)
            clear hS1 hS2 hb1 hb2
            go_wp2
            go_ret
            exact ⟨_,rfl,⟨_,HL2.out,HF.out,by have:=HD.out.1; omega⟩,hB2⟩
          · have hmx2:(e2 == 18446744073709551615)=false:=by simp [hmx]
            have hE1:e2+1≤18446744073709551615:=by omega
            have HF:Hid (Rest A (e2+1) (afterL A' e2)∧Rest B (e2+1) (afterL B' e2)∧Told A B (e2+1) (step R k e2 none)∧(step R k e2 none).length+pot (afterL A' e2) (e2+1)+pot (afterL B' e2) (e2+1)≤2*(A.length+B.length)):=HD.out.2.1 (by omega)
            clear hmx
            go_wp2_with (fail)
            refine hS1.mono ?_
            rintro e w1 ⟨rfl,hb1⟩
            have hB1:=below_go HB.out hb1
            go_wp2_with (fail)
            refine (hS2 w1 hB1).mono ?_
            rintro e w2 ⟨rfl,hb2⟩
            have hB2:=below_go hB1 hb2
            have HL2:Hid (Lm w2 W.heap.size u5 R):=row_keep HT.out.1 (below_go hb1 hb2)
            clear hS1 hS2 hb1 hb2
            go_wp2_with (fail)
            refine (after_any W w2 u6 A' e2 HT.out.2.1 hB2).mono ?_
            rintro e w7 ⟨v7,rfl,ht7,rfl⟩
            go_wp2_with (fail)
            refine (after_any W w2 u7 B' e2 HT.out.2.2 hB2).mono ?_
            rintro e w8 ⟨v8,rfl,ht8,rfl⟩
            go_wp2
            go_roundw
            case rel=>exact ⟨e2+1,step R k e2 none,afterL A' e2,afterL B' e2,by go_num,by omega,⟨HL2.out,ht7,ht8⟩,HF,hB2⟩
            case measure=>simp [intOf]; omega
        · have hDD:=hD e1 none (by rw [if_neg hmin]) (by rfl)
          clear hD
          obtain ⟨d1,d2,d3,d4,d5⟩:=hDD
          have HD:Hid ((step R k e1 none).length≤2*(A.length+B.length)+1∧(e1<18446744073709551615→Rest A (e1+1) (afterL A' e1)∧Rest B (e1+1) (afterL B' e1)∧Told A B (e1+1) (step R k e1 none)∧(step R k e1 none).length+pot (afterL A' e1) (e1+1)+pot (afterL B' e1) (e1+1)≤2*(A.length+B.length))∧(e1=18446744073709551615→DiffIs A B (step R k e1 none))):=⟨d3,d4,d5⟩
          clear d3 d4 d5
          by_cases hmx:e1=18446744073709551615
          · have hmx2:(e1 == 18446744073709551615)=true:=by simp [hmx]
            have HF:Hid (DiffIs A B (step R k e1 none)):=HD.out.2.2 hmx
            clear hmx
            go_wp2_with (fail)
            refine hS1.mono ?_
            rintro e w1 ⟨rfl,hb1⟩
            have hB1:=below_go HB.out hb1
            go_wp2_with (fail)
            refine (hS2 w1 hB1).mono ?_
            rintro e w2 ⟨rfl,hb2⟩
            have hB2:=below_go hB1 hb2
            have HL2:Hid (Lm w2 W.heap.size u5 R):=row_keep HT.out.1 (below_go hb1 hb2)
            clear hS1 hS2 hb1 hb2
            go_wp2
            go_ret
            exact ⟨_,rfl,⟨_,HL2.out,HF.out,by have:=HD.out.1; omega⟩,hB2⟩
          · have hmx2:(e1 == 18446744073709551615)=false:=by simp [hmx]
            have hE1:e1+1≤18446744073709551615:=by omega
            have HF:Hid (Rest A (e1+1) (afterL A' e1)∧Rest B (e1+1) (afterL B' e1)∧Told A B (e1+1) (step R k e1 none)∧(step R k e1 none).length+pot (afterL A' e1) (e1+1)+pot (afterL B' e1) (e1+1)≤2*(A.length+B.length)):=HD.out.2.1 (by omega)
            clear hmx
            go_wp2_with (fail)
            refine hS1.mono ?_
            rintro e w1 ⟨rfl,hb1⟩
            have hB1:=below_go HB.out hb1
            go_wp2_with (fail)
            refine (hS2 w1 hB1).mono ?_
            rintro e w2 ⟨rfl,hb2⟩
            have hB2:=below_go hB1 hb2
            have HL2:Hid (Lm w2 W.heap.size u5 R):=row_keep HT.out.1 (below_go hb1 hb2)
            clear hS1 hS2 hb1 hb2
            go_wp2_with (fail)
            refine (after_any W w2 u6 A' e1 HT.out.2.1 hB2).mono ?_
            rintro e w7 ⟨v7,rfl,ht7,rfl⟩
            go_wp2_with (fail)
            refine (after_any W w2 u7 B' e1 HT.out.2.2 hB2).mono ?_
            rintro e w8 ⟨v8,rfl,ht8,rfl⟩
            go_wp2
            go_roundw
            case rel=>exact ⟨e1+1,step R k e1 none,afterL A' e1,afterL B' e1,by go_num,by omega,⟨HL2.out,ht7,ht8⟩,HF,hB2⟩
            case measure=>simp [intOf]; omega
      | some y1 =>
        simp only [Option.getD_none,Option.isSome_none,Option.getD_some,Option.isSome_some] at hS1 hS2
        by_cases hmin:e2<e1
        · have hDD:=hD e2 (some ()) (by rw [if_pos hmin]) (by simp)
          clear hD
          obtain ⟨d1,d2,d3,d4,d5⟩:=hDD
          have HD:Hid ((step R k e2 (some ())).length≤2*(A.length+B.length)+1∧(e2<18446744073709551615→Rest A (e2+1) (afterL A' e2)∧Rest B (e2+1) (afterL B' e2)∧Told A B (e2+1) (step R k e2 (some ()))∧(step R k e2 (some ())).length+pot (afterL A' e2) (e2+1)+pot (afterL B' e2) (e2+1)≤2*(A.length+B.length))∧(e2=18446744073709551615→DiffIs A B (step R k e2 (some ())))):=⟨d3,d4,d5⟩
          clear d3 d4 d5
          by_cases hmx:e2=18446744073709551615
          · have hmx2:(e2 == 18446744073709551615)=true:=by simp [hmx]
            have HF:Hid (DiffIs A B (step R k e2 (some ()))):=HD.out.2.2 hmx
            clear hmx
            go_wp2_with (fail)
            refine hS1.mono ?_
            rintro e w1 ⟨rfl,hb1⟩
            have hB1:=below_go HB.out hb1
            go_wp2_with (fail)
            refine (hS2 w1 hB1).mono ?_
            rintro e w2 ⟨rfl,hb2⟩
            have hB2:=below_go hB1 hb2
            have HL2:Hid (Lm w2 W.heap.size u5 R):=row_keep HT.out.1 (below_go hb1 hb2)
            clear hS1 hS2 hb1 hb2
            have hJ:=join_any w2 W.heap.size u5 R k e2 HL2.out hB2.size (by omega) HJ.out k1
            go_wp2_with (fail)
            refine hJ.mono ?_
            rintro e w6 ⟨v6,rfl,hl6,hb6⟩
            have hB6:Below W.heap.size W w6:=hB2.trans hb6
            have HL6:Hid (Lm w6 W.heap.size v6 (step R k e2 (some ()))):=hl6
            clear hJ hl6 hb6
            go_wp2
            go_ret
            exact ⟨_,rfl,⟨_,HL6.out,HF.out,by have:=HD.out.1; omega⟩,hB6⟩
          · have hmx2:(e2 == 18446744073709551615)=false:=by simp [hmx]
            have hE1:e2+1≤18446744073709551615:=by omega
            have HF:Hid (Rest A (e2+1) (afterL A' e2)∧Rest B (e2+1) (afterL B' e2)∧Told A B (e2+1) (step R k e2 (some ()))∧(step R k e2 (some ())).length+pot (afterL A' e2) (e2+1)+pot (afterL B' e2) (e2+1)≤2*(A.length+B.length)):=HD.out.2.1 (by omega)
            clear hmx
            go_wp2_with (fail)
            refine hS1.mono ?_
            rintro e w1 ⟨rfl,hb1⟩
            have hB1:=below_go HB.out hb1
            go_wp2_with (fail)
            refine (hS2 w1 hB1).mono ?_
            rintro e w2 ⟨rfl,hb2⟩
            have hB2:=below_go hB1 hb2
            have HL2:Hid (Lm w2 W.heap.size u5 R):=row_keep HT.out.1 (below_go hb1 hb2)
            clear hS1 hS2 hb1 hb2
            have hJ:=join_any w2 W.heap.size u5 R k e2 HL2.out hB2.size (by omega) HJ.out k1
            go_wp2_with (fail)
            refine hJ.mono ?_
            rintro e w6 ⟨v6,rfl,hl6,hb6⟩
            have hB6:Below W.heap.size W w6:=hB2.trans hb6
            have HL6:Hid (Lm w6 W.heap.size v6 (step R k e2 (some ()))):=hl6
            clear hJ hl6 hb6
            go_wp2_with (fail)
            refine (after_any W w6 u6 A' e2 HT.out.2.1 hB6).mono ?_
            rintro e w7 ⟨v7,rfl,ht7,rfl⟩
            go_wp2_with (fail)
            refine (after_any W w6 u7 B' e2 HT.out.2.2 hB6).mono ?_
            rintro e w8 ⟨v8,rfl,ht8,rfl⟩
            go_wp2
            go_roundw
            case rel=>exact ⟨e2+1,step R k e2 (some ()),afterL A' e2,afterL B' e2,by go_num,by omega,⟨HL6.out,ht7,ht8⟩,HF,hB6⟩
            case measure=>simp [intOf]; omega
        · have hDD:=hD e1 (some ()) (by rw [if_neg hmin]) (by simp)
          clear hD
          obtain ⟨d1,d2,d3,d4,d5⟩:=hDD
          have HD:Hid ((step R k e1 (some ())).length≤2*(A.length+B.length)+1∧(e1<18446744073709551615→Rest A (e1+1) (afterL A' e1)∧Rest B (e1+1) (afterL B' e1)∧Told A B (e1+1) (step R k e1 (some ()))∧(step R k e1 (some ())).length+pot (afterL A' e1) (e1+1)+pot (afterL B' e1) (e1+1)≤2*(A.length+B.length))∧(e1=18446744073709551615→DiffIs A B (step R k e1 (some ())))):=⟨d3,d4,d5⟩
          clear d3 d4 d5
          by_cases hmx:e1=18446744073709551615
          · have hmx2:(e1 == 18446744073709551615)=true:=by simp [hmx]
            have HF:Hid (DiffIs A B (step R k e1 (some ()))):=HD.out.2.2 hmx
            clear hmx
            go_wp2_with (fail)
            refine hS1.mono ?_
            rintro e w1 ⟨rfl,hb1⟩
            have hB1:=below_go HB.out hb1
            go_wp2_with (fail)
            refine (hS2 w1 hB1).mono ?_
            rintro e w2 ⟨rfl,hb2⟩
            have hB2:=below_go hB1 hb2
            have HL2:Hid (Lm w2 W.heap.size u5 R):=row_keep HT.out.1 (below_go hb1 hb2)
            clear hS1 hS2 hb1 hb2
            have hJ:=join_any w2 W.heap.size u5 R k e1 HL2.out hB2.size (by omega) HJ.out k1
            go_wp2_with (fail)
            refine hJ.mono ?_
            rintro e w6 ⟨v6,rfl,hl6,hb6⟩
            have hB6:Below W.heap.size W w6:=hB2.trans hb6
            have HL6:Hid (Lm w6 W.heap.size v6 (step R k e1 (some ()))):=hl6
            clear hJ hl6 hb6
            go_wp2
            go_ret
            exact ⟨_,rfl,⟨_,HL6.out,HF.out,by have:=HD.out.1; omega⟩,hB6⟩
          · have hmx2:(e1 == 18446744073709551615)=false:=by simp [hmx]
            have hE1:e1+1≤18446744073709551615:=by omega
            have HF:Hid (Rest A (e1+1) (afterL A' e1)∧Rest B (e1+1) (afterL B' e1)∧Told A B (e1+1) (step R k e1 (some ()))∧(step R k e1 (some ())).length+pot (afterL A' e1) (e1+1)+pot (afterL B' e1) (e1+1)≤2*(A.length+B.length)):=HD.out.2.1 (by omega)
            clear hmx
            go_wp2_with (fail)
            refine hS1.mono ?_
            rintro e w1 ⟨rfl,hb1⟩
            have hB1:=below_go HB.out hb1
            go_wp2_with (fail)
            refine (hS2 w1 hB1).mono ?_
            rintro e w2 ⟨rfl,hb2⟩
            have hB2:=below_go hB1 hb2
            have HL2:Hid (Lm w2 W.heap.size u5 R):=row_keep HT.out.1 (below_go hb1 hb2)
            clear hS1 hS2 hb1 hb2
            have hJ:=join_any w2 W.heap.size u5 R k e1 HL2.out hB2.size (by omega) HJ.out k1
            go_wp2_with (fail)
            refine hJ.mono ?_
            rintro e w6 ⟨v6,rfl,hl6,hb6⟩
            have hB6:Below W.heap.size W w6:=hB2.trans hb6
            have HL6:Hid (Lm w6 W.heap.size v6 (step R k e1 (some ()))):=hl6
            clear hJ hl6 hb6
            go_wp2_with (fail)
            refine (after_any W w6 u6 A' e1 HT.out.2.1 hB6).mono ?_
            rintro e w7 ⟨v7,rfl,ht7,rfl⟩
            go_wp2_with (fail)
            refine (after_any W w6 u7 B' e1 HT.out.2.2 hB6).mono ?_
            rintro e w8 ⟨v8,rfl,ht8,rfl⟩
            go_wp2
            go_roundw
            case rel=>exact ⟨e1+1,step R k e1 (some ()),afterL A' e1,afterL B' e1,by go_num,by omega,⟨HL6.out,ht7,ht8⟩,HF,hB6⟩
            case measure=>simp [intOf]; omega
    | some x1 =>
      cases o2 with
      | none =>
        simp only [Option.getD_none,Option.isSome_none,Option.getD_some,Option.isSome_some] at hS1 hS2
        by_cases hmin:e2<e1
        · have hDD:=hD e2 (some ()) (by rw [if_pos hmin]) (by simp)
          clear hD
          obtain ⟨d1,d2,d3,d4,d5⟩:=hDD
          have HD:Hid ((step R k e2 (some ())).length≤2*(A.length+B.length)+1∧(e2<18446744073709551615→Rest A (e2+1) (afterL A' e2)∧Rest B (e2+1) (afterL B' e2)∧Told A B (e2+1) (step R k e2 (some ()))∧(step R k e2 (some ())).length+pot (afterL A' e2) (e2+1)+pot (afterL B' e2) (e2+1)≤2*(A.length+B.length))∧(e2=18446744073709551615→DiffIs A B (step R k e2 (some ())))):=⟨d3,d4,d5⟩
          clear d3 d4 d5
          by_cases hmx:e2=18446744073709551615
          · have hmx2:(e2 == 18446744073709551615)=true:=by simp [hmx]
            have HF:Hid (DiffIs A B (step R k e2 (some ()))):=HD.out.2.2 hmx
            clear hmx
            go_wp2_with (fail)
            refine hS1.mono ?_
            rintro e w1 ⟨rfl,hb1⟩
            have hB1:=below_go HB.out hb1
            go_wp2_with (fail)
            refine (hS2 w1 hB1).mono ?_
            rintro e w2 ⟨rfl,hb2⟩
            have hB2:=below_go hB1 hb2
            have HL2:Hid (Lm w2 W.heap.size u5 R):=row_keep HT.out.1 (below_go hb1 hb2)
            clear hS1 hS2 hb1 hb2
            have hJ:=join_any w2 W.heap.size u5 R k e2 HL2.out hB2.size (by omega) HJ.out k1
            go_wp2_with (fail)
            refine hJ.mono ?_
            rintro e w6 ⟨v6,rfl,hl6,hb6⟩
            have hB6:Below W.heap.size W w6:=hB2.trans hb6
            have HL6:Hid (Lm w6 W.heap.size v6 (step R k e2 (some ()))):=hl6
            clear hJ hl6 hb6
            go_wp2
            go_ret
            exact ⟨_,rfl,⟨_,HL6.out,HF.out,by have:=HD.out.1; omega⟩,hB6⟩
          · have hmx2:(e2 == 18446744073709551615)=false:=by simp [hmx]
            have hE1:e2+1≤18446744073709551615:=by omega
            have HF:Hid (Rest A (e2+1) (afterL A' e2)∧Rest B (e2+1) (afterL B' e2)∧Told A B (e2+1) (step R k e2 (some ()))∧(step R k e2 (some ())).length+pot (afterL A' e2) (e2+1)+pot (afterL B' e2) (e2+1)≤2*(A.length+B.length)):=HD.out.2.1 (by omega)
            clear hmx
            go_wp2_with (fail)
            refine hS1.mono ?_
            rintro e w1 ⟨rfl,hb1⟩
            have hB1:=below_go HB.out hb1
            go_wp2_with (fail)
            refine (hS2 w1 hB1).mono ?_
            rintro e w2 ⟨rfl,hb2⟩
            have hB2:=below_go hB1 hb2
            have HL2:Hid (Lm w2 W.heap.size u5 R):=row_keep HT.out.1 (below_go hb1 hb2)
            clear hS1 hS2 hb1 hb2
            have hJ:=join_any w2 W.heap.size u5 R k e2 HL2.out hB2.size (by omega) HJ.out k1
            go_wp2_with (fail)
            refine hJ.mono ?_
            rintro e w6 ⟨v6,rfl,hl6,hb6⟩
            have hB6:Below W.heap.size W w6:=hB2.trans hb6
            have HL6:Hid (Lm w6 W.heap.size v6 (step R k e2 (some ()))):=hl6
            clear hJ hl6 hb6
            go_wp2_with (fail)
            refine (after_any W w6 u6 A' e2 HT.out.2.1 hB6).mono ?_
            rintro e w7 ⟨v7,rfl,ht7,rfl⟩
            go_wp2_with (fail)
            refine (after_any W w6 u7 B' e2 HT.out.2.2 hB6).mono ?_
            rintro e w8 ⟨v8,rfl,ht8,rfl⟩
            go_wp2
            go_roundw
            case rel=>exact ⟨e2+1,step R k e2 (some ()),afterL A' e2,afterL B' e2,by go_num,by omega,⟨HL6.out,ht7,ht8⟩,HF,hB6⟩
            case measure=>simp [intOf]; omega
        · have hDD:=hD e1 (some ()) (by rw [if_neg hmin]) (by simp)
          clear hD
          obtain ⟨d1,d2,d3,d4,d5⟩:=hDD
          have HD:Hid ((step R k e1 (some ())).length≤2*(A.length+B.length)+1∧(e1<18446744073709551615→Rest A (e1+1) (afterL A' e1)∧Rest B (e1+1) (afterL B' e1)∧Told A B (e1+1) (step R k e1 (some ()))∧(step R k e1 (some ())).length+pot (afterL A' e1) (e1+1)+pot (afterL B' e1) (e1+1)≤2*(A.length+B.length))∧(e1=18446744073709551615→DiffIs A B (step R k e1 (some ())))):=⟨d3,d4,d5⟩
          clear d3 d4 d5
          by_cases hmx:e1=18446744073709551615
          · have hmx2:(e1 == 18446744073709551615)=true:=by simp [hmx]
            have HF:Hid (DiffIs A B (step R k e1 (some ()))):=HD.out.2.2 hmx
            clear hmx
            go_wp2_with (fail)
            refine hS1.mono ?_
            rintro e w1 ⟨rfl,hb1⟩
            have hB1:=below_go HB.out hb1
            go_wp2_with (fail)
            refine (hS2 w1 hB1).mono ?_
            rintro e w2 ⟨rfl,hb2⟩
            have hB2:=below_go hB1 hb2
            have HL2:Hid (Lm w2 W.heap.size u5 R):=row_keep HT.out.1 (below_go hb1 hb2)
            clear hS1 hS2 hb1 hb2
            have hJ:=join_any w2 W.heap.size u5 R k e1 HL2.out hB2.size (by omega) HJ.out k1
            go_wp2_with (fail)
            refine hJ.mono ?_
            rintro e w6 ⟨v6,rfl,hl6,hb6⟩
            have hB6:Below W.heap.size W w6:=hB2.trans hb6
            have HL6:Hid (Lm w6 W.heap.size v6 (step R k e1 (some ()))):=hl6
            clear hJ hl6 hb6
            go_wp2
            go_ret
            exact ⟨_,rfl,⟨_,HL6.out,HF.out,by have:=HD.out.1; omega⟩,hB6⟩
          · have hmx2:(e1 == 18446744073709551615)=false:=by simp [hmx]
            have hE1:e1+1≤18446744073709551615:=by omega
            have HF:Hid (Rest A (e1+1) (afterL A' e1)∧Rest B (e1+1) (afterL B' e1)∧Told A B (e1+1) (step R k e1 (some ()))∧(step R k e1 (some ())).length+pot (afterL A' e1) (e1+1)+pot (afterL B' e1) (e1+1)≤2*(A.length+B.length)):=HD.out.2.1 (by omega)
            clear hmx
            go_wp2_with (fail)
            refine hS1.mono ?_
            rintro e w1 ⟨rfl,hb1⟩
            have hB1:=below_go HB.out hb1
            go_wp2_with (fail)
            refine (hS2 w1 hB1).mono ?_
            rintro e w2 ⟨rfl,hb2⟩
            have hB2:=below_go hB1 hb2
            have HL2:Hid (Lm w2 W.heap.size u5 R):=row_keep HT.out.1 (below_go hb1 hb2)
            clear hS1 hS2 hb1 hb2
            have hJ:=join_any w2 W.heap.size u5 R k e1 HL2.out hB2.size (by omega) HJ.out k1
            go_wp2_with (fail)
            refine hJ.mono ?_
            rintro e w6 ⟨v6,rfl,hl6,hb6⟩
            have hB6:Below W.heap.size W w6:=hB2.trans hb6
            have HL6:Hid (Lm w6 W.heap.size v6 (step R k e1 (some ()))):=hl6
            clear hJ hl6 hb6
            go_wp2_with (fail)
            refine (after_any W w6 u6 A' e1 HT.out.2.1 hB6).mono ?_
            rintro e w7 ⟨v7,rfl,ht7,rfl⟩
            go_wp2_with (fail)
            refine (after_any W w6 u7 B' e1 HT.out.2.2 hB6).mono ?_
            rintro e w8 ⟨v8,rfl,ht8,rfl⟩
            go_wp2
            go_roundw
            case rel=>exact ⟨e1+1,step R k e1 (some ()),afterL A' e1,afterL B' e1,by go_num,by omega,⟨HL6.out,ht7,ht8⟩,HF,hB6⟩
            case measure=>simp [intOf]; omega
      | some y1 =>
        simp only [Option.getD_some,Option.isSome_some] at hS1 hS2
        by_cases hxy:x1=y1
        · subst hxy
          by_cases hmin:e2<e1
          · have hDD:=hD e2 none (by rw [if_pos hmin]) (by simp)
            clear hD
            obtain ⟨d1,d2,d3,d4,d5⟩:=hDD
            have HD:Hid ((step R k e2 none).length≤2*(A.length+B.length)+1∧(e2<18446744073709551615→Rest A (e2+1) (afterL A' e2)∧Rest B (e2+1) (afterL B' e2)∧Told A B (e2+1) (step R k e2 none)∧(step R k e2 none).length+pot (afterL A' e2) (e2+1)+pot (afterL B' e2) (e2+1)≤2*(A.length+B.length))∧(e2=18446744073709551615→DiffIs A B (step R k e2 none))):=⟨d3,d4,d5⟩
            clear d3 d4 d5
            by_cases hmx:e2=18446744073709551615
            · have hmx2:(e2 == 18446744073709551615)=true:=by simp [hmx]
              have HF:Hid (DiffIs A B (step R k e2 none)):=HD.out.2.2 hmx
              clear hmx
              go_wp2_with (fail)
              refine hS1.mono ?_
              rintro e w1 ⟨rfl,hb1⟩
              have hB1:=below_go HB.out hb1
              go_wp2_with (fail)
              refine (hS2 w1 hB1).mono ?_
              rintro e w2 ⟨rfl,hb2⟩
              have hB2:=below_go hB1 hb2
              have HL2:Hid (Lm w2 W.heap.size u5 R):=row_keep HT.out.1 (below_go hb1 hb2)
              clear hS1 hS2 hb1 hb2
              go_wp2_with (fail)
              refine (same_any x1 x1 w2).mono ?_
              rintro e w5 ⟨rfl,hb5⟩
              have hB5:=below_go hB2 hb5
              have HL5:Hid (Lm w5 W.heap.size u5 R):=row_keep HL2.out hb5
              rw [show decide (x1=x1)=true by simp]
              clear hb5
              go_wp2
              go_ret
              exact ⟨_,rfl,⟨_,HL5.out,HF.out,by have:=HD.out.1; omega⟩,hB5⟩
            · have hmx2:(e2 == 18446744073709551615)=false:=by simp [hmx]
              have hE1:e2+1≤18446744073709551615:=by omega
              have HF:Hid (Rest A (e2+1) (afterL A' e2)∧Rest B (e2+1) (afterL B' e2)∧Told A B (e2+1) (step R k e2 none)∧(step R k e2 none).length+pot (afterL A' e2) (e2+1)+pot (afterL B' e2) (e2+1)≤2*(A.length+B.length)):=HD.out.2.1 (by omega)
              clear hmx
              go_wp2_with (fail)
              refine hS1.mono ?_
              rintro e w1 ⟨rfl,hb1⟩
              have hB1:=below_go HB.out hb1
              go_wp2_with (fail)
              refine (hS2 w1 hB1).mono ?_
              rintro e w2 ⟨rfl,hb2⟩
              have hB2:=below_go hB1 hb2
              have HL2:Hid (Lm w2 W.heap.size u5 R):=row_keep HT.out.1 (below_go hb1 hb2)
              clear hS1 hS2 hb1 hb2
              go_wp2_with (fail)
              refine (same_any x1 x1 w2).mono ?_
              rintro e w5 ⟨rfl,hb5⟩
              have hB5:=below_go hB2 hb5
              have HL5:Hid (Lm w5 W.heap.size u5 R):=row_keep HL2.out hb5
              rw [show decide (x1=x1)=true by simp]
              clear hb5
              go_wp2_with (fail)
              refine (after_any W w5 u6 A' e2 HT.out.2.1 hB5).mono ?_
              rintro e w7 ⟨v7,rfl,ht7,rfl⟩
              go_wp2_with (fail)
              refine (after_any W w5 u7 B' e2 HT.out.2.2 hB5).mono ?_
              rintro e w8 ⟨v8,rfl,ht8,rfl⟩
              go_wp2
              go_roundw
              case rel=>exact ⟨e2+1,step R k e2 none,afterL A' e2,afterL B' e2,by go_num,by omega,⟨HL5.out,ht7,ht8⟩,HF,hB5⟩
              case measure=>simp [intOf]; omega
          · have hDD:=hD e1 none (by rw [if_neg hmin]) (by simp)
            clear hD
            obtain ⟨d1,d2,d3,d4,d5⟩:=hDD
            have HD:Hid ((step R k e1 none).length≤2*(A.length+B.length)+1∧(e1<18446744073709551615→Rest A (e1+1) (afterL A' e1)∧Rest B (e1+1) (afterL B' e1)∧Told A B (e1+1) (step R k e1 none)∧(step R k e1 none).length+pot (afterL A' e1) (e1+1)+pot (afterL B' e1) (e1+1)≤2*(A.length+B.length))∧(e1=18446744073709551615→DiffIs A B (step R k e1 none))):=⟨d3,d4,d5⟩
            clear d3 d4 d5
            by_cases hmx:e1=18446744073709551615
            · have hmx2:(e1 == 18446744073709551615)=true:=by simp [hmx]
              have HF:Hid (DiffIs A B (step R k e1 none)):=HD.out.2.2 hmx
              clear hmx
              go_wp2_with (fail)
              refine hS1.mono ?_
              rintro e w1 ⟨rfl,hb1⟩
              have hB1:=below_go HB.out hb1
              go_wp2_with (fail)
              refine (hS2 w1 hB1).mono ?_
              rintro e w2 ⟨rfl,hb2⟩
              have hB2:=below_go hB1 hb2
              have HL2:Hid (Lm w2 W.heap.size u5 R):=row_keep HT.out.1 (below_go hb1 hb2)
              clear hS1 hS2 hb1 hb2
              go_wp2_with (fail)
              refine (same_any x1 x1 w2).mono ?_
              rintro e w5 ⟨rfl,hb5⟩
              have hB5:=below_go hB2 hb5
              have HL5:Hid (Lm w5 W.heap.size u5 R):=row_keep HL2.out hb5
              rw [show decide (x1=x1)=true by simp]
              clear hb5
              go_wp2
              go_ret
              exact ⟨_,rfl,⟨_,HL5.out,HF.out,by have:=HD.out.1; omega⟩,hB5⟩
            · have hmx2:(e1 == 18446744073709551615)=false:=by simp [hmx]
              have hE1:e1+1≤18446744073709551615:=by omega
              have HF:Hid (Rest A (e1+1) (afterL A' e1)∧Rest B (e1+1) (afterL B' e1)∧Told A B (e1+1) (step R k e1 none)∧(step R k e1 none).length+pot (afterL A' e1) (e1+1)+pot (afterL B' e1) (e1+1)≤2*(A.length+B.length)):=HD.out.2.1 (by omega)
              clear hmx
              go_wp2_with (fail)
              refine hS1.mono ?_
              rintro e w1 ⟨rfl,hb1⟩
              have hB1:=below_go HB.out hb1
              go_wp2_with (fail)
              refine (hS2 w1 hB1).mono ?_
              rintro e w2 ⟨rfl,hb2⟩
              have hB2:=below_go hB1 hb2
              have HL2:Hid (Lm w2 W.heap.size u5 R):=row_keep HT.out.1 (below_go hb1 hb2)
              clear hS1 hS2 hb1 hb2
              go_wp2_with (fail)
              refine (same_any x1 x1 w2).mono ?_
              rintro e w5 ⟨rfl,hb5⟩
              have hB5:=below_go hB2 hb5
              have HL5:Hid (Lm w5 W.heap.size u5 R):=row_keep HL2.out hb5
              rw [show decide (x1=x1)=true by simp]
              clear hb5
              go_wp2_with (fail)
              refine (after_any W w5 u6 A' e1 HT.out.2.1 hB5).mono ?_
              rintro e w7 ⟨v7,rfl,ht7,rfl⟩
              go_wp2_with (fail)
              refine (after_any W w5 u7 B' e1 HT.out.2.2 hB5).mono ?_
              rintro e w8 ⟨v8,rfl,ht8,rfl⟩
              go_wp2
              go_roundw
              case rel=>exact ⟨e1+1,step R k e1 none,afterL A' e1,afterL B' e1,by go_num,by omega,⟨HL5.out,ht7,ht8⟩,HF,hB5⟩
              case measure=>simp [intOf]; omega
        · by_cases hmin:e2<e1
          · have hDD:=hD e2 (some ()) (by rw [if_pos hmin]) (by simp [hxy])
            clear hD
            obtain ⟨d1,d2,d3,d4,d5⟩:=hDD
            have HD:Hid ((step R k e2 (some ())).length≤2*(A.length+B.length)+1∧(e2<18446744073709551615→Rest A (e2+1) (afterL A' e2)∧Rest B (e2+1) (afterL B' e2)∧Told A B (e2+1) (step R k e2 (some ()))∧(step R k e2 (some ())).length+pot (afterL A' e2) (e2+1)+pot (afterL B' e2) (e2+1)≤2*(A.length+B.length))∧(e2=18446744073709551615→DiffIs A B (step R k e2 (some ())))):=⟨d3,d4,d5⟩
            clear d3 d4 d5
            by_cases hmx:e2=18446744073709551615
            · have hmx2:(e2 == 18446744073709551615)=true:=by simp [hmx]
              have HF:Hid (DiffIs A B (step R k e2 (some ()))):=HD.out.2.2 hmx
              clear hmx
              go_wp2_with (fail)
              refine hS1.mono ?_
              rintro e w1 ⟨rfl,hb1⟩
              have hB1:=below_go HB.out hb1
              go_wp2_with (fail)
              refine (hS2 w1 hB1).mono ?_
              rintro e w2 ⟨rfl,hb2⟩
              have hB2:=below_go hB1 hb2
              have HL2:Hid (Lm w2 W.heap.size u5 R):=row_keep HT.out.1 (below_go hb1 hb2)
              clear hS1 hS2 hb1 hb2
              go_wp2_with (fail)
              refine (same_any x1 y1 w2).mono ?_
              rintro e w5 ⟨rfl,hb5⟩
              have hB5:=below_go hB2 hb5
              have HL5:Hid (Lm w5 W.heap.size u5 R):=row_keep HL2.out hb5
              rw [show decide (x1=y1)=false by simp [hxy]]
              clear hb5
              have hJ:=join_any w5 W.heap.size u5 R k e2 HL5.out hB5.size (by omega) HJ.out k1
              go_wp2_with (fail)
              refine hJ.mono ?_
              rintro e w6 ⟨v6,rfl,hl6,hb6⟩
              have hB6:Below W.heap.size W w6:=hB5.trans hb6
              have HL6:Hid (Lm w6 W.heap.size v6 (step R k e2 (some ()))):=hl6
              clear hJ hl6 hb6
              go_wp2
              go_ret
              exact ⟨_,rfl,⟨_,HL6.out,HF.out,by have:=HD.out.1; omega⟩,hB6⟩
            · have hmx2:(e2 == 18446744073709551615)=false:=by simp [hmx]
              have hE1:e2+1≤18446744073709551615:=by omega
              have HF:Hid (Rest A (e2+1) (afterL A' e2)∧Rest B (e2+1) (afterL B' e2)∧Told A B (e2+1) (step R k e2 (some ()))∧(step R k e2 (some ())).length+pot (afterL A' e2) (e2+1)+pot (afterL B' e2) (e2+1)≤2*(A.length+B.length)):=HD.out.2.1 (by omega)
              clear hmx
              go_wp2_with (fail)
              refine hS1.mono ?_
              rintro e w1 ⟨rfl,hb1⟩
              have hB1:=below_go HB.out hb1
              go_wp2_with (fail)
              refine (hS2 w1 hB1).mono ?_
              rintro e w2 ⟨rfl,hb2⟩
              have hB2:=below_go hB1 hb2
              have HL2:Hid (Lm w2 W.heap.size u5 R):=row_keep HT.out.1 (below_go hb1 hb2)
              clear hS1 hS2 hb1 hb2
              go_wp2_with (fail)
              refine (same_any x1 y1 w2).mono ?_
              rintro e w5 ⟨rfl,hb5⟩
              have hB5:=below_go hB2 hb5
              have HL5:Hid (Lm w5 W.heap.size u5 R):=row_keep HL2.out hb5
              rw [show decide (x1=y1)=false by simp [hxy]]
              clear hb5
              have hJ:=join_any w5 W.heap.size u5 R k e2 HL5.out hB5.size (by omega) HJ.out k1
              go_wp2_with (fail)
              refine hJ.mono ?_
              rintro e w6 ⟨v6,rfl,hl6,hb6⟩
              have hB6:Below W.heap.size W w6:=hB5.trans hb6
              have HL6:Hid (Lm w6 W.heap.size v6 (step R k e2 (some ()))):=hl6
              clear hJ hl6 hb6
              go_wp2_with (fail)
              refine (after_any W w6 u6 A' e2 HT.out.2.1 hB6).mono ?_
              rintro e w7 ⟨v7,rfl,ht7,rfl⟩
              go_wp2_with (fail)
              refine (after_any W w6 u7 B' e2 HT.out.2.2 hB6).mono ?_
              rintro e w8 ⟨v8,rfl,ht8,rfl⟩
              go_wp2
              go_roundw
              case rel=>exact ⟨e2+1,step R k e2 (some ()),afterL A' e2,afterL B' e2,by go_num,by omega,⟨HL6.out,ht7,ht8⟩,HF,hB6⟩
              case measure=>simp [intOf]; omega
          · have hDD:=hD e1 (some ()) (by rw [if_neg hmin]) (by simp [hxy])
            clear hD
            obtain ⟨d1,d2,d3,d4,d5⟩:=hDD
            have HD:Hid ((step R k e1 (some ())).length≤2*(A.length+B.length)+1∧(e1<18446744073709551615→Rest A (e1+1) (afterL A' e1)∧Rest B (e1+1) (afterL B' e1)∧Told A B (e1+1) (step R k e1 (some ()))∧(step R k e1 (some ())).length+pot (afterL A' e1) (e1+1)+pot (afterL B' e1) (e1+1)≤2*(A.length+B.length))∧(e1=18446744073709551615→DiffIs A B (step R k e1 (some ())))):=⟨d3,d4,d5⟩
            clear d3 d4 d5
            by_cases hmx:e1=18446744073709551615
            · have hmx2:(e1 == 18446744073709551615)=true:=by simp [hmx]
              have HF:Hid (DiffIs A B (step R k e1 (some ()))):=HD.out.2.2 hmx
              clear hmx
              go_wp2_with (fail)
              refine hS1.mono ?_
              rintro e w1 ⟨rfl,hb1⟩
              have hB1:=below_go HB.out hb1
              go_wp2_with (fail)
              refine (hS2 w1 hB1).mono ?_
              rintro e w2 ⟨rfl,hb2⟩
              have hB2:=below_go hB1 hb2
              have HL2:Hid (Lm w2 W.heap.size u5 R):=row_keep HT.out.1 (below_go hb1 hb2)
              clear hS1 hS2 hb1 hb2
              go_wp2_with (fail)
              refine (same_any x1 y1 w2).mono ?_
              rintro e w5 ⟨rfl,hb5⟩
              have hB5:=below_go hB2 hb5
              have HL5:Hid (Lm w5 W.heap.size u5 R):=row_keep HL2.out hb5
              rw [show decide (x1=y1)=false by simp [hxy]]
              clear hb5
              have hJ:=join_any w5 W.heap.size u5 R k e1 HL5.out hB5.size (by omega) HJ.out k1
              go_wp2_with (fail)
              refine hJ.mono ?_
              rintro e w6 ⟨v6,rfl,hl6,hb6⟩
              have hB6:Below W.heap.size W w6:=hB5.trans hb6
              have HL6:Hid (Lm w6 W.heap.size v6 (step R k e1 (some ()))):=hl6
              clear hJ hl6 hb6
              go_wp2
              go_ret
              exact ⟨_,rfl,⟨_,HL6.out,HF.out,by have:=HD.out.1; omega⟩,hB6⟩
            · have hmx2:(e1 == 18446744073709551615)=false:=by simp [hmx]
              have hE1:e1+1≤18446744073709551615:=by omega
              have HF:Hid (Rest A (e1+1) (afterL A' e1)∧Rest B (e1+1) (afterL B' e1)∧Told A B (e1+1) (step R k e1 (some ()))∧(step R k e1 (some ())).length+pot (afterL A' e1) (e1+1)+pot (afterL B' e1) (e1+1)≤2*(A.length+B.length)):=HD.out.2.1 (by omega)
              clear hmx
              go_wp2_with (fail)
              refine hS1.mono ?_
              rintro e w1 ⟨rfl,hb1⟩
              have hB1:=below_go HB.out hb1
              go_wp2_with (fail)
              refine (hS2 w1 hB1).mono ?_
              rintro e w2 ⟨rfl,hb2⟩
              have hB2:=below_go hB1 hb2
              have HL2:Hid (Lm w2 W.heap.size u5 R):=row_keep HT.out.1 (below_go hb1 hb2)
              clear hS1 hS2 hb1 hb2
              go_wp2_with (fail)
              refine (same_any x1 y1 w2).mono ?_
              rintro e w5 ⟨rfl,hb5⟩
              have hB5:=below_go hB2 hb5
              have HL5:Hid (Lm w5 W.heap.size u5 R):=row_keep HL2.out hb5
              rw [show decide (x1=y1)=false by simp [hxy]]
              clear hb5
              have hJ:=join_any w5 W.heap.size u5 R k e1 HL5.out hB5.size (by omega) HJ.out k1
              go_wp2_with (fail)
              refine hJ.mono ?_
              rintro e w6 ⟨v6,rfl,hl6,hb6⟩
              have hB6:Below W.heap.size W w6:=hB5.trans hb6
              have HL6:Hid (Lm w6 W.heap.size v6 (step R k e1 (some ()))):=hl6
              clear hJ hl6 hb6
              go_wp2_with (fail)
              refine (after_any W w6 u6 A' e1 HT.out.2.1 hB6).mono ?_
              rintro e w7 ⟨v7,rfl,ht7,rfl⟩
              go_wp2_with (fail)
              refine (after_any W w6 u7 B' e1 HT.out.2.2 hB6).mono ?_
              rintro e w8 ⟨v8,rfl,ht8,rfl⟩
              go_wp2
              go_roundw
              case rel=>exact ⟨e1+1,step R k e1 (some ()),afterL A' e1,afterL B' e1,by go_num,by omega,⟨HL6.out,ht7,ht8⟩,HF,hB6⟩
              case measure=>simp [intOf]; omega
end Go.Proofs.YtnjlajjjcmhfgaaGreatDoor.Bs
