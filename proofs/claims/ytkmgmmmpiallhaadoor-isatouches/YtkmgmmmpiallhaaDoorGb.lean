import Derived.Test.YtkmgmmmpiallhaaDoorGa
namespace Go.Proofs.YtkmgmmmpiallhaaDoor
open Go.RowKit
set_option linter.unusedVariables false
set_option linter.unusedSimpArgs false
def addsP (op:Int):Bool:=op == 22 || op == 24
def sendsP (op:Int):Bool:=op == 32 || (op == 34 || (op == 36 || op == 49))
def rRdP (op:Int):Bool:=sendsP op || (addsP op || op == 18)
def rRaP (op:Int):Bool:=addsP op || op == 20
def comesP (op:Int):Bool:=op == 42 || op == 44
def goesP (op:Int):Bool:=comesP op || (op == 41 || op == 43)
def onlyP (b:Bool) (n:Int):Int:=if b then 2^n.toNat else 0
set_option maxRecDepth 100000 in
theorem gisLong_any (op:Int) (w:World):Calls Tryd.prog 30 #[.int .i64 op] w fun e w'=>e= .returned (.bool (isLongP op))∧w'=w:=by
  by_cases h:21≤op
  · have e:isLongP op=decide (op≤24):=by rw [isLongP,decide_eq_true h,Bool.true_and]
    rw [e]
    clear e
    go_enter Tryd.func30,Tryd.ntmps30
    go_wp2
    exact bodyPost_ret (v:= .bool (decide (op≤24))) (by simp [results,Tryd.results30,go_sem]) rfl ⟨rfl,rfl⟩
  · have e:isLongP op=false:=by rw [isLongP,decide_eq_false h,Bool.false_and]
    rw [e]
    clear e
    go_enter Tryd.func30,Tryd.ntmps30
    go_wp2
    exact bodyPost_ret (v:= .bool false) (by simp [results,Tryd.results30,go_sem]) rfl ⟨rfl,rfl⟩
set_option maxRecDepth 100000 in
theorem gisOne_any (op:Int) (w:World):Calls Tryd.prog 43 #[.int .i64 op] w fun e w'=>e= .returned (.bool (isOneP op))∧w'=w:=by
  by_cases h:31≤op
  · have e:isOneP op=decide (op≤38):=by rw [isOneP,decide_eq_true h,Bool.true_and]
    rw [e]
    clear e
    go_enter Tryd.func43,Tryd.ntmps43
    go_wp2
    exact bodyPost_ret (v:= .bool (decide (op≤38))) (by simp [results,Tryd.results43,go_sem]) rfl ⟨rfl,rfl⟩
  · have e:isOneP op=false:=by rw [isOneP,decide_eq_false h,Bool.false_and]
    rw [e]
    clear e
    go_enter Tryd.func43,Tryd.ntmps43
    go_wp2
    exact bodyPost_ret (v:= .bool false) (by simp [results,Tryd.results43,go_sem]) rfl ⟨rfl,rfl⟩
set_option maxRecDepth 100000 in
theorem gadds_any (op:Int) (w:World):Calls Tryd.prog 49 #[.int .i64 op] w fun e w'=>e= .returned (.bool (addsP op))∧w'=w:=by
  cases h:(op == 22)
  · have e:addsP op=(op == 24):=by rw [addsP,h,Bool.false_or]
    rw [e]
    clear e
    go_enter Tryd.func49,Tryd.ntmps49
    go_wp2
    exact bodyPost_ret (v:= .bool (op == 24)) (by simp [results,Tryd.results49,go_sem]) rfl ⟨rfl,rfl⟩
  · have e:addsP op=true:=by rw [addsP,h,Bool.true_or]
    rw [e]
    clear e
    go_enter Tryd.func49,Tryd.ntmps49
    go_wp2
    exact bodyPost_ret (v:= .bool true) (by simp [results,Tryd.results49,go_sem]) rfl ⟨rfl,rfl⟩
set_option maxRecDepth 100000 in
theorem gsends_any (op:Int) (w:World):Calls Tryd.prog 29 #[.int .i64 op] w fun e w'=>e= .returned (.bool (sendsP op))∧w'=w:=by
  by_cases h:op=32∨op=34∨op=36∨op=49
  · have e:sendsP op=true:=by rcases h with rfl|rfl|rfl|rfl <;>rfl
    rw [e]
    clear e
    rcases h with rfl|rfl|rfl|rfl <;>
    · go_enter Tryd.func29,Tryd.ntmps29
      go_wp2
      exact bodyPost_ret (v:= .bool true) (by simp [results,Tryd.results29,go_sem]) rfl ⟨rfl,rfl⟩
  · have h1:(op == 32)=false∧(op == 34)=false∧(op == 36)=false∧(op == 49)=false:=by simp only [beq_eq_false_iff_ne]; omega
    obtain ⟨a1,a2,a3,a4⟩:=h1
    have e:sendsP op=false:=by rw [sendsP,a1,a2,a3,a4]; rfl
    rw [e]
    clear e h
    go_enter Tryd.func29,Tryd.ntmps29
    go_wp2
    exact bodyPost_ret (v:= .bool false) (by simp [results,Tryd.results29,go_sem]) rfl ⟨rfl,rfl⟩
set_option maxRecDepth 100000 in
theorem grRd_any (op:Int) (w:World):Calls Tryd.prog 28 #[.int .i64 op] w fun e w'=>e= .returned (.bool (rRdP op))∧w'=w:=by
  have H1:Hid (∀w,Calls Tryd.prog 29 #[.int .i64 op] w fun e w'=>e= .returned (.bool (sendsP op))∧w'=w):=fun w=>gsends_any op w
  have H2:Hid (∀w,Calls Tryd.prog 49 #[.int .i64 op] w fun e w'=>e= .returned (.bool (addsP op))∧w'=w):=fun w=>gadds_any op w
  have e:rRdP op=(sendsP op || (addsP op || op == 18)):=rfl
  rw [e]
  clear e
  generalize sendsP op=A at *
  generalize addsP op=B at *
  cases A <;>cases B <;>
  · go_enter Tryd.func28,Tryd.ntmps28
    go_wp2_with (first|(go_at_call 29; refine (H1.out _).mono ?_; rintro e w' ⟨rfl,rfl⟩)|(go_at_call 49; refine (H2.out _).mono ?_; rintro e w' ⟨rfl,rfl⟩))
    exact bodyPost_ret (by simp [results,Tryd.results28,go_sem]) rfl ⟨rfl,rfl⟩
set_option maxRecDepth 100000 in
theorem grRa_any (op:Int) (w:World):Calls Tryd.prog 27 #[.int .i64 op] w fun e w'=>e= .returned (.bool (rRaP op))∧w'=w:=by
  have H2:Hid (∀w,Calls Tryd.prog 49 #[.int .i64 op] w fun e w'=>e= .returned (.bool (addsP op))∧w'=w):=fun w=>gadds_any op w
  have e:rRaP op=(addsP op || op == 20):=rfl
  rw [e]
  clear e
  generalize addsP op=B at *
  cases B <;>
  · go_enter Tryd.func27,Tryd.ntmps27
    go_wp2_with (go_at_call 49; refine (H2.out _).mono ?_; rintro e w' ⟨rfl,rfl⟩)
    exact bodyPost_ret (by simp [results,Tryd.results27,go_sem]) rfl ⟨rfl,rfl⟩
set_option maxRecDepth 100000 in
theorem gcomes_any (op:Int) (w:World):Calls Tryd.prog 33 #[.int .i64 op] w fun e w'=>e= .returned (.bool (comesP op))∧w'=w:=by
  cases h:(op == 42)
  · have e:comesP op=(op == 44):=by rw [comesP,h,Bool.false_or]
    rw [e]
    clear e
    go_enter Tryd.func33,Tryd.ntmps33
    go_wp2
    exact bodyPost_ret (v:= .bool (op == 44)) (by simp [results,Tryd.results33,go_sem]) rfl ⟨rfl,rfl⟩
  · have e:comesP op=true:=by rw [comesP,h,Bool.true_or]
    rw [e]
    clear e
    go_enter Tryd.func33,Tryd.ntmps33
    go_wp2
    exact bodyPost_ret (v:= .bool true) (by simp [results,Tryd.results33,go_sem]) rfl ⟨rfl,rfl⟩
set_option maxRecDepth 100000 in
theorem ggoes_any (op:Int) (w:World):Calls Tryd.prog 32 #[.int .i64 op] w fun e w'=>e= .returned (.bool (goesP op))∧w'=w:=by
  have H1:Hid (∀w,Calls Tryd.prog 33 #[.int .i64 op] w fun e w'=>e= .returned (.bool (comesP op))∧w'=w):=fun w=>gcomes_any op w
  have e:goesP op=(comesP op || (op == 41 || op == 43)):=rfl
  rw [e]
  clear e
  generalize comesP op=A at *
  cases A <;>cases h:(op == 41) <;>
  · go_enter Tryd.func32,Tryd.ntmps32
    go_wp2_with (go_at_call 33; refine (H1.out _).mono ?_; rintro e w' ⟨rfl,rfl⟩)
    exact bodyPost_ret (by simp [results,Tryd.results32,go_sem]) rfl ⟨rfl,rfl⟩
set_option maxRecDepth 100000 in
theorem gonly_any (b:Bool) (n:Int) (w:World) (h0:0≤n) (h1:n<16):Calls Tryd.prog 25 #[.bool b,.int .i64 n] w fun e w'=>e= .returned (.int .u16 (onlyP b n))∧w'=w:=by
  cases b
  · go_enter Tryd.func25,Tryd.ntmps25
    go_wp2
    exact bodyPost_ret (v:= .int .u16 0) (by simp [results,Tryd.results25,go_sem]) rfl ⟨rfl,rfl⟩
  · have e:(2:Int)^n.toNat%65536=2^n.toNat:=by
      have a1:=pow_nat n.toNat
      have a2:2^n.toNat<2^16:=Nat.pow_lt_pow_right (by decide) (by omega)
      have h3:(2:Nat)^16=65536:=by decide
      rw [←a1]
      generalize 2^n.toNat=q at *
      omega
    have hm:min n.toNat 16=n.toNat:=by omega
    have eo:onlyP true n=2^n.toNat:=rfl
    rw [eo]
    clear eo
    go_enter Tryd.func25,Tryd.ntmps25
    go_wp2
    exact bodyPost_ret (v:= .int .u16 (2^n.toNat)) (by simp [results,Tryd.results25,go_sem]) rfl ⟨rfl,rfl⟩
end Go.Proofs.YtkmgmmmpiallhaaDoor
