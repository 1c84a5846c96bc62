import Derived.Test.YtfgfjodajjfbaaaDoorEa
namespace Go.Proofs.YtfgfjodajjfbaaaDoor
open Go.RowKit
set_option linter.unusedVariables false
open Extern.ReflectliteValue in
set_option maxRecDepth 100000 in
theorem parts_p (a : Addr) (w : World) : (parts (.agg #[.pointer (some ⟨9, 70, none⟩), .pointer (some a), .int .u64 150])).run Tryd.prog w = .ok (some (70, a, 150)) w := by kernel_rfl
open Extern.ReflectliteValue in
set_option maxRecDepth 100000 in
theorem parts_w (a : Addr) (w : World) : (parts (.agg #[.pointer (some ⟨9, 51, none⟩), .pointer (some a), .int .u64 153])).run Tryd.prog w = .ok (some (51, a, 153)) w := by kernel_rfl
open Extern.ReflectliteValue in
set_option maxRecDepth 100000 in
theorem parts_f (a : Addr) (w : World) : (parts (.agg #[.pointer (some ⟨9, 51, none⟩), .pointer (some a), .int .u64 409])).run Tryd.prog w = .ok (some (51, a, 409)) w := by kernel_rfl
open Extern.ReflectliteValue in
set_option maxRecDepth 100000 in
theorem mk_f (a : Addr) (w : World) : (Extern.ReflectliteValue.mk 51 a flagAddr).run Tryd.prog w = .ok (.agg #[.pointer (some ⟨9, 51, none⟩), .pointer (some a), .int .u64 409]) w := by kernel_rfl
set_option maxRecDepth 100000 in
theorem el_p (w : World) : (Extern.Rtype.elem? 70).run Tryd.prog w = .ok (some 51) w := by kernel_rfl
set_option maxRecDepth 100000 in
theorem da_w (w : World) : (Extern.Rtype.directlyAssignable 51 51).run Tryd.prog w = .ok true w := by kernel_rfl
theorem run_method {P : Program} {Z : Sem Value} {F : TypeId → Addr → Nat → Nat → Sem Value} {v : Value} {w : World} {t : TypeId} {a : Addr} {fl : Nat} (h : (Extern.ReflectliteValue.parts v).run P w = .ok (some (t, a, fl)) w) : (Extern.ReflectliteValue.method Z F #[v]).run P w = (F t a fl (fl % 32)).run P w := by
  show (Extern.ReflectliteValue.parts v >>= _).run P w = _
  rw [Sem.run_bind, h]
  rfl
set_option maxRecDepth 100000 in
theorem isNil_p (b f : Nat) (w : World) (h : w.cell? ⟨b, 0, none⟩ = some (.pointer (some ⟨f, 0, none⟩))) : (callFunc 38 #[.agg #[.pointer (some ⟨9, 70, none⟩), .pointer (some ⟨b, 0, none⟩), .int .u64 150]]).run Tryd.prog w = .ok (.value (.bool false)) w := by
  rw [run_callFunc_extern Tryd.func38 (by kernel_rfl) (by kernel_rfl) (by kernel_rfl) (e := Extern.ReflectliteValue.method (Extern.ReflectliteValue.valueError "reflectlite.Value.IsNil" 0) Extern.ReflectliteValue.isNil) (by kernel_rfl), run_method (parts_p _ _)]
  have hl : (loadVar 70 ⟨b, 0, none⟩).run Tryd.prog w = .ok (.pointer (some ⟨f, 0, none⟩)) w := by simp [go_sem, h]
  have e : (Extern.ReflectliteValue.isNil 70 ⟨b, 0, none⟩ 150 22).run Tryd.prog w = .ok (.bool false) w := by
    show ((loadVar 70 ⟨b, 0, none⟩) >>= _).run Tryd.prog w = _
    rw [Sem.run_bind, hl]
    rfl
  rw [show 150 % 32 = 22 from rfl, e]
  rfl
set_option maxRecDepth 100000 in
theorem elemV_p (b f : Nat) (w : World) (h : w.cell? ⟨b, 0, none⟩ = some (.pointer (some ⟨f, 0, none⟩))) : (callFunc 56 #[.agg #[.pointer (some ⟨9, 70, none⟩), .pointer (some ⟨b, 0, none⟩), .int .u64 150]]).run Tryd.prog w = .ok (.value (.agg #[.pointer (some ⟨9, 51, none⟩), .pointer (some ⟨f, 0, none⟩), .int .u64 409])) w := by
  rw [run_callFunc_extern Tryd.func56 (by kernel_rfl) (by kernel_rfl) (by kernel_rfl) (e := Extern.ReflectliteValue.method (Extern.ReflectliteValue.valueError "reflectlite.Value.Elem" 0) Extern.ReflectliteValue.elem) (by kernel_rfl), run_method (parts_p _ _)]
  have hl : (loadVar 70 ⟨b, 0, none⟩).run Tryd.prog w = .ok (.pointer (some ⟨f, 0, none⟩)) w := by simp [go_sem, h]
  have e : (Extern.ReflectliteValue.elem 70 ⟨b, 0, none⟩ 150 22).run Tryd.prog w = (Extern.ReflectliteValue.mk 51 ⟨f, 0, none⟩ Extern.ReflectliteValue.flagAddr).run Tryd.prog w := by
    show ((loadVar 70 ⟨b, 0, none⟩) >>= _).run Tryd.prog w = _
    rw [Sem.run_bind, hl]
    show ((Extern.Rtype.elem? 70) >>= _).run Tryd.prog w = _
    rw [Sem.run_bind, el_p]
    rfl
  rw [show 150 % 32 = 22 from rfl, e, mk_f]
  rfl
set_option maxRecDepth 100000 in
theorem set_w (b f : Nat) (x y : Int) (w : World) (h0 : w.cell? ⟨b, 0, none⟩ = some (.int .i64 x)) (h1 : w.cell? ⟨b, 1, none⟩ = some (.int .i64 y)) (hf : Bl w f 51 [.int .i64 (-1), .int .i64 (-1)]) : (callFunc 57 #[.agg #[.pointer (some ⟨9, 51, none⟩), .pointer (some ⟨f, 0, none⟩), .int .u64 409], .agg #[.pointer (some ⟨9, 51, none⟩), .pointer (some ⟨b, 0, none⟩), .int .u64 153]]).run Tryd.prog w = .ok (.value (.tuple #[])) ((w.setCell ⟨f, 0, none⟩ (.int .i64 x)).setCell ⟨f, 1, none⟩ (.int .i64 y)) := by
  have q0 := hf.cell 0
  have q1 := hf.cell 1
  have g0 := hf.frozen 0
  have g1 := hf.frozen 1
  simp only [List.getElem?_cons_zero, List.getElem?_cons_succ] at q0 q1
  rw [run_callFunc_extern Tryd.func57 (by kernel_rfl) (by kernel_rfl) (by kernel_rfl) (e := Extern.ReflectliteValue.set) (by kernel_rfl)]
  have hl : (loadVar 51 ⟨b, 0, none⟩).run Tryd.prog w = .ok (.agg #[.int .i64 x, .int .i64 y]) w := by simp [go_sem, h0, h1]
  have hs : (storeVar 51 ⟨f, 0, none⟩ (.agg #[.int .i64 x, .int .i64 y])).run Tryd.prog w = .ok () ((w.setCell ⟨f, 0, none⟩ (.int .i64 x)).setCell ⟨f, 1, none⟩ (.int .i64 y)) := by simp [go_sem, q0, q1, g0, g1]
  have e : (Extern.ReflectliteValue.set #[.agg #[.pointer (some ⟨9, 51, none⟩), .pointer (some ⟨f, 0, none⟩), .int .u64 409], .agg #[.pointer (some ⟨9, 51, none⟩), .pointer (some ⟨b, 0, none⟩), .int .u64 153]]).run Tryd.prog w = .ok (.tuple #[]) ((w.setCell ⟨f, 0, none⟩ (.int .i64 x)).setCell ⟨f, 1, none⟩ (.int .i64 y)) := by
    show (Extern.ReflectliteValue.parts (.agg #[.pointer (some ⟨9, 51, none⟩), .pointer (some ⟨f, 0, none⟩), .int .u64 409]) >>= _).run Tryd.prog w = _
    rw [Sem.run_bind, parts_f, Result.andThen_ok]
    show (Extern.ReflectliteValue.parts (.agg #[.pointer (some ⟨9, 51, none⟩), .pointer (some ⟨b, 0, none⟩), .int .u64 153]) >>= _).run Tryd.prog w = _
    rw [Sem.run_bind, parts_w, Result.andThen_ok]
    show ((loadVar 51 ⟨b, 0, none⟩) >>= _).run Tryd.prog w = _
    rw [Sem.run_bind, hl, Result.andThen_ok]
    show ((Extern.Rtype.directlyAssignable 51 51) >>= _).run Tryd.prog w = _
    rw [Sem.run_bind, da_w, Result.andThen_ok]
    show ((storeVar 51 ⟨f, 0, none⟩ (.agg #[.int .i64 x, .int .i64 y])) >>= _).run Tryd.prog w = _
    rw [Sem.run_bind, hs]
    rfl
  rw [e]
  rfl
end Go.Proofs.YtfgfjodajjfbaaaDoor
