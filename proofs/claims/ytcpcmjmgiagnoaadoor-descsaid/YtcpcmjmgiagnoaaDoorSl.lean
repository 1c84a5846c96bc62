import Derived.Test.YtcpcmjmgiagnoaaDoorS00
import Derived.Test.YtcpcmjmgiagnoaaDoorS01
import Derived.Test.YtcpcmjmgiagnoaaDoorS10
import Derived.Test.YtcpcmjmgiagnoaaDoorS11
namespace Go.Proofs.YtcpcmjmgiagnoaaDoor
open Go.RowKit
set_option linter.unusedVariables false
theorem law_said (e : Ent) (w : World) (ht : TE w) (hO : Ok e) : Calls Tryd.prog 7 #[.agg #[.int .i64 e.kind, .int .u64 e.base, .int .i64 e.dom, .bool e.ns, .int .i64 e.ap, .int .u32 e.bits, .bool e.ng, .bool e.xn]] w fun r w' => r = .returned (.bool true) ∧ Below w.heap.size w w' := by
  have HE1 : ∀ ww, TE ww → Calls Tryd.prog 24 #[.agg #[.int .i64 e.kind, .int .u64 e.base, .int .i64 e.dom, .bool e.ns, .int .i64 e.ap, .int .u32 e.bits, .bool e.ng, .bool e.xn]] ww fun r w' => r = .returned (if (D1 (E e)).same e then .tuple #[.int .u32 (E e), .int .i64 0] else .tuple #[.int .u32 0, .int .i64 50]) ∧ Below ww.heap.size ww w' := fun ww hh => Encode1_any e ww hh hO
  have HE2 : ∀ ww, TE ww → Calls Tryd.prog 25 #[.agg #[.int .i64 e.kind, .int .u64 e.base, .int .i64 e.dom, .bool e.ns, .int .i64 e.ap, .int .u32 e.bits, .bool e.ng, .bool e.xn]] ww fun r w' => r = .returned (if (D2 (E e)).same e then .tuple #[.int .u32 (E e), .int .i64 0] else .tuple #[.int .u32 0, .int .i64 50]) ∧ Below ww.heap.size ww w' := fun ww hh => Encode2_any e ww hh hO
  have HD1 : ∀ ww, TE ww → Calls Tryd.prog 13 #[.int .u32 (E e)] ww fun r w' => r = .returned (.agg #[.int .i64 (D1 (E e)).kind, .int .u64 (D1 (E e)).base, .int .i64 (D1 (E e)).dom, .bool (D1 (E e)).ns, .int .i64 (D1 (E e)).ap, .int .u32 (D1 (E e)).bits, .bool (D1 (E e)).ng, .bool (D1 (E e)).xn]) ∧ Below ww.heap.size ww w' := fun ww hh => Decode1_any (E e) ww hh.toTD (E_rng e hO)
  have HD2 : ∀ ww, TE ww → Calls Tryd.prog 15 #[.int .u32 (E e)] ww fun r w' => r = .returned (.agg #[.int .i64 (D2 (E e)).kind, .int .u64 (D2 (E e)).base, .int .i64 (D2 (E e)).dom, .bool (D2 (E e)).ns, .int .i64 (D2 (E e)).ap, .int .u32 (D2 (E e)).bits, .bool (D2 (E e)).ng, .bool (D2 (E e)).xn]) ∧ Below ww.heap.size ww w' := fun ww hh => Decode2_any (E e) ww hh.toTD (E_rng e hO)
  have q1 := eqE (D1 (E e)) e
  have q2 := eqE (D2 (E e)) e
  cases h1 : (D1 (E e)).same e <;> cases h2 : (D2 (E e)).same e <;> rw [h1] at q1 HE1 <;> rw [h2] at q2 HE2
  · exact said_00 _ _ _ _ _ _ _ _ (D1 (E e)) (D2 (E e)) (E e) w ht q1 q2 HE1 HE2 HD1 HD2
  · exact said_01 _ _ _ _ _ _ _ _ (D1 (E e)) (D2 (E e)) (E e) w ht q1 q2 HE1 HE2 HD1 HD2
  · exact said_10 _ _ _ _ _ _ _ _ (D1 (E e)) (D2 (E e)) (E e) w ht q1 q2 HE1 HE2 HD1 HD2
  · exact said_11 _ _ _ _ _ _ _ _ (D1 (E e)) (D2 (E e)) (E e) w ht q1 q2 HE1 HE2 HD1 HD2
end Go.Proofs.YtcpcmjmgiagnoaaDoor
