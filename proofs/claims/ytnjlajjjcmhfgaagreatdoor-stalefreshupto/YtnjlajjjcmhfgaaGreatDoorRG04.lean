import Derived.Test.YtnjlajjjcmhfgaaGreatDoorRG03
import Derived.Test.YtnjlajjjcmhfgaaGreatDoorRA29
import Derived.Test.YtnjlajjjcmhfgaaGreatDoorRS00
namespace Go.Proofs.YtnjlajjjcmhfgaaGreatDoor
open Go.RowKit Go.ChangeShapes Go.WideShapes Go.ChangeAt
set_option linter.unusedVariables false
set_option linter.unusedSimpArgs false
theorem law_fresh (W:World) (hT:TS W) (hD:TSd W) (f:Int) (vp vw vc:Value) (pas ws:List Int) (cs:List Ctx) (hs:Scn W vp vw vc pas ws cs) (vs:Value) (ops:List Oq) (hv:Sli encQ 9 W vs ops) (ho:∀o∈ops,o.Ok) (asid:Int) (ha: -9223372036854775808≤asid∧asid≤9223372036854775807) (hbk:pas.length+11*ops.length≤1048576) :
    Calls Tryz.prog 7 #[.agg #[.int .i64 f,vp,vw,vc],vs,.int .i64 asid] W fun e w'=>e= .returned (.bool true)∧Below W.heap.size W w':=by
  refine fresh_head W hT hD f vp vw vc pas ws cs hs vs ops hv ho asid ha hbk (hidW ?_)
  intros
  rename_i h1 h2 h3 h4 h5 h6 h7
  exact fresh_tail W _ _ _ f asid _ _ _ _ _ _ _ _ _ _ _ _ _ _ _ _ _ _ _ _ _ _ _ ha h1 h2 h3 h4 h5 h6 h7
end Go.Proofs.YtnjlajjjcmhfgaaGreatDoor
