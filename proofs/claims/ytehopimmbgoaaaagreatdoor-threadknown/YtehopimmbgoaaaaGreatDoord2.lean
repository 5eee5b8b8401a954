/- A part of the run of the row: states, facts that the kernel runs, or their chain. -/
import Derived.Test.YtehopimmbgoaaaaGreatDoord1
set_option linter.unusedSimpArgs false
set_option maxRecDepth 1000000
set_option maxHeartbeats 0
set_option linter.unusedVariables false
namespace Mw
open Go Mv Go.Proofs
noncomputable def h400 : Hp := mkH [(rl 35138 [(vI 0), (vI 1)] 3), (rl 36243 [(vI 0)] 3), (cl 36577 [(vI 4), (vI 6), (vI 8), (vI 8)] 29), (cl 36578 [(vI 1), (vI 2)] 3), (cl 36579 [(vI 8), (vI 12), (vI 16)] 3), (cl 36580 (uC [3, 4, 4, 4, 3, 5]) 29), (cl 36581 [(vI 0), (vI 2), (vI 1)] 34)] g0
noncomputable def s401 : SS := mkS [(0, vF), (6, (vI 11)), (8, (vI 0)), (10, (vI 0)), (11, (vI 1)), (12, (vI 11)), (13, (vI 9)), (14, (vI 11)), (16, (vI 0)), (20, (vR 35138 2 1)), (21, (vR 36243 1 1)), (437, (.agg [(vL 36577 2 2), (vL 36578 2 2), (vL 36579 3 3), (vL 36580 3 3), (vL 36581 1 1)]))] h400
noncomputable def h406 : Hp := mkH [(rl 35138 [(vI 0), (vI 1)] 3), (rl 36243 [(vI 0)] 3), (cl 38248 [(vI 4), (vI 6), (vI 8), (vI 8)] 29), (cl 38249 [(vI 1), (vI 2)] 3), (cl 38250 [(vI 8), (vI 12), (vI 16)] 3), (cl 38251 (uC [3, 4, 4, 4, 3, 5]) 29), (cl 38252 [(vI 0), (vI 2), (vI 1)] 34)] g0
noncomputable def s407 : SS := mkS [(0, vF), (6, (vI 11)), (8, (vI 0)), (10, (vI 0)), (11, (vI 1)), (12, (vI 11)), (13, (vI 9)), (14, (vI 0)), (16, (vI 0)), (20, (vR 35138 2 1)), (21, (vR 36243 1 1)), (443, (.agg [(vL 38248 2 2), (vL 38249 2 2), (vL 38250 3 3), (vL 38251 3 3), (vL 38252 1 1)])), (444, (.agg [(vI 1), (vI 0), (vI 2)]))] h406
noncomputable def h415 : Hp := mkH [] g0
end Mw
