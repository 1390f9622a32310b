/- A carton's box. -/
import Derived.Test.YtcblpoeeembniabGreatDoorPkK
import Derived.Test.YtcblpoeeembniabGreatDoorPkA
namespace Go.Proofs.YtcblpoeeembniabGreatDoor
open Go Go.RowKit
def boxR (r : ReqV) (x : CarV) : BoxV := if classI r = 0 ∧ byIdB r x.ty = true then ⟨(byIdV r x.ty).wd, (byIdV r x.ty).dp, (byIdV r x.ty).ht, grossR r x⟩ else ⟨0, 0, 0, 0⟩
theorem ret_box {p q : BoxV} (h : p = q) : Ending.returned (.agg #[.int .i64 p.wd, .int .i64 p.dp, .int .i64 p.ht, .int .i64 p.gram]) = .returned (.agg #[.int .i64 q.wd, .int .i64 q.dp, .int .i64 q.ht, .int .i64 q.gram]) := by rw [h]
end Go.Proofs.YtcblpoeeembniabGreatDoor
