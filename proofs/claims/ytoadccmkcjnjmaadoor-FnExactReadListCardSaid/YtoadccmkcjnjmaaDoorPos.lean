/- Numbers greater than nothing, and bounds of integers. No statement is proved here. -/
import Derived.Test.YtoadccmkcjnjmaaDoorRot
namespace Go.Proofs.YtoadccmkcjnjmaaDoor
open Go Go.RowKit
theorem s_l00In (x lo hi : Int) (w : World) :
    Calls Tryd.prog 65 #[.int .i64 x, .int .i64 lo, .int .i64 hi] w fun e w' => e = .returned (.bool (decide (lo ≤ x) && decide (x ≤ hi))) ∧ w' = w := by
  cases h : decide (lo ≤ x)
  all_goals
    go_enter Tryd.func65, Tryd.ntmps65
    go_wp2
    go_ret
    exact ⟨by simp_all, rfl⟩
end Go.Proofs.YtoadccmkcjnjmaaDoor
