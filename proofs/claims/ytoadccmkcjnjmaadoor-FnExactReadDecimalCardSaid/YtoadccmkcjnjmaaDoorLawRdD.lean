/- The law FnExactReadDecimal. No statement is proved here. -/
import Derived.Test.YtoadccmkcjnjmaaDoorVal1
namespace Go.Proofs.YtoadccmkcjnjmaaDoor
open Go Go.RowKit
theorem law_FnExactReadDecimal (s0 : ByteArray) (w : World) (_hz0 : s0.size ≤ maxLen) (he : EV w) (ht : T10 w) :
    Calls Tryd.prog 3 #[.string s0] w fun e w' => e = .returned (.bool true) ∧ Below w.heap.size w w' := by
  by_cases hb : s0.size ≤ 1048576
  · have HZ := Lib.hid hb
    have hbi : ¬ (1048576 : Int) < (s0.size : Int) := by omega
    have HE := Lib.hid he
    have HT := Lib.hid ht
    have HS := Lib.hid (s_ReadDecimal s0 w)
    clear hb he ht
    go_enter Tryd.func3, Tryd.ntmps3
    go_wp2_with fail
    refine HS.out.mono ?_
    rintro e w1 ⟨rfl, hb⟩
    have HB1 := Lib.hid hb
    clear hb
    go_wp2_with fail
    refine (i_ReadDecimal s0 w1 HZ.out (HT.out.below HB1.out) (HE.out.below HB1.out)).mono ?_
    rintro e w2 ⟨rfl, hb⟩
    have HB2 : Hid (Below w.heap.size w w2) := Lib.hid (below_of HB1.out HB1.out.size hb)
    clear hb
    generalize vlR s0 = r
    generalize vlO s0 = b
    cases b
    · go_wp2
      go_ret
      exact ⟨rfl, HB2.out⟩
    · go_wp2
      go_ret
      exact ⟨rfl, HB2.out⟩
  · have hbi : (1048576 : Int) < (s0.size : Int) := by omega
    go_enter Tryd.func3, Tryd.ntmps3
    go_wp2
    go_ret
    exact ⟨rfl, Below.refl _ _⟩
end Go.Proofs.YtoadccmkcjnjmaaDoor
