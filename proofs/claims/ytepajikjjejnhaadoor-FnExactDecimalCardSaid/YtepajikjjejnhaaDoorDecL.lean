/- The law FnExactDecimal. No statement is proved here. -/
import Derived.Test.YtepajikjjejnhaaDoorDec
namespace Go.Proofs.YtepajikjjejnhaaDoor
open Go Go.RowKit
theorem s_Decimal (n : Int) (w : World) (h0 : -9223372036854775808 ≤ n) (h1 : n ≤ 9223372036854775807) :
    Calls Tryd.prog 9 #[.int .i64 n] w fun e w' => e = .returned (.string (decS n)) ∧ Below w.heap.size w w' := by
  go_enter Tryd.func9, Tryd.ntmps9
  go_wp2_with fail
  refine (s_l01Dec n w h0 h1).mono ?_
  rintro e w' ⟨rfl, hb⟩
  go_wp2
  go_ret
  exact ⟨rfl, hb⟩
theorem law_FnExactDecimal (a0 : Int) (w : World) (w0 : (Lit.int .i64 a0).wf = true) (hT : T10 w) :
    Calls Tryd.prog 3 #[.int .i64 a0] w fun e w' => e = .returned (.bool true) ∧ Below w.heap.size w w' := by
  obtain ⟨h0, h1⟩ := wf_i64 w0
  have HT := Lib.hid hT
  clear hT w0
  go_enter Tryd.func3, Tryd.ntmps3
  go_wp2_with fail
  refine (s_Decimal a0 w h0 h1).mono ?_
  rintro e w1 ⟨rfl, hb⟩
  have HB1 := Lib.hid hb
  clear hb
  go_wp2_with fail
  refine (i_Decimal a0 w1 h0 h1 (HT.out.below HB1.out)).mono ?_
  rintro e w2 ⟨rfl, hb⟩
  have HB2 : Hid (Below w.heap.size w w2) := Lib.hid (below_of HB1.out HB1.out.size hb)
  clear hb
  go_wp2
  go_ret
  exact ⟨rfl, HB2.out⟩
end Go.Proofs.YtepajikjjejnhaaDoor
