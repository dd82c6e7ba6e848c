/- The law FnExactMeanLoad. No statement is proved here. -/
import Derived.Test.YtpchkedgjikpfaaLoad
namespace Go.Proofs.Ytpchkedgjikpfaa
open Go Go.RowKit
set_option maxHeartbeats 8000000 in
theorem law_FnExactMeanLoad (A : Option Addr) (cap : Nat) (xs : List Nat)  (w : World) (h : Fl w A xs) (hm : xs.length ≤ 9223372036854775807)  :
    Calls Try.prog 8 #[.slice A xs.length cap] w fun e w' => e = .returned (.bool true) ∧ Below w.heap.size w w' := by
  have H := Lib.hid h; clear h
  by_cases hn : xs.length ≤ 1048576
  · clear hm
    go_enter Try.func8, Try.ntmps8
    go_wp2_with fail
    refine (l_toF32 A cap xs _ H.out hn).mono ?_
    rintro e w1 ⟨A1, cap1, rfl, h1, b1⟩
    have B1 := Lib.hid b1
    have F1 := Lib.hid h1
    clear b1 h1
    go_wp2_with fail
    refine (s_MeanLoad A1 cap1 xs  _ F1.out hn).mono ?_
    rintro e w2 ⟨cr0, cn, rfl, ch0, rfl⟩
    have B2 : ∀ n, Hid (Below w.heap.size w (w1.drewN n)) := fun _ => Lib.hid (below_draws B1.out _)
    have C0 := Lib.hid ch0; clear ch0
    go_wp2_with fail
    refine (l_toF32 A cap xs _ (H.out.below (B2 _).out) hn).mono ?_
    rintro e w3 ⟨A3, cap3, rfl, h3, b3⟩
    have B3 : Hid (Below w.heap.size w w3) := Lib.hid (below_of (B2 _).out (B2 _).out.size b3)
    have F3 := Lib.hid h3
    clear b3 h3
    go_wp2_with fail
    refine (i_MeanLoad A3 cap3 xs  _ F3.out hn).mono ?_
    rintro e w4 ⟨gr0, gn, rfl, gh0, rfl⟩
    have G0 := Lib.hid gh0; clear gh0
    go_wp2_with fail
    refine (sameFloat_yes _ _ _ (by rw [canon_wideV, canon_wideV, C0.out, G0.out])).mono ?_
    rintro e wq0 ⟨nq0, rfl, rfl⟩
    have D4 : ∀ n, Hid (Below w.heap.size w (w3.drewN n)) := fun _ => Lib.hid (below_draws B3.out _)
    go_wp2_with fail
    refine (l_toF32 A cap xs _ (H.out.below (by first | exact B3.out | exact (D4 _).out)) hn).mono ?_
    rintro e w6 ⟨A6, cap6, rfl, h6, b6⟩
    have F6 : Hid (Fl w6 A3 xs) := Lib.hid (Fl.below (w := _) (by first | exact F3.out | exact (F3.out).draws _) b6)
    have B6 : Hid (Below w.heap.size w w6) := Lib.hid (by first | exact below_of (D4 _).out (D4 _).out.size b6 | exact below_of B3.out B3.out.size b6)
    have H6 := Lib.hid h6
    clear b6 h6
    go_wp2_with fail
    refine (l_eqF32 A3 A6 cap3 cap6 xs _ F6.out H6.out hn).mono ?_
    rintro e w' ⟨m2, rfl, rfl⟩
    go_wp2
    go_ret
    exact ⟨rfl, below_draws B6.out _⟩
  · go_enter Try.func8, Try.ntmps8
    go_wp2
    go_ret
    exact ⟨rfl, Below.refl _ _⟩
end Go.Proofs.Ytpchkedgjikpfaa
