/- The law FnExactEqualRange. No statement is proved here. -/
import Derived.Test.YtpchkedgjikpfabEqr
namespace Go.Proofs.Ytpchkedgjikpfab
open Go Go.RowKit
set_option maxHeartbeats 8000000 in
theorem law_FnExactEqualRange (A : Option Addr) (cap : Nat) (xs : List (Nat × Nat × Bool)) (u0 : Nat) (u1 : Int) (w : World) (h : FlC w A xs) (hm : xs.length ≤ 9223372036854775807) (_hv : ∀ k, k < xs.length → loN xs k < words .f32 ∧ hiN xs k < words .f32) (_hu0 : u0 < words .f32) (hu1 : (Lit.int .i64 u1).wf = true) :
    Calls Try.prog 8 #[.slice A xs.length cap, .float .f32 u0, .int .i64 u1] w fun e w' => e = .returned (.bool true) ∧ Below w.heap.size w w' := by
  have H := Lib.hid h; clear h
  have HU1 := Lib.hid hu1; clear hu1
  by_cases hn : xs.length ≤ 1048576
  · have hq : (0 : Int) ≤ 1048576 - (xs.length : Int) := by omega
    go_enter Try.func8, Try.ntmps8
    go_wp2_with fail
    refine (l_szCycleS_yes A _ cap _ _ (by omega) (by omega)).mono ?_
    rintro e w ⟨rfl, rfl⟩
    go_wp2_with fail
    clear hq
    refine (l_toCycleL A cap xs _ H.out hn).mono ?_
    rintro e w1 ⟨A1, cap1, rfl, h1, b1⟩
    have B1 := Lib.hid b1
    have F1 := Lib.hid h1
    clear b1 h1
    go_wp2_with fail
    refine (s_EqualRange A1 cap1 xs u0 u1 _ F1.out hn).mono ?_
    rintro e w2 ⟨cr0, rfl, ch0, cb⟩
    have B2 : Hid (Below w.heap.size w w2) := Lib.hid (below_of B1.out B1.out.size cb)
    clear cb
    have C0 := Lib.hid ch0; clear ch0
    go_wp2_with fail
    refine (l_toCycleL A cap xs _ (H.out.below B2.out) hn).mono ?_
    rintro e w3 ⟨A3, cap3, rfl, h3, b3⟩
    have B3 : Hid (Below w.heap.size w w3) := Lib.hid (below_of B2.out B2.out.size b3)
    have F3 := Lib.hid h3
    clear b3 h3
    go_wp2_with fail
    refine (i_EqualRange A3 cap3 xs u0 u1 _ F3.out hn).mono ?_
    rintro e w4 ⟨gr0, rfl, gh0, gb⟩
    have B4 : Hid (Below w.heap.size w w4) := Lib.hid (below_of B3.out B3.out.size gb)
    have F4 := Lib.hid (F3.out.below gb)
    clear gb
    have G0 := Lib.hid gh0; clear gh0
    go_wp2_with fail
    refine (sameFloat_yes _ _ _ (by rw [canon_wideV, canon_wideV, C0.out, G0.out])).mono ?_
    rintro e wq0 ⟨nq0, rfl, rfl⟩
    have D4 : ∀ n, Hid (Below w.heap.size w (w4.drewN n)) := fun _ => Lib.hid (below_draws B4.out _)
    go_wp2_with fail
    refine (l_toCycleL A cap xs _ (H.out.below (by first | exact B4.out | exact (D4 _).out)) hn).mono ?_
    rintro e w6 ⟨A6, cap6, rfl, h6, b6⟩
    have F6 : Hid (FlC w6 A3 xs) := Lib.hid (FlC.below (w := _) (by first | exact F4.out | exact (F4.out).draws _) b6)
    have B6 : Hid (Below w.heap.size w w6) := Lib.hid (by first | exact below_of (D4 _).out (D4 _).out.size b6 | exact below_of B4.out B4.out.size b6)
    have H6 := Lib.hid h6
    clear b6 h6
    go_wp2_with fail
    refine (l_eqCycleS A3 A6 cap3 cap6 xs _ F6.out H6.out hn).mono ?_
    rintro e w7 ⟨rfl, b7⟩
    have B7 : Hid (Below w.heap.size w w7) := Lib.hid (below_of B6.out B6.out.size b7)
    clear b7
    go_wp2
    go_ret
    exact ⟨rfl, B7.out⟩
  · go_enter Try.func8, Try.ntmps8
    go_wp2_with fail
    refine (l_szCycleS_no A _ cap _ _ (by omega) (by omega) (by omega) hm).mono ?_
    rintro e w ⟨rfl, rfl⟩
    go_wp2
    go_ret
    exact ⟨rfl, Below.refl _ _⟩
end Go.Proofs.Ytpchkedgjikpfab
