/- The law FnExactJournalOf. No statement is proved here. -/
import Derived.Test.YtknabmknboffgaaDoorJoI
import Derived.Test.YtknabmknboffgaaDoorJoD
namespace Go.Proofs.YtknabmknboffgaaDoor
open Go Go.RowKit
set_option maxHeartbeats 4000000 in
theorem law_FnExactJournalOf (A : Option Addr) (cap : Nat) (xs : List ByteArray) (w : World) (h : FlS w A xs) (hl : xs.length ≤ maxLen) (hm : ∀ x ∈ xs, x.size ≤ maxLen) (hT : T10 w) :
    Calls Tryd.prog 3 #[.slice A xs.length cap] w fun e w' => e = .returned (.bool true) ∧ Below w.heap.size w w' := by
  by_cases hs : szT xs ≤ 1048576
  · have hn : xs.length ≤ 1048576 := by unfold szT at hs; omega
    have hge : ¬ ((1048576 : Int) - (szT xs : Int) < 0) := by omega
    have HS := Lib.hid hs
    have HN := Lib.hid hn
    have HF := Lib.hid h
    have HT := Lib.hid hT
    clear h hl hm hT hs hn
    go_enter Tryd.func3, Tryd.ntmps3
    go_wp2_with fail
    refine (l_szS_yes A cap xs _ HF.out HS.out).mono ?_
    rintro e w0 ⟨rfl, hw⟩
    obtain rfl : w = w0 := hw.symm
    go_wp2_with fail
    refine (l_toS A cap xs _ HF.out HN.out).mono ?_
    rintro e w1 ⟨rfl, hf1, b1⟩
    have F1 := Lib.hid hf1
    have B1 := Lib.hid b1
    clear hf1 b1
    go_wp2_with fail
    refine (s_JournalOf _ xs.length xs _ F1.out HS.out).mono ?_
    rintro e w2 ⟨rfl, b2⟩
    have B2 := Lib.hid (below_of B1.out B1.out.size b2)
    clear b2 F1 B1
    go_wp2_with fail
    refine (l_toS A cap xs _ (HF.out.below B2.out) HN.out).mono ?_
    rintro e w3 ⟨rfl, hf3, b3⟩
    have F3 := Lib.hid hf3
    have B3 := Lib.hid (below_of B2.out B2.out.size b3)
    clear hf3 b3 B2
    go_wp2_with fail
    refine (i_JournalOf _ xs.length xs _ F3.out HS.out (HT.out.below B3.out)).mono ?_
    rintro e w4 ⟨rfl, b4⟩
    have F4 := Lib.hid (F3.out.below b4)
    have B4 := Lib.hid (below_of B3.out B3.out.size b4)
    clear b4 F3 B3
    have hxx : ((jS xs).toList == (jS xs).toList) = true := by simp
    have hbb : (jO xs == jO xs) = true := by simp
    generalize jS xs = js at hxx ⊢
    generalize jO xs = jo at hbb ⊢
    go_wp2_with fail
    refine (l_toS A cap xs _ (HF.out.below B4.out) HN.out).mono ?_
    rintro e w5 ⟨rfl, hf5, b5⟩
    have F5 := Lib.hid hf5
    have F6 := Lib.hid (F4.out.below b5)
    have B5 := Lib.hid (below_of B4.out B4.out.size b5)
    clear hf5 b5 F4 B4
    go_wp2_with fail
    refine (l_eqS _ _ xs.length xs.length xs _ F6.out F5.out HN.out).mono ?_
    rintro e w6 ⟨n, rfl, hw⟩
    have B6 : Hid (Below w.heap.size w w6) := Lib.hid (by rw [hw]; exact below_draws B5.out n)
    clear hw
    go_wp2
    go_ret
    exact ⟨rfl, B6.out⟩
  · have HL := Lib.hid hl
    have HM : Hid (∀ k, k < xs.length → (lnK xs k).size ≤ maxLen) := Lib.hid (fun k hk => by
      unfold lnK
      rw [List.getD_eq_getElem?_getD, List.getElem?_eq_getElem hk]
      exact hm _ (List.getElem_mem hk))
    have HF := Lib.hid h
    clear h hl hm hT
    go_enter Tryd.func3, Tryd.ntmps3
    go_wp2_with fail
    refine (l_szS_no A cap xs _ HF.out HL.out HM.out (by omega)).mono ?_
    rintro e w0 ⟨rfl, hw⟩
    obtain rfl : w = w0 := hw.symm
    go_wp2
    go_ret
    exact ⟨rfl, Below.refl _ _⟩
end Go.Proofs.YtknabmknboffgaaDoor
