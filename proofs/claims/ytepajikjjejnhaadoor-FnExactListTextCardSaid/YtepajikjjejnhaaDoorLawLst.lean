/- The law FnExactListText. No statement is proved here. -/
import Derived.Test.YtepajikjjejnhaaDoorLst
import Derived.Test.YtepajikjjejnhaaDoorMarkI
import Derived.Test.YtepajikjjejnhaaDoorOpenI
namespace Go.Proofs.YtepajikjjejnhaaDoor
open Go Go.RowKit
set_option maxHeartbeats 16000000 in
set_option maxRecDepth 100000 in
theorem law_FnExactListText (A0 : Option Addr) (cap0 : Nat) (a0 : List Int) (w : World) (h0 : FlI w A0 a0) (ma0 : a0.length ≤ 9223372036854775807) (hv0 : ∀ k, k < a0.length → (Lit.int .i64 (a0.getD k 0)).wf = true) (hT : T10 w) :
    Calls Tryd.prog 5 #[.slice A0 a0.length cap0] w fun e w' => e = .returned (.bool true) ∧ Below w.heap.size w w' := by
  have HP0 := Lib.hid h0
  clear h0
  have HT := Lib.hid hT
  clear hT
  by_cases hn0 : a0.length ≤ 1048576
  · skip
    have HN0 : Hid (a0.length ≤ 1048576) := Lib.hid (by omega)
    go_enter Tryd.func5, Tryd.ntmps5
    go_wp2_with fail
    refine (l_toI64N A0 cap0 a0 _ (HP0.out) HN0.out).mono ?_
    rintro e wd1 ⟨rfl, ho, b⟩
    obtain ⟨p0, hp0⟩ : ∃ x, x = w.heap.size := ⟨_, rfl⟩
    rw [← hp0] at ho
    rw [← hp0]
    have B1 : Hid (Below w.heap.size w wd1) := Lib.hid b
    have Z1 : Hid (w.heap.size ≤ wd1.heap.size) := Lib.hid b.size
    have Xp0 : Hid (OwnOI wd1 w.heap.size (some ⟨p0, 0, none⟩) p0 a0) := Lib.hid (OwnI.o ho (by omega))
    have Xp0bd := Xp0
    clear ho b hp0
    go_wp2_with fail
    refine (s_ListText _ _ a0 _ Xp0.out.fl HN0.out).mono ?_
    rintro e wd2 ⟨rfl, b⟩
    have B2 : Hid (Below w.heap.size w wd2) := Lib.hid (below_of B1.out B1.out.size b)
    have Z2 : Hid (wd1.heap.size ≤ wd2.heap.size) := Lib.hid b.size
    have Xp0_1 : Hid (OwnOI wd2 w.heap.size (some ⟨p0, 0, none⟩) p0 a0) := Lib.hid (Xp0.out.below b)
    clear Xp0
    clear b
    go_wp2_with fail
    refine (l_toI64N A0 cap0 a0 _ (HP0.out.below B2.out) HN0.out).mono ?_
    rintro e wd3 ⟨rfl, ho, b⟩
    obtain ⟨x0, hx0⟩ : ∃ x, x = wd2.heap.size := ⟨_, rfl⟩
    rw [← hx0] at ho
    rw [← hx0]
    have B3 : Hid (Below w.heap.size w wd3) := Lib.hid (below_of B2.out B2.out.size b)
    have Z3 : Hid (wd2.heap.size ≤ wd3.heap.size) := Lib.hid b.size
    have Xx0 : Hid (OwnOI wd3 wd2.heap.size (some ⟨x0, 0, none⟩) x0 a0) := Lib.hid (OwnI.o ho (by omega))
    have Xx0bd := Xx0
    clear ho b hx0
    go_wp2_with fail
    refine (i_ListText _ _ a0 _ Xx0.out.fl (HT.out.below B3.out)).mono ?_
    rintro e wd4 ⟨rfl, b⟩
    have B4 : Hid (Below w.heap.size w wd4) := Lib.hid (below_of B3.out B3.out.size b)
    have Z4 : Hid (wd3.heap.size ≤ wd4.heap.size) := Lib.hid b.size
    have Xx0_1 : Hid (OwnOI wd4 wd2.heap.size (some ⟨x0, 0, none⟩) x0 a0) := Lib.hid (Xx0.out.below b)
    clear Xx0
    clear b
    go_wp2_with fail
    refine (l_toI64N A0 cap0 a0 _ (HP0.out.below B4.out) HN0.out).mono ?_
    rintro e wd5 ⟨rfl, ho, b⟩
    obtain ⟨y0, hy0⟩ : ∃ x, x = wd4.heap.size := ⟨_, rfl⟩
    rw [← hy0] at ho
    rw [← hy0]
    have B5 : Hid (Below w.heap.size w wd5) := Lib.hid (below_of B4.out B4.out.size b)
    have Z5 : Hid (wd4.heap.size ≤ wd5.heap.size) := Lib.hid b.size
    have Xx0_2 : Hid (OwnOI wd5 wd2.heap.size (some ⟨x0, 0, none⟩) x0 a0) := Lib.hid (Xx0_1.out.below b)
    clear Xx0_1
    have Xy0 : Hid (OwnOI wd5 wd4.heap.size (some ⟨y0, 0, none⟩) y0 a0) := Lib.hid (OwnI.o ho (by omega))
    have Xy0bd := Xy0
    clear ho b hy0
    go_wp2_with fail
    refine (l_eqI64 _ _ _ _ a0 _ Xx0_2.out.fl Xy0.out.fl HN0.out).mono ?_
    rintro e wd6 ⟨nq, rfl, hw⟩
    have b : Below wd5.heap.size wd5 wd6 := by rw [hw]; repeat (first | exact Below.refl _ _ | refine below_draws ?_ _)
    clear hw
    have B6 : Hid (Below w.heap.size w wd6) := Lib.hid (below_of B5.out B5.out.size b)
    have Z6 : Hid (wd5.heap.size ≤ wd6.heap.size) := Lib.hid b.size
    have Xx0_3 : Hid (OwnOI wd6 wd2.heap.size (some ⟨x0, 0, none⟩) x0 a0) := Lib.hid (Xx0_2.out.below b)
    have Xy0_1 : Hid (OwnOI wd6 wd4.heap.size (some ⟨y0, 0, none⟩) y0 a0) := Lib.hid (Xy0.out.below b)
    clear Xx0_2 Xy0
    clear b
    go_wp2
    go_ret
    exact ⟨rfl, B6.out⟩
  · skip
    go_enter Tryd.func5, Tryd.ntmps5
    go_wp2
    go_ret
    exact ⟨rfl, by first | exact Below.refl _ _ | exact (Below.refl _ _).alloc (Nat.le_refl _) _⟩
end Go.Proofs.YtepajikjjejnhaaDoor
