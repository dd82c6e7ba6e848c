/- The law FnExactReadList. No statement is proved here. -/
import Derived.Test.YtoadccmkcjnjmaaDoorNumI
import Derived.Test.YtoadccmkcjnjmaaDoorOpenI
namespace Go.Proofs.YtoadccmkcjnjmaaDoor
open Go Go.RowKit
set_option maxHeartbeats 16000000 in
set_option maxRecDepth 100000 in
theorem law_FnExactReadList (s0 : ByteArray) (w : World) (_hz0 : s0.size ≤ maxLen) (he : EV w) (ht : T10 w) (hm0 : ML w) :
    Calls Tryd.prog 4 #[.string s0] w fun e w' => e = .returned (.bool true) ∧ Below w.heap.size w w' := by
  have HE := Lib.hid he
  clear he
  have HT := Lib.hid ht
  clear ht
  have HM0 := Lib.hid hm0
  clear hm0
  by_cases hb0 : s0.size ≤ 1048576
  · skip
    have HZ0 := Lib.hid hb0
    have hbi0 : ¬ (1048576 : Int) < (s0.size : Int) := by omega
    clear hb0
    have HF : Hid ((liL s0).length ≤ 1048576) := Lib.hid (li_few s0)
    go_enter Tryd.func4, Tryd.ntmps4
    go_wp2_with fail
    refine (s_ReadList s0 _ HZ0.out).mono ?_
    rintro e wd1 ⟨cR1, cc1, cg1, rfl, ho, b⟩
    have B1 : Hid (Below w.heap.size w wd1) := Lib.hid b
    have Z1 : Hid (w.heap.size ≤ wd1.heap.size) := Lib.hid b.size
    have Xc : Hid (OwnOI wd1 w.heap.size cR1 cg1 (liL s0)) := Lib.hid (ho)
    have Xcbd := Xc
    clear ho
    clear b
    go_wp2_with fail
    refine (i_ReadList s0 _ HZ0.out (HE.out.below B1.out) (HT.out.below B1.out) (HM0.out.below B1.out)).mono ?_
    rintro e wd2 ⟨gR1, gc1, gg1, rfl, ho, b⟩
    have B2 : Hid (Below w.heap.size w wd2) := Lib.hid (below_of B1.out B1.out.size b)
    have Z2 : Hid (wd1.heap.size ≤ wd2.heap.size) := Lib.hid b.size
    have Xc_1 : Hid (OwnOI wd2 w.heap.size cR1 cg1 (liL s0)) := Lib.hid (Xc.out.below b)
    clear Xc
    have Xg : Hid (OwnOI wd2 wd1.heap.size gR1 gg1 (liL s0)) := Lib.hid (ho)
    have Xgbd := Xg
    clear ho
    clear b
    go_wp2_with fail
    refine (l_eqI64 _ _ _ _ (liL s0) _ Xg.out.fl Xc_1.out.fl HF.out).mono ?_
    rintro e wd3 ⟨nq, rfl, hw⟩
    have b : Below wd2.heap.size wd2 wd3 := by rw [hw]; repeat (first | exact Below.refl _ _ | refine below_draws ?_ _)
    clear hw
    have B3 : Hid (Below w.heap.size w wd3) := Lib.hid (below_of B2.out B2.out.size b)
    have Z3 : Hid (wd2.heap.size ≤ wd3.heap.size) := Lib.hid b.size
    have Xc_2 : Hid (OwnOI wd3 w.heap.size cR1 cg1 (liL s0)) := Lib.hid (Xc_1.out.below b)
    have Xg_1 : Hid (OwnOI wd3 wd1.heap.size gR1 gg1 (liL s0)) := Lib.hid (Xg.out.below b)
    clear Xc_1 Xg
    clear b
    go_wp2_with fail
    refine (l_markI64 _ _ _ 1 (liL s0) _ (Xg_1.out).a HF.out (by omega) _ rfl).mono ?_
    rintro e wd4 ⟨rfl, om, t⟩
    have B4 : Hid (Below w.heap.size w wd4) := Lib.hid (t.2.2.2 w B3.out (by intro b hh; have h1 := Xgbd.out.bd hh; have := Z1.out; have := Z2.out; have := Z3.out; omega))
    have Z4 : Hid (wd3.heap.size ≤ wd4.heap.size) := Lib.hid t.1
    have Xc_3 : Hid (OwnOI wd4 w.heap.size cR1 cg1 (liL s0)) := Lib.hid (Xc_2.out.turnS t (by intro c hc hh; have h1 := Xgbd.out.bd hh; have h2 := Xcbd.out.bd hc; have := Z1.out; have := Z2.out; have := Z3.out; omega))
    have XM : Hid (OwnOI wd4 wd1.heap.size gR1 gg1 (marksI 1 (liL s0).length)) := Lib.hid (OwnOI.mk' Xg_1.out (marks_lengthI _ _) om)
    clear Xc_2
    clear t om
    have hm : (0 : Int) ≤ ((1 : Nat) : Int) + ((liL s0).length : Int) := by omega
    go_wp2_with fail
    refine (l_heldI64 _ _ _ 1 _ _ (XM.out).a HF.out (by omega) _ rfl).mono ?_
    rintro e wd5 ⟨nq, rfl, hw⟩
    have b : Below wd4.heap.size wd4 wd5 := by rw [hw]; repeat (first | exact Below.refl _ _ | refine below_draws ?_ _)
    clear hw
    have B5 : Hid (Below w.heap.size w wd5) := Lib.hid (below_of B4.out B4.out.size b)
    have Z5 : Hid (wd4.heap.size ≤ wd5.heap.size) := Lib.hid b.size
    have Xc_4 : Hid (OwnOI wd5 w.heap.size cR1 cg1 (liL s0)) := Lib.hid (Xc_3.out.below b)
    have XM_1 : Hid (OwnOI wd5 wd1.heap.size gR1 gg1 (marksI 1 (liL s0).length)) := Lib.hid (XM.out.below b)
    clear Xc_3 XM
    clear b
    go_wp2_with fail
    refine (i_ReadList s0 _ HZ0.out (HE.out.below B5.out) (HT.out.below B5.out) (HM0.out.below B5.out)).mono ?_
    rintro e wd6 ⟨hR1, hc1, hg1, rfl, ho, b⟩
    have B6 : Hid (Below w.heap.size w wd6) := Lib.hid (below_of B5.out B5.out.size b)
    have Z6 : Hid (wd5.heap.size ≤ wd6.heap.size) := Lib.hid b.size
    have Xc_5 : Hid (OwnOI wd6 w.heap.size cR1 cg1 (liL s0)) := Lib.hid (Xc_4.out.below b)
    have XM_2 : Hid (OwnOI wd6 wd1.heap.size gR1 gg1 (marksI 1 (liL s0).length)) := Lib.hid (XM_1.out.below b)
    clear Xc_4 XM_1
    have Xh : Hid (OwnOI wd6 wd5.heap.size hR1 hg1 (liL s0)) := Lib.hid (ho)
    have Xhbd := Xh
    clear ho
    clear b
    go_wp2_with fail
    refine (l_eqI64 _ _ _ _ (liL s0) _ Xh.out.fl Xc_5.out.fl HF.out).mono ?_
    rintro e wd7 ⟨nq, rfl, hw⟩
    have b : Below wd6.heap.size wd6 wd7 := by rw [hw]; repeat (first | exact Below.refl _ _ | refine below_draws ?_ _)
    clear hw
    have B7 : Hid (Below w.heap.size w wd7) := Lib.hid (below_of B6.out B6.out.size b)
    have Z7 : Hid (wd6.heap.size ≤ wd7.heap.size) := Lib.hid b.size
    have Xc_6 : Hid (OwnOI wd7 w.heap.size cR1 cg1 (liL s0)) := Lib.hid (Xc_5.out.below b)
    have XM_3 : Hid (OwnOI wd7 wd1.heap.size gR1 gg1 (marksI 1 (liL s0).length)) := Lib.hid (XM_2.out.below b)
    have Xh_1 : Hid (OwnOI wd7 wd5.heap.size hR1 hg1 (liL s0)) := Lib.hid (Xh.out.below b)
    clear Xc_5 XM_2 Xh
    clear b
    go_wp2_with fail
    refine (l_heldI64 _ _ _ 1 _ _ (XM_3.out).a HF.out (by omega) _ rfl).mono ?_
    rintro e wd8 ⟨nq, rfl, hw⟩
    have b : Below wd7.heap.size wd7 wd8 := by rw [hw]; repeat (first | exact Below.refl _ _ | refine below_draws ?_ _)
    clear hw
    have B8 : Hid (Below w.heap.size w wd8) := Lib.hid (below_of B7.out B7.out.size b)
    have Z8 : Hid (wd7.heap.size ≤ wd8.heap.size) := Lib.hid b.size
    have Xc_7 : Hid (OwnOI wd8 w.heap.size cR1 cg1 (liL s0)) := Lib.hid (Xc_6.out.below b)
    have XM_4 : Hid (OwnOI wd8 wd1.heap.size gR1 gg1 (marksI 1 (liL s0).length)) := Lib.hid (XM_3.out.below b)
    have Xh_2 : Hid (OwnOI wd8 wd5.heap.size hR1 hg1 (liL s0)) := Lib.hid (Xh_1.out.below b)
    clear Xc_6 XM_3 Xh_1
    clear b
    go_wp2
    go_ret
    exact ⟨rfl, B8.out⟩
  · have hbi0 : (1048576 : Int) < (s0.size : Int) := by omega
    go_enter Tryd.func4, Tryd.ntmps4
    go_wp2
    go_ret
    exact ⟨rfl, Below.refl _ _⟩
end Go.Proofs.YtoadccmkcjnjmaaDoor
