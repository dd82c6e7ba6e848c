/- The law FnExactReadComplex. No statement is proved here. -/
import Derived.Test.YtknabmknboffgaaDoorNumZ
import Derived.Test.YtknabmknboffgaaDoorCxQ
import Derived.Test.YtknabmknboffgaaDoorMarkR
namespace Go.Proofs.YtknabmknboffgaaDoor
open Go Go.RowKit
theorem OwnOZ.mk' {w w0 : World} {B0 b : Nat} {A : Option Addr} {xs ys : List (Nat × Nat)} (h : OwnOZ w0 B0 A b xs) (hl : ys.length = xs.length) (hm : xs = [] ∨ OwnZ w b ys) : OwnOZ w B0 A b ys := by
  rcases h with h | ⟨h1, h2, -⟩
  · subst h; exact .inl (List.eq_nil_of_length_eq_zero hl)
  · rcases hm with h | h
    · subst h; exact .inl (List.eq_nil_of_length_eq_zero hl)
    · exact .inr ⟨h1, h2, h⟩
set_option maxHeartbeats 16000000 in
set_option maxRecDepth 100000 in
theorem law_FnExactReadComplex (s0 : ByteArray) (w : World) (_hz0 : s0.size ≤ maxLen) (he : EV w) (ht : T64 w) (hm0 : ML w) :
    Calls Tryd.prog 5 #[.string s0] w fun e w' => e = .returned (.bool true) ∧ Below w.heap.size w w' := by
  have HE := Lib.hid he
  clear he
  have HT := Lib.hid ht
  clear ht
  have HM0 := Lib.hid hm0
  clear hm0
  by_cases hb0 : s0.size ≤ 1048576
  · skip
    have HZ0 := Lib.hid hb0
    have hbi0 : ¬ (1048576 : Int) < (s0.size : Int) := by omega
    clear hb0
    have HF : Hid ((zliL s0).length ≤ 1048576) := Lib.hid (zli_few s0)
    go_enter Tryd.func5, Tryd.ntmps5
    go_wp2_with fail
    refine (s_ReadComplex s0 _ HZ0.out).mono ?_
    rintro e wd1 ⟨cR1, cc1, cg1, rfl, ho, b⟩
    have B1 : Hid (Below w.heap.size w wd1) := Lib.hid b
    have Z1 : Hid (w.heap.size ≤ wd1.heap.size) := Lib.hid b.size
    have Xc : Hid (OwnOZ wd1 w.heap.size cR1 cg1 (zliL s0)) := Lib.hid (ho)
    have Xcbd := Xc
    clear ho
    clear b
    go_wp2_with fail
    refine (i_ReadComplex s0 _ HZ0.out (HE.out.below B1.out) (HT.out.below B1.out) (HM0.out.below B1.out)).mono ?_
    rintro e wd2 ⟨gR1, gc1, gg1, rfl, ho, b⟩
    have B2 : Hid (Below w.heap.size w wd2) := Lib.hid (below_of B1.out B1.out.size b)
    have Z2 : Hid (wd1.heap.size ≤ wd2.heap.size) := Lib.hid b.size
    have Xc_1 : Hid (OwnOZ wd2 w.heap.size cR1 cg1 (zliL s0)) := Lib.hid (Xc.out.below b)
    clear Xc
    have Xg : Hid (OwnOZ wd2 wd1.heap.size gR1 gg1 (zliL s0)) := Lib.hid (ho)
    have Xgbd := Xg
    clear ho
    clear b
    go_wp2_with fail
    refine (l_eqC64 _ _ _ _ (zliL s0) _ Xg.out.fl Xc_1.out.fl HF.out).mono ?_
    rintro e wd3 ⟨nq, rfl, hw⟩
    have b : Below wd2.heap.size wd2 wd3 := by rw [hw]; repeat (first | exact Below.refl _ _ | refine below_draws ?_ _)
    clear hw
    have B3 : Hid (Below w.heap.size w wd3) := Lib.hid (below_of B2.out B2.out.size b)
    have Z3 : Hid (wd2.heap.size ≤ wd3.heap.size) := Lib.hid b.size
    have Xc_2 : Hid (OwnOZ wd3 w.heap.size cR1 cg1 (zliL s0)) := Lib.hid (Xc_1.out.below b)
    have Xg_1 : Hid (OwnOZ wd3 wd1.heap.size gR1 gg1 (zliL s0)) := Lib.hid (Xg.out.below b)
    clear Xc_1 Xg
    clear b
    go_wp2_with fail
    refine (l_markC64 _ _ _ 1 (zliL s0) _ (Xg_1.out).a HF.out (by omega) _ rfl).mono ?_
    rintro e wd4 ⟨rfl, om, t⟩
    have B4 : Hid (Below w.heap.size w wd4) := Lib.hid (t.2.2.2 w B3.out (by intro b hh; have h1 := Xgbd.out.bd hh; have := Z1.out; have := Z2.out; have := Z3.out; omega))
    have Z4 : Hid (wd3.heap.size ≤ wd4.heap.size) := Lib.hid t.1
    have Xc_3 : Hid (OwnOZ wd4 w.heap.size cR1 cg1 (zliL s0)) := Lib.hid (Xc_2.out.turnS t (by intro c hc hh; have h1 := Xgbd.out.bd hh; have h2 := Xcbd.out.bd hc; have := Z1.out; have := Z2.out; have := Z3.out; omega))
    have XM : Hid (OwnOZ wd4 wd1.heap.size gR1 gg1 (marksZ 1 (zliL s0).length)) := Lib.hid (OwnOZ.mk' Xg_1.out (marks_lengthZ _ _) om)
    clear Xc_2
    clear t om
    have hm : (0 : Int) ≤ ((1 : Nat) : Int) + ((zliL s0).length : Int) := by omega
    go_wp2_with fail
    refine (l_heldC64 _ _ _ 1 _ _ (XM.out).a HF.out (by omega) _ rfl).mono ?_
    rintro e wd5 ⟨nq, rfl, hw⟩
    have b : Below wd4.heap.size wd4 wd5 := by rw [hw]; repeat (first | exact Below.refl _ _ | refine below_draws ?_ _)
    clear hw
    have B5 : Hid (Below w.heap.size w wd5) := Lib.hid (below_of B4.out B4.out.size b)
    have Z5 : Hid (wd4.heap.size ≤ wd5.heap.size) := Lib.hid b.size
    have Xc_4 : Hid (OwnOZ wd5 w.heap.size cR1 cg1 (zliL s0)) := Lib.hid (Xc_3.out.below b)
    have XM_1 : Hid (OwnOZ wd5 wd1.heap.size gR1 gg1 (marksZ 1 (zliL s0).length)) := Lib.hid (XM.out.below b)
    clear Xc_3 XM
    clear b
    go_wp2_with fail
    refine (i_ReadComplex s0 _ HZ0.out (HE.out.below B5.out) (HT.out.below B5.out) (HM0.out.below B5.out)).mono ?_
    rintro e wd6 ⟨hR1, hc1, hg1, rfl, ho, b⟩
    have B6 : Hid (Below w.heap.size w wd6) := Lib.hid (below_of B5.out B5.out.size b)
    have Z6 : Hid (wd5.heap.size ≤ wd6.heap.size) := Lib.hid b.size
    have Xc_5 : Hid (OwnOZ wd6 w.heap.size cR1 cg1 (zliL s0)) := Lib.hid (Xc_4.out.below b)
    have XM_2 : Hid (OwnOZ wd6 wd1.heap.size gR1 gg1 (marksZ 1 (zliL s0).length)) := Lib.hid (XM_1.out.below b)
    clear Xc_4 XM_1
    have Xh : Hid (OwnOZ wd6 wd5.heap.size hR1 hg1 (zliL s0)) := Lib.hid (ho)
    have Xhbd := Xh
    clear ho
    clear b
    go_wp2_with fail
    refine (l_eqC64 _ _ _ _ (zliL s0) _ Xh.out.fl Xc_5.out.fl HF.out).mono ?_
    rintro e wd7 ⟨nq, rfl, hw⟩
    have b : Below wd6.heap.size wd6 wd7 := by rw [hw]; repeat (first | exact Below.refl _ _ | refine below_draws ?_ _)
    clear hw
    have B7 : Hid (Below w.heap.size w wd7) := Lib.hid (below_of B6.out B6.out.size b)
    have Z7 : Hid (wd6.heap.size ≤ wd7.heap.size) := Lib.hid b.size
    have Xc_6 : Hid (OwnOZ wd7 w.heap.size cR1 cg1 (zliL s0)) := Lib.hid (Xc_5.out.below b)
    have XM_3 : Hid (OwnOZ wd7 wd1.heap.size gR1 gg1 (marksZ 1 (zliL s0).length)) := Lib.hid (XM_2.out.below b)
    have Xh_1 : Hid (OwnOZ wd7 wd5.heap.size hR1 hg1 (zliL s0)) := Lib.hid (Xh.out.below b)
    clear Xc_5 XM_2 Xh
    clear b
    go_wp2_with fail
    refine (l_heldC64 _ _ _ 1 _ _ (XM_3.out).a HF.out (by omega) _ rfl).mono ?_
    rintro e wd8 ⟨nq, rfl, hw⟩
    have b : Below wd7.heap.size wd7 wd8 := by rw [hw]; repeat (first | exact Below.refl _ _ | refine below_draws ?_ _)
    clear hw
    have B8 : Hid (Below w.heap.size w wd8) := Lib.hid (below_of B7.out B7.out.size b)
    have Z8 : Hid (wd7.heap.size ≤ wd8.heap.size) := Lib.hid b.size
    have Xc_7 : Hid (OwnOZ wd8 w.heap.size cR1 cg1 (zliL s0)) := Lib.hid (Xc_6.out.below b)
    have XM_4 : Hid (OwnOZ wd8 wd1.heap.size gR1 gg1 (marksZ 1 (zliL s0).length)) := Lib.hid (XM_3.out.below b)
    have Xh_2 : Hid (OwnOZ wd8 wd5.heap.size hR1 hg1 (zliL s0)) := Lib.hid (Xh_1.out.below b)
    clear Xc_6 XM_3 Xh_1
    clear b
    go_wp2
    go_ret
    exact ⟨rfl, B8.out⟩
  · have hbi0 : (1048576 : Int) < (s0.size : Int) := by omega
    go_enter Tryd.func5, Tryd.ntmps5
    go_wp2
    go_ret
    exact ⟨rfl, Below.refl _ _⟩
end Go.Proofs.YtknabmknboffgaaDoor
