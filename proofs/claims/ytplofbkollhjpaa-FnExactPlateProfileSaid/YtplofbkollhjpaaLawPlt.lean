/- The law FnExactPlateProfile. No statement is proved here. -/
import Derived.Test.YtplofbkollhjpaaPltI
namespace Go.Proofs.Ytplofbkollhjpaa
open Go Go.RowKit
set_option maxHeartbeats 16000000 in
set_option maxRecDepth 100000 in
theorem law_FnExactPlateProfile (u0 : Int) (w : World) (hu0 : (Lit.int .i64 u0).wf = true) :
    Calls Try.prog 3 #[.int .i64 u0] w fun e w' => e = .returned (.bool true) ∧ Below w.heap.size w w' := by
  have HU0 := Lib.hid hu0
  clear hu0
  have HF : Hid (Few (gLp (pltO u0) (pltA u0.toNat)) (gLp (pltO u0) (pltB u0.toNat)) (gLp (pltO u0) (pltE u0.toNat))) := Lib.hid (plt_few u0)
  go_enter Try.func3, Try.ntmps3
  go_wp2_with fail
  refine (s_PlateProfile u0 _).mono ?_
  rintro e wd1 ⟨cR1, cR2, cR3, cc1, cc2, cc3, cg1, cg2, cg3, rfl, ho, b⟩
  have B1 : Hid (Below w.heap.size w wd1) := Lib.hid b
  have Z1 : Hid (w.heap.size ≤ wd1.heap.size) := Lib.hid b.size
  have Xc : Hid (OwnQ wd1 w.heap.size cR1 cR2 cR3 cg1 cg2 cg3 (gLp (pltO u0) (pltA u0.toNat)) (gLp (pltO u0) (pltB u0.toNat)) (gLp (pltO u0) (pltE u0.toNat))) := Lib.hid (ho)
  have Xcbd := Xc
  clear ho
  clear b
  obtain ⟨wd2, hw2⟩ : ∃ x, x = wd1.alloc (.cells #[.slice cR1 (gLp (pltO u0) (pltA u0.toNat)).length cc1, .slice cR2 (gLp (pltO u0) (pltB u0.toNat)).length cc2, .slice cR3 (gLp (pltO u0) (pltE u0.toNat)).length cc3] 24) := ⟨_, rfl⟩
  have b : Below wd1.heap.size wd1 wd2 := by rw [hw2]; exact (Below.refl _ _).alloc (Nat.le_refl _) _
  have Y2 : Hid (wd1.heap.size + 1 ≤ wd2.heap.size) := Lib.hid (by rw [hw2]; simp)
  have B2 : Hid (Below w.heap.size w wd2) := Lib.hid (below_of B1.out B1.out.size b)
  have Z2 : Hid (wd1.heap.size ≤ wd2.heap.size) := Lib.hid b.size
  have Xc_1 : Hid (OwnQ wd2 w.heap.size cR1 cR2 cR3 cg1 cg2 cg3 (gLp (pltO u0) (pltA u0.toNat)) (gLp (pltO u0) (pltB u0.toNat)) (gLp (pltO u0) (pltE u0.toNat))) := Lib.hid (Xc.out.below b)
  have WB : Hid (BlkL wd2 (wd1.heap.size) [.slice cR1 (gLp (pltO u0) (pltA u0.toNat)).length cc1, .slice cR2 (gLp (pltO u0) (pltB u0.toNat)).length cc2, .slice cR3 (gLp (pltO u0) (pltE u0.toNat)).length cc3]) := Lib.hid (by rw [hw2]; exact blkL_at wd1 #[.slice cR1 (gLp (pltO u0) (pltA u0.toNat)).length cc1, .slice cR2 (gLp (pltO u0) (pltB u0.toNat)).length cc2, .slice cR3 (gLp (pltO u0) (pltE u0.toNat)).length cc3] 24 rfl)
  clear b
  go_wp2_with fail
  rw [← hw2]
  clear hw2
  clear Xc
  obtain ⟨WBx0, WBx1, WBx2⟩ := WB.out.three
  go_wp2_with fail
  refine (i_PlateProfile u0 _).mono ?_
  rintro e wd3 ⟨gR1, gR2, gR3, gc1, gc2, gc3, gg1, gg2, gg3, rfl, ho, b⟩
  have B3 : Hid (Below w.heap.size w wd3) := Lib.hid (below_of B2.out B2.out.size b)
  have Z3 : Hid (wd2.heap.size ≤ wd3.heap.size) := Lib.hid b.size
  have Xc_2 : Hid (OwnQ wd3 w.heap.size cR1 cR2 cR3 cg1 cg2 cg3 (gLp (pltO u0) (pltA u0.toNat)) (gLp (pltO u0) (pltB u0.toNat)) (gLp (pltO u0) (pltE u0.toNat))) := Lib.hid (Xc_1.out.below b)
  have WB_1 : Hid (BlkL wd3 (wd1.heap.size) [.slice cR1 (gLp (pltO u0) (pltA u0.toNat)).length cc1, .slice cR2 (gLp (pltO u0) (pltB u0.toNat)).length cc2, .slice cR3 (gLp (pltO u0) (pltE u0.toNat)).length cc3]) := Lib.hid (WB.out.below b)
  clear WBx0 WBx1 WBx2
  clear Xc_1 WB
  have Xg : Hid (OwnQ wd3 wd2.heap.size gR1 gR2 gR3 gg1 gg2 gg3 (gLp (pltO u0) (pltA u0.toNat)) (gLp (pltO u0) (pltB u0.toNat)) (gLp (pltO u0) (pltE u0.toNat))) := Lib.hid (ho)
  have Xgbd := Xg
  clear ho
  clear b
  obtain ⟨wd4, hw4⟩ : ∃ x, x = wd3.alloc (.cells #[.slice gR1 (gLp (pltO u0) (pltA u0.toNat)).length gc1, .slice gR2 (gLp (pltO u0) (pltB u0.toNat)).length gc2, .slice gR3 (gLp (pltO u0) (pltE u0.toNat)).length gc3] 24) := ⟨_, rfl⟩
  have b : Below wd3.heap.size wd3 wd4 := by rw [hw4]; exact (Below.refl _ _).alloc (Nat.le_refl _) _
  have Y4 : Hid (wd3.heap.size + 1 ≤ wd4.heap.size) := Lib.hid (by rw [hw4]; simp)
  have B4 : Hid (Below w.heap.size w wd4) := Lib.hid (below_of B3.out B3.out.size b)
  have Z4 : Hid (wd3.heap.size ≤ wd4.heap.size) := Lib.hid b.size
  have Xc_3 : Hid (OwnQ wd4 w.heap.size cR1 cR2 cR3 cg1 cg2 cg3 (gLp (pltO u0) (pltA u0.toNat)) (gLp (pltO u0) (pltB u0.toNat)) (gLp (pltO u0) (pltE u0.toNat))) := Lib.hid (Xc_2.out.below b)
  have WB_2 : Hid (BlkL wd4 (wd1.heap.size) [.slice cR1 (gLp (pltO u0) (pltA u0.toNat)).length cc1, .slice cR2 (gLp (pltO u0) (pltB u0.toNat)).length cc2, .slice cR3 (gLp (pltO u0) (pltE u0.toNat)).length cc3]) := Lib.hid (WB_1.out.below b)
  have Xg_1 : Hid (OwnQ wd4 wd2.heap.size gR1 gR2 gR3 gg1 gg2 gg3 (gLp (pltO u0) (pltA u0.toNat)) (gLp (pltO u0) (pltB u0.toNat)) (gLp (pltO u0) (pltE u0.toNat))) := Lib.hid (Xg.out.below b)
  have GB : Hid (BlkL wd4 (wd3.heap.size) [.slice gR1 (gLp (pltO u0) (pltA u0.toNat)).length gc1, .slice gR2 (gLp (pltO u0) (pltB u0.toNat)).length gc2, .slice gR3 (gLp (pltO u0) (pltE u0.toNat)).length gc3]) := Lib.hid (by rw [hw4]; exact blkL_at wd3 #[.slice gR1 (gLp (pltO u0) (pltA u0.toNat)).length gc1, .slice gR2 (gLp (pltO u0) (pltB u0.toNat)).length gc2, .slice gR3 (gLp (pltO u0) (pltE u0.toNat)).length gc3] 24 rfl)
  clear b
  have WBy0 := fun o => ((WB_1.out.alloc o).2 0 _ rfl).1
  have WBy1 := fun o => ((WB_1.out.alloc o).2 1 _ rfl).1
  have WBy2 := fun o => ((WB_1.out.alloc o).2 2 _ rfl).1
  go_wp2_with fail
  rw [← hw4]
  clear hw4
  clear WBy0 WBy1 WBy2
  clear Xc_2 WB_1 Xg
  obtain ⟨WBx0, WBx1, WBx2⟩ := WB_2.out.three
  obtain ⟨GBx0, GBx1, GBx2⟩ := GB.out.three
  go_wp2_with fail
  refine (l_eqProfile _ _ _ _ _ _ _ _ _ _ _ _ (gLp (pltO u0) (pltA u0.toNat)) (gLp (pltO u0) (pltB u0.toNat)) (gLp (pltO u0) (pltE u0.toNat)) _ Xg_1.out.pf Xc_3.out.pf HF.out).mono ?_
  rintro e wd5 ⟨rfl, b⟩
  have B5 : Hid (Below w.heap.size w wd5) := Lib.hid (below_of B4.out B4.out.size b)
  have Z5 : Hid (wd4.heap.size ≤ wd5.heap.size) := Lib.hid b.size
  have Xc_4 : Hid (OwnQ wd5 w.heap.size cR1 cR2 cR3 cg1 cg2 cg3 (gLp (pltO u0) (pltA u0.toNat)) (gLp (pltO u0) (pltB u0.toNat)) (gLp (pltO u0) (pltE u0.toNat))) := Lib.hid (Xc_3.out.below b)
  have WB_3 : Hid (BlkL wd5 (wd1.heap.size) [.slice cR1 (gLp (pltO u0) (pltA u0.toNat)).length cc1, .slice cR2 (gLp (pltO u0) (pltB u0.toNat)).length cc2, .slice cR3 (gLp (pltO u0) (pltE u0.toNat)).length cc3]) := Lib.hid (WB_2.out.below b)
  have Xg_2 : Hid (OwnQ wd5 wd2.heap.size gR1 gR2 gR3 gg1 gg2 gg3 (gLp (pltO u0) (pltA u0.toNat)) (gLp (pltO u0) (pltB u0.toNat)) (gLp (pltO u0) (pltE u0.toNat))) := Lib.hid (Xg_1.out.below b)
  have GB_1 : Hid (BlkL wd5 (wd3.heap.size) [.slice gR1 (gLp (pltO u0) (pltA u0.toNat)).length gc1, .slice gR2 (gLp (pltO u0) (pltB u0.toNat)).length gc2, .slice gR3 (gLp (pltO u0) (pltE u0.toNat)).length gc3]) := Lib.hid (GB.out.below b)
  clear WBx0 WBx1 WBx2 GBx0 GBx1 GBx2
  clear Xc_3 WB_2 Xg_1 GB
  clear b
  obtain ⟨WBx0, WBx1, WBx2⟩ := WB_3.out.three
  obtain ⟨GBx0, GBx1, GBx2⟩ := GB_1.out.three
  go_wp2_with fail
  refine (l_markProfile _ _ _ _ _ _ _ _ _ _ 1 (gLp (pltO u0) (pltA u0.toNat)) (gLp (pltO u0) (pltB u0.toNat)) (gLp (pltO u0) (pltE u0.toNat)) _ (Xg_2.out) HF.out (by omega) _ rfl).mono ?_
  rintro e wd6 ⟨rfl, om, t⟩
  have B6 : Hid (Below w.heap.size w wd6) := Lib.hid (t.2.2.2 w B5.out (by intro b hh; have h1 := Xgbd.out.bd hh; have := Z1.out; have := Z2.out; have := Y2.out; have := Z3.out; have := Z4.out; have := Y4.out; have := Z5.out; omega))
  have Z6 : Hid (wd5.heap.size ≤ wd6.heap.size) := Lib.hid t.1
  have Xc_5 : Hid (OwnQ wd6 w.heap.size cR1 cR2 cR3 cg1 cg2 cg3 (gLp (pltO u0) (pltA u0.toNat)) (gLp (pltO u0) (pltB u0.toNat)) (gLp (pltO u0) (pltE u0.toNat))) := Lib.hid (Xc_4.out.turnS t (by intro c hc hh; have h1 := Xgbd.out.bd hh; have h2 := Xcbd.out.bd hc; have := Z1.out; have := Z2.out; have := Y2.out; have := Z3.out; have := Z4.out; have := Y4.out; have := Z5.out; omega))
  have WB_4 : Hid (BlkL wd6 (wd1.heap.size) [.slice cR1 (gLp (pltO u0) (pltA u0.toNat)).length cc1, .slice cR2 (gLp (pltO u0) (pltB u0.toNat)).length cc2, .slice cR3 (gLp (pltO u0) (pltE u0.toNat)).length cc3]) := Lib.hid (WB_3.out.turnS t (by intro hh; have h1 := Xgbd.out.bd hh; have := Z1.out; have := Z2.out; have := Y2.out; have := Z3.out; have := Z4.out; have := Y4.out; have := Z5.out; omega))
  have GB_2 : Hid (BlkL wd6 (wd3.heap.size) [.slice gR1 (gLp (pltO u0) (pltA u0.toNat)).length gc1, .slice gR2 (gLp (pltO u0) (pltB u0.toNat)).length gc2, .slice gR3 (gLp (pltO u0) (pltE u0.toNat)).length gc3]) := Lib.hid (GB_1.out.turnS t (by intro hh; have h1 := Xgbd.out.bd hh; have := Z1.out; have := Z2.out; have := Y2.out; have := Z3.out; have := Z4.out; have := Y4.out; have := Z5.out; omega))
  have XM : Hid (OwnQ wd6 wd2.heap.size gR1 gR2 gR3 gg1 gg2 gg3 (marks 1 (gLp (pltO u0) (pltA u0.toNat)).length) (marks (1 + (gLp (pltO u0) (pltA u0.toNat)).length) (gLp (pltO u0) (pltB u0.toNat)).length) (marks (1 + (gLp (pltO u0) (pltA u0.toNat)).length + (gLp (pltO u0) (pltB u0.toNat)).length) (gLp (pltO u0) (pltE u0.toNat)).length)) := Lib.hid (om)
  clear WBx0 WBx1 WBx2 GBx0 GBx1 GBx2
  clear Xc_4 WB_3 GB_1
  clear t om
  have hm : (0 : Int) ≤ ((1 : Nat) : Int) + ((gLp (pltO u0) (pltA u0.toNat)).length : Int) + ((gLp (pltO u0) (pltB u0.toNat)).length : Int) + ((gLp (pltO u0) (pltE u0.toNat)).length : Int) := by omega
  obtain ⟨WBx0, WBx1, WBx2⟩ := WB_4.out.three
  obtain ⟨GBx0, GBx1, GBx2⟩ := GB_2.out.three
  go_wp2_with fail
  refine (l_heldProfile _ _ _ _ _ _ _ _ _ _ 1 _ _ _ _ (XM.out) (by have := HF.out; unfold Few at this; omega) (by omega) _ rfl).mono ?_
  rintro e wd7 ⟨rfl, b⟩
  have B7 : Hid (Below w.heap.size w wd7) := Lib.hid (below_of B6.out B6.out.size b)
  have Z7 : Hid (wd6.heap.size ≤ wd7.heap.size) := Lib.hid b.size
  have Xc_6 : Hid (OwnQ wd7 w.heap.size cR1 cR2 cR3 cg1 cg2 cg3 (gLp (pltO u0) (pltA u0.toNat)) (gLp (pltO u0) (pltB u0.toNat)) (gLp (pltO u0) (pltE u0.toNat))) := Lib.hid (Xc_5.out.below b)
  have WB_5 : Hid (BlkL wd7 (wd1.heap.size) [.slice cR1 (gLp (pltO u0) (pltA u0.toNat)).length cc1, .slice cR2 (gLp (pltO u0) (pltB u0.toNat)).length cc2, .slice cR3 (gLp (pltO u0) (pltE u0.toNat)).length cc3]) := Lib.hid (WB_4.out.below b)
  have GB_3 : Hid (BlkL wd7 (wd3.heap.size) [.slice gR1 (gLp (pltO u0) (pltA u0.toNat)).length gc1, .slice gR2 (gLp (pltO u0) (pltB u0.toNat)).length gc2, .slice gR3 (gLp (pltO u0) (pltE u0.toNat)).length gc3]) := Lib.hid (GB_2.out.below b)
  have XM_1 : Hid (OwnQ wd7 wd2.heap.size gR1 gR2 gR3 gg1 gg2 gg3 (marks 1 (gLp (pltO u0) (pltA u0.toNat)).length) (marks (1 + (gLp (pltO u0) (pltA u0.toNat)).length) (gLp (pltO u0) (pltB u0.toNat)).length) (marks (1 + (gLp (pltO u0) (pltA u0.toNat)).length + (gLp (pltO u0) (pltB u0.toNat)).length) (gLp (pltO u0) (pltE u0.toNat)).length)) := Lib.hid (XM.out.below b)
  clear WBx0 WBx1 WBx2 GBx0 GBx1 GBx2
  clear Xc_5 WB_4 GB_2 XM
  clear b
  obtain ⟨WBx0, WBx1, WBx2⟩ := WB_5.out.three
  obtain ⟨GBx0, GBx1, GBx2⟩ := GB_3.out.three
  go_wp2_with fail
  refine (i_PlateProfile u0 _).mono ?_
  rintro e wd8 ⟨hR1, hR2, hR3, hc1, hc2, hc3, hg1, hg2, hg3, rfl, ho, b⟩
  have B8 : Hid (Below w.heap.size w wd8) := Lib.hid (below_of B7.out B7.out.size b)
  have Z8 : Hid (wd7.heap.size ≤ wd8.heap.size) := Lib.hid b.size
  have Xc_7 : Hid (OwnQ wd8 w.heap.size cR1 cR2 cR3 cg1 cg2 cg3 (gLp (pltO u0) (pltA u0.toNat)) (gLp (pltO u0) (pltB u0.toNat)) (gLp (pltO u0) (pltE u0.toNat))) := Lib.hid (Xc_6.out.below b)
  have WB_6 : Hid (BlkL wd8 (wd1.heap.size) [.slice cR1 (gLp (pltO u0) (pltA u0.toNat)).length cc1, .slice cR2 (gLp (pltO u0) (pltB u0.toNat)).length cc2, .slice cR3 (gLp (pltO u0) (pltE u0.toNat)).length cc3]) := Lib.hid (WB_5.out.below b)
  have GB_4 : Hid (BlkL wd8 (wd3.heap.size) [.slice gR1 (gLp (pltO u0) (pltA u0.toNat)).length gc1, .slice gR2 (gLp (pltO u0) (pltB u0.toNat)).length gc2, .slice gR3 (gLp (pltO u0) (pltE u0.toNat)).length gc3]) := Lib.hid (GB_3.out.below b)
  have XM_2 : Hid (OwnQ wd8 wd2.heap.size gR1 gR2 gR3 gg1 gg2 gg3 (marks 1 (gLp (pltO u0) (pltA u0.toNat)).length) (marks (1 + (gLp (pltO u0) (pltA u0.toNat)).length) (gLp (pltO u0) (pltB u0.toNat)).length) (marks (1 + (gLp (pltO u0) (pltA u0.toNat)).length + (gLp (pltO u0) (pltB u0.toNat)).length) (gLp (pltO u0) (pltE u0.toNat)).length)) := Lib.hid (XM_1.out.below b)
  clear WBx0 WBx1 WBx2 GBx0 GBx1 GBx2
  clear Xc_6 WB_5 GB_3 XM_1
  have Xh : Hid (OwnQ wd8 wd7.heap.size hR1 hR2 hR3 hg1 hg2 hg3 (gLp (pltO u0) (pltA u0.toNat)) (gLp (pltO u0) (pltB u0.toNat)) (gLp (pltO u0) (pltE u0.toNat))) := Lib.hid (ho)
  have Xhbd := Xh
  clear ho
  clear b
  obtain ⟨wd9, hw9⟩ : ∃ x, x = wd8.alloc (.cells #[.slice hR1 (gLp (pltO u0) (pltA u0.toNat)).length hc1, .slice hR2 (gLp (pltO u0) (pltB u0.toNat)).length hc2, .slice hR3 (gLp (pltO u0) (pltE u0.toNat)).length hc3] 24) := ⟨_, rfl⟩
  have b : Below wd8.heap.size wd8 wd9 := by rw [hw9]; exact (Below.refl _ _).alloc (Nat.le_refl _) _
  have Y9 : Hid (wd8.heap.size + 1 ≤ wd9.heap.size) := Lib.hid (by rw [hw9]; simp)
  have B9 : Hid (Below w.heap.size w wd9) := Lib.hid (below_of B8.out B8.out.size b)
  have Z9 : Hid (wd8.heap.size ≤ wd9.heap.size) := Lib.hid b.size
  have Xc_8 : Hid (OwnQ wd9 w.heap.size cR1 cR2 cR3 cg1 cg2 cg3 (gLp (pltO u0) (pltA u0.toNat)) (gLp (pltO u0) (pltB u0.toNat)) (gLp (pltO u0) (pltE u0.toNat))) := Lib.hid (Xc_7.out.below b)
  have WB_7 : Hid (BlkL wd9 (wd1.heap.size) [.slice cR1 (gLp (pltO u0) (pltA u0.toNat)).length cc1, .slice cR2 (gLp (pltO u0) (pltB u0.toNat)).length cc2, .slice cR3 (gLp (pltO u0) (pltE u0.toNat)).length cc3]) := Lib.hid (WB_6.out.below b)
  have GB_5 : Hid (BlkL wd9 (wd3.heap.size) [.slice gR1 (gLp (pltO u0) (pltA u0.toNat)).length gc1, .slice gR2 (gLp (pltO u0) (pltB u0.toNat)).length gc2, .slice gR3 (gLp (pltO u0) (pltE u0.toNat)).length gc3]) := Lib.hid (GB_4.out.below b)
  have XM_3 : Hid (OwnQ wd9 wd2.heap.size gR1 gR2 gR3 gg1 gg2 gg3 (marks 1 (gLp (pltO u0) (pltA u0.toNat)).length) (marks (1 + (gLp (pltO u0) (pltA u0.toNat)).length) (gLp (pltO u0) (pltB u0.toNat)).length) (marks (1 + (gLp (pltO u0) (pltA u0.toNat)).length + (gLp (pltO u0) (pltB u0.toNat)).length) (gLp (pltO u0) (pltE u0.toNat)).length)) := Lib.hid (XM_2.out.below b)
  have Xh_1 : Hid (OwnQ wd9 wd7.heap.size hR1 hR2 hR3 hg1 hg2 hg3 (gLp (pltO u0) (pltA u0.toNat)) (gLp (pltO u0) (pltB u0.toNat)) (gLp (pltO u0) (pltE u0.toNat))) := Lib.hid (Xh.out.below b)
  have HB : Hid (BlkL wd9 (wd8.heap.size) [.slice hR1 (gLp (pltO u0) (pltA u0.toNat)).length hc1, .slice hR2 (gLp (pltO u0) (pltB u0.toNat)).length hc2, .slice hR3 (gLp (pltO u0) (pltE u0.toNat)).length hc3]) := Lib.hid (by rw [hw9]; exact blkL_at wd8 #[.slice hR1 (gLp (pltO u0) (pltA u0.toNat)).length hc1, .slice hR2 (gLp (pltO u0) (pltB u0.toNat)).length hc2, .slice hR3 (gLp (pltO u0) (pltE u0.toNat)).length hc3] 24 rfl)
  clear b
  have WBy0 := fun o => ((WB_6.out.alloc o).2 0 _ rfl).1
  have WBy1 := fun o => ((WB_6.out.alloc o).2 1 _ rfl).1
  have WBy2 := fun o => ((WB_6.out.alloc o).2 2 _ rfl).1
  have GBy0 := fun o => ((GB_4.out.alloc o).2 0 _ rfl).1
  have GBy1 := fun o => ((GB_4.out.alloc o).2 1 _ rfl).1
  have GBy2 := fun o => ((GB_4.out.alloc o).2 2 _ rfl).1
  go_wp2_with fail
  rw [← hw9]
  clear hw9
  clear WBy0 WBy1 WBy2 GBy0 GBy1 GBy2
  clear Xc_7 WB_6 GB_4 XM_2 Xh
  obtain ⟨WBx0, WBx1, WBx2⟩ := WB_7.out.three
  obtain ⟨GBx0, GBx1, GBx2⟩ := GB_5.out.three
  obtain ⟨HBx0, HBx1, HBx2⟩ := HB.out.three
  go_wp2_with fail
  refine (l_eqProfile _ _ _ _ _ _ _ _ _ _ _ _ (gLp (pltO u0) (pltA u0.toNat)) (gLp (pltO u0) (pltB u0.toNat)) (gLp (pltO u0) (pltE u0.toNat)) _ Xh_1.out.pf Xc_8.out.pf HF.out).mono ?_
  rintro e wd10 ⟨rfl, b⟩
  have B10 : Hid (Below w.heap.size w wd10) := Lib.hid (below_of B9.out B9.out.size b)
  have Z10 : Hid (wd9.heap.size ≤ wd10.heap.size) := Lib.hid b.size
  have Xc_9 : Hid (OwnQ wd10 w.heap.size cR1 cR2 cR3 cg1 cg2 cg3 (gLp (pltO u0) (pltA u0.toNat)) (gLp (pltO u0) (pltB u0.toNat)) (gLp (pltO u0) (pltE u0.toNat))) := Lib.hid (Xc_8.out.below b)
  have WB_8 : Hid (BlkL wd10 (wd1.heap.size) [.slice cR1 (gLp (pltO u0) (pltA u0.toNat)).length cc1, .slice cR2 (gLp (pltO u0) (pltB u0.toNat)).length cc2, .slice cR3 (gLp (pltO u0) (pltE u0.toNat)).length cc3]) := Lib.hid (WB_7.out.below b)
  have GB_6 : Hid (BlkL wd10 (wd3.heap.size) [.slice gR1 (gLp (pltO u0) (pltA u0.toNat)).length gc1, .slice gR2 (gLp (pltO u0) (pltB u0.toNat)).length gc2, .slice gR3 (gLp (pltO u0) (pltE u0.toNat)).length gc3]) := Lib.hid (GB_5.out.below b)
  have XM_4 : Hid (OwnQ wd10 wd2.heap.size gR1 gR2 gR3 gg1 gg2 gg3 (marks 1 (gLp (pltO u0) (pltA u0.toNat)).length) (marks (1 + (gLp (pltO u0) (pltA u0.toNat)).length) (gLp (pltO u0) (pltB u0.toNat)).length) (marks (1 + (gLp (pltO u0) (pltA u0.toNat)).length + (gLp (pltO u0) (pltB u0.toNat)).length) (gLp (pltO u0) (pltE u0.toNat)).length)) := Lib.hid (XM_3.out.below b)
  have Xh_2 : Hid (OwnQ wd10 wd7.heap.size hR1 hR2 hR3 hg1 hg2 hg3 (gLp (pltO u0) (pltA u0.toNat)) (gLp (pltO u0) (pltB u0.toNat)) (gLp (pltO u0) (pltE u0.toNat))) := Lib.hid (Xh_1.out.below b)
  have HB_1 : Hid (BlkL wd10 (wd8.heap.size) [.slice hR1 (gLp (pltO u0) (pltA u0.toNat)).length hc1, .slice hR2 (gLp (pltO u0) (pltB u0.toNat)).length hc2, .slice hR3 (gLp (pltO u0) (pltE u0.toNat)).length hc3]) := Lib.hid (HB.out.below b)
  clear WBx0 WBx1 WBx2 GBx0 GBx1 GBx2 HBx0 HBx1 HBx2
  clear Xc_8 WB_7 GB_5 XM_3 Xh_1 HB
  clear b
  obtain ⟨WBx0, WBx1, WBx2⟩ := WB_8.out.three
  obtain ⟨GBx0, GBx1, GBx2⟩ := GB_6.out.three
  obtain ⟨HBx0, HBx1, HBx2⟩ := HB_1.out.three
  go_wp2_with fail
  refine (l_heldProfile _ _ _ _ _ _ _ _ _ _ 1 _ _ _ _ (XM_4.out) (by have := HF.out; unfold Few at this; omega) (by omega) _ rfl).mono ?_
  rintro e wd11 ⟨rfl, b⟩
  have B11 : Hid (Below w.heap.size w wd11) := Lib.hid (below_of B10.out B10.out.size b)
  have Z11 : Hid (wd10.heap.size ≤ wd11.heap.size) := Lib.hid b.size
  have Xc_10 : Hid (OwnQ wd11 w.heap.size cR1 cR2 cR3 cg1 cg2 cg3 (gLp (pltO u0) (pltA u0.toNat)) (gLp (pltO u0) (pltB u0.toNat)) (gLp (pltO u0) (pltE u0.toNat))) := Lib.hid (Xc_9.out.below b)
  have WB_9 : Hid (BlkL wd11 (wd1.heap.size) [.slice cR1 (gLp (pltO u0) (pltA u0.toNat)).length cc1, .slice cR2 (gLp (pltO u0) (pltB u0.toNat)).length cc2, .slice cR3 (gLp (pltO u0) (pltE u0.toNat)).length cc3]) := Lib.hid (WB_8.out.below b)
  have GB_7 : Hid (BlkL wd11 (wd3.heap.size) [.slice gR1 (gLp (pltO u0) (pltA u0.toNat)).length gc1, .slice gR2 (gLp (pltO u0) (pltB u0.toNat)).length gc2, .slice gR3 (gLp (pltO u0) (pltE u0.toNat)).length gc3]) := Lib.hid (GB_6.out.below b)
  have XM_5 : Hid (OwnQ wd11 wd2.heap.size gR1 gR2 gR3 gg1 gg2 gg3 (marks 1 (gLp (pltO u0) (pltA u0.toNat)).length) (marks (1 + (gLp (pltO u0) (pltA u0.toNat)).length) (gLp (pltO u0) (pltB u0.toNat)).length) (marks (1 + (gLp (pltO u0) (pltA u0.toNat)).length + (gLp (pltO u0) (pltB u0.toNat)).length) (gLp (pltO u0) (pltE u0.toNat)).length)) := Lib.hid (XM_4.out.below b)
  have Xh_3 : Hid (OwnQ wd11 wd7.heap.size hR1 hR2 hR3 hg1 hg2 hg3 (gLp (pltO u0) (pltA u0.toNat)) (gLp (pltO u0) (pltB u0.toNat)) (gLp (pltO u0) (pltE u0.toNat))) := Lib.hid (Xh_2.out.below b)
  have HB_2 : Hid (BlkL wd11 (wd8.heap.size) [.slice hR1 (gLp (pltO u0) (pltA u0.toNat)).length hc1, .slice hR2 (gLp (pltO u0) (pltB u0.toNat)).length hc2, .slice hR3 (gLp (pltO u0) (pltE u0.toNat)).length hc3]) := Lib.hid (HB_1.out.below b)
  clear WBx0 WBx1 WBx2 GBx0 GBx1 GBx2 HBx0 HBx1 HBx2
  clear Xc_9 WB_8 GB_6 XM_4 Xh_2 HB_1
  clear b
  obtain ⟨WBx0, WBx1, WBx2⟩ := WB_9.out.three
  obtain ⟨GBx0, GBx1, GBx2⟩ := GB_7.out.three
  obtain ⟨HBx0, HBx1, HBx2⟩ := HB_2.out.three
  go_wp2
  go_ret
  exact ⟨rfl, B11.out⟩
end Go.Proofs.Ytplofbkollhjpaa
