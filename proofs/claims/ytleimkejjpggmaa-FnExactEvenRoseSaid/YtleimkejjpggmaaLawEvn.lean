/- The law FnExactEvenRose. No statement is proved here. -/
import Derived.Test.YtleimkejjpggmaaEvnS
import Derived.Test.YtleimkejjpggmaaMarkR
import Derived.Test.YtleimkejjpggmaaOpenW
namespace Go.Proofs.Ytleimkejjpggmaa
open Go Go.RowKit
set_option maxHeartbeats 16000000 in
set_option maxRecDepth 100000 in
theorem law_FnExactEvenRose (u0 : Int) (u1 : Nat) (w : World) (hu0 : (Lit.int .i64 u0).wf = true) (_hu1 : u1 < words .f32) :
    Calls Try.prog 5 #[.int .i64 u0, .float .f32 u1] w fun e w' => e = .returned (.bool true) ∧ Below w.heap.size w w' := by
  have HU0 := Lib.hid hu0
  clear hu0
  have HF : Hid (FewS (gLn (evnO u0 u1) (evnX u0)) (gLn (evnO u0 u1) (evnY u0 u1))) := Lib.hid (evn_few u0 u1)
  go_enter Try.func5, Try.ntmps5
  go_wp2_with fail
  refine (s_EvenRose u0 u1 _).mono ?_
  rintro e wd1 ⟨cR1, cR2, cc1, cc2, cg1, cg2, rfl, ho, b⟩
  have B1 : Hid (Below w.heap.size w wd1) := Lib.hid b
  have Z1 : Hid (w.heap.size ≤ wd1.heap.size) := Lib.hid b.size
  have Xc : Hid (OwnR2 wd1 w.heap.size cR1 cR2 cg1 cg2 (gLn (evnO u0 u1) (evnX u0)) (gLn (evnO u0 u1) (evnY u0 u1))) := Lib.hid (ho)
  have Xcbd := Xc
  clear ho
  clear b
  obtain ⟨wd2, hw2⟩ : ∃ x, x = wd1.alloc (.cells #[.slice cR1 (gLn (evnO u0 u1) (evnX u0)).length cc1, .slice cR2 (gLn (evnO u0 u1) (evnY u0 u1)).length cc2] 47) := ⟨_, rfl⟩
  have b : Below wd1.heap.size wd1 wd2 := by rw [hw2]; exact (Below.refl _ _).alloc (Nat.le_refl _) _
  have Y2 : Hid (wd1.heap.size + 1 ≤ wd2.heap.size) := Lib.hid (by rw [hw2]; simp)
  have B2 : Hid (Below w.heap.size w wd2) := Lib.hid (below_of B1.out B1.out.size b)
  have Z2 : Hid (wd1.heap.size ≤ wd2.heap.size) := Lib.hid b.size
  have Xc_1 : Hid (OwnR2 wd2 w.heap.size cR1 cR2 cg1 cg2 (gLn (evnO u0 u1) (evnX u0)) (gLn (evnO u0 u1) (evnY u0 u1))) := Lib.hid (Xc.out.below b)
  have WB : Hid (BlkL wd2 (wd1.heap.size) [.slice cR1 (gLn (evnO u0 u1) (evnX u0)).length cc1, .slice cR2 (gLn (evnO u0 u1) (evnY u0 u1)).length cc2]) := Lib.hid (by rw [hw2]; exact blkL_at wd1 #[.slice cR1 (gLn (evnO u0 u1) (evnX u0)).length cc1, .slice cR2 (gLn (evnO u0 u1) (evnY u0 u1)).length cc2] 47 rfl)
  clear b
  go_wp2_with fail
  rw [← hw2]
  clear hw2
  clear Xc
  obtain ⟨WBx0, WBx1⟩ := WB.out.two
  go_wp2_with fail
  refine (i_EvenRose u0 u1 _).mono ?_
  rintro e wd3 ⟨gR1, gR2, gc1, gc2, gg1, gg2, rfl, ho, b⟩
  have B3 : Hid (Below w.heap.size w wd3) := Lib.hid (below_of B2.out B2.out.size b)
  have Z3 : Hid (wd2.heap.size ≤ wd3.heap.size) := Lib.hid b.size
  have Xc_2 : Hid (OwnR2 wd3 w.heap.size cR1 cR2 cg1 cg2 (gLn (evnO u0 u1) (evnX u0)) (gLn (evnO u0 u1) (evnY u0 u1))) := Lib.hid (Xc_1.out.below b)
  have WB_1 : Hid (BlkL wd3 (wd1.heap.size) [.slice cR1 (gLn (evnO u0 u1) (evnX u0)).length cc1, .slice cR2 (gLn (evnO u0 u1) (evnY u0 u1)).length cc2]) := Lib.hid (WB.out.below b)
  clear WBx0 WBx1
  clear Xc_1 WB
  have Xg : Hid (OwnR2 wd3 wd2.heap.size gR1 gR2 gg1 gg2 (gLn (evnO u0 u1) (evnX u0)) (gLn (evnO u0 u1) (evnY u0 u1))) := Lib.hid (ho)
  have Xgbd := Xg
  clear ho
  clear b
  obtain ⟨wd4, hw4⟩ : ∃ x, x = wd3.alloc (.cells #[.slice gR1 (gLn (evnO u0 u1) (evnX u0)).length gc1, .slice gR2 (gLn (evnO u0 u1) (evnY u0 u1)).length gc2] 47) := ⟨_, rfl⟩
  have b : Below wd3.heap.size wd3 wd4 := by rw [hw4]; exact (Below.refl _ _).alloc (Nat.le_refl _) _
  have Y4 : Hid (wd3.heap.size + 1 ≤ wd4.heap.size) := Lib.hid (by rw [hw4]; simp)
  have B4 : Hid (Below w.heap.size w wd4) := Lib.hid (below_of B3.out B3.out.size b)
  have Z4 : Hid (wd3.heap.size ≤ wd4.heap.size) := Lib.hid b.size
  have Xc_3 : Hid (OwnR2 wd4 w.heap.size cR1 cR2 cg1 cg2 (gLn (evnO u0 u1) (evnX u0)) (gLn (evnO u0 u1) (evnY u0 u1))) := Lib.hid (Xc_2.out.below b)
  have WB_2 : Hid (BlkL wd4 (wd1.heap.size) [.slice cR1 (gLn (evnO u0 u1) (evnX u0)).length cc1, .slice cR2 (gLn (evnO u0 u1) (evnY u0 u1)).length cc2]) := Lib.hid (WB_1.out.below b)
  have Xg_1 : Hid (OwnR2 wd4 wd2.heap.size gR1 gR2 gg1 gg2 (gLn (evnO u0 u1) (evnX u0)) (gLn (evnO u0 u1) (evnY u0 u1))) := Lib.hid (Xg.out.below b)
  have GB : Hid (BlkL wd4 (wd3.heap.size) [.slice gR1 (gLn (evnO u0 u1) (evnX u0)).length gc1, .slice gR2 (gLn (evnO u0 u1) (evnY u0 u1)).length gc2]) := Lib.hid (by rw [hw4]; exact blkL_at wd3 #[.slice gR1 (gLn (evnO u0 u1) (evnX u0)).length gc1, .slice gR2 (gLn (evnO u0 u1) (evnY u0 u1)).length gc2] 47 rfl)
  clear b
  have WBy0 := fun o => ((WB_1.out.alloc o).2 0 _ rfl).1
  have WBy1 := fun o => ((WB_1.out.alloc o).2 1 _ rfl).1
  go_wp2_with fail
  rw [← hw4]
  clear hw4
  clear WBy0 WBy1
  clear Xc_2 WB_1 Xg
  obtain ⟨WBx0, WBx1⟩ := WB_2.out.two
  obtain ⟨GBx0, GBx1⟩ := GB.out.two
  go_wp2_with fail
  refine (l_eqRose _ _ _ _ _ _ _ _ (gLn (evnO u0 u1) (evnX u0)) (gLn (evnO u0 u1) (evnY u0 u1)) _ Xg_1.out.fl Xc_3.out.fl HF.out).mono ?_
  rintro e wd5 ⟨rfl, b⟩
  have B5 : Hid (Below w.heap.size w wd5) := Lib.hid (below_of B4.out B4.out.size b)
  have Z5 : Hid (wd4.heap.size ≤ wd5.heap.size) := Lib.hid b.size
  have Xc_4 : Hid (OwnR2 wd5 w.heap.size cR1 cR2 cg1 cg2 (gLn (evnO u0 u1) (evnX u0)) (gLn (evnO u0 u1) (evnY u0 u1))) := Lib.hid (Xc_3.out.below b)
  have WB_3 : Hid (BlkL wd5 (wd1.heap.size) [.slice cR1 (gLn (evnO u0 u1) (evnX u0)).length cc1, .slice cR2 (gLn (evnO u0 u1) (evnY u0 u1)).length cc2]) := Lib.hid (WB_2.out.below b)
  have Xg_2 : Hid (OwnR2 wd5 wd2.heap.size gR1 gR2 gg1 gg2 (gLn (evnO u0 u1) (evnX u0)) (gLn (evnO u0 u1) (evnY u0 u1))) := Lib.hid (Xg_1.out.below b)
  have GB_1 : Hid (BlkL wd5 (wd3.heap.size) [.slice gR1 (gLn (evnO u0 u1) (evnX u0)).length gc1, .slice gR2 (gLn (evnO u0 u1) (evnY u0 u1)).length gc2]) := Lib.hid (GB.out.below b)
  clear WBx0 WBx1 GBx0 GBx1
  clear Xc_3 WB_2 Xg_1 GB
  clear b
  obtain ⟨WBx0, WBx1⟩ := WB_3.out.two
  obtain ⟨GBx0, GBx1⟩ := GB_1.out.two
  go_wp2_with fail
  refine (l_markRose _ _ _ _ _ _ _ 1 (gLn (evnO u0 u1) (evnX u0)) (gLn (evnO u0 u1) (evnY u0 u1)) _ (Xg_2.out) (by have := HF.out; unfold FewS at this; omega) (by omega) _ rfl).mono ?_
  rintro e wd6 ⟨rfl, om, t⟩
  have B6 : Hid (Below w.heap.size w wd6) := Lib.hid (t.2.2.2 w B5.out (by intro b hh; have h1 := Xgbd.out.bd hh; have := Z1.out; have := Z2.out; have := Y2.out; have := Z3.out; have := Z4.out; have := Y4.out; have := Z5.out; omega))
  have Z6 : Hid (wd5.heap.size ≤ wd6.heap.size) := Lib.hid t.1
  have Xc_5 : Hid (OwnR2 wd6 w.heap.size cR1 cR2 cg1 cg2 (gLn (evnO u0 u1) (evnX u0)) (gLn (evnO u0 u1) (evnY u0 u1))) := Lib.hid (Xc_4.out.turnS t (by intro c hc hh; have h1 := Xgbd.out.bd hh; have h2 := Xcbd.out.bd hc; have := Z1.out; have := Z2.out; have := Y2.out; have := Z3.out; have := Z4.out; have := Y4.out; have := Z5.out; omega))
  have WB_4 : Hid (BlkL wd6 (wd1.heap.size) [.slice cR1 (gLn (evnO u0 u1) (evnX u0)).length cc1, .slice cR2 (gLn (evnO u0 u1) (evnY u0 u1)).length cc2]) := Lib.hid (WB_3.out.turnS t (by intro hh; have h1 := Xgbd.out.bd hh; have := Z1.out; have := Z2.out; have := Y2.out; have := Z3.out; have := Z4.out; have := Y4.out; have := Z5.out; omega))
  have GB_2 : Hid (BlkL wd6 (wd3.heap.size) [.slice gR1 (gLn (evnO u0 u1) (evnX u0)).length gc1, .slice gR2 (gLn (evnO u0 u1) (evnY u0 u1)).length gc2]) := Lib.hid (GB_1.out.turnS t (by intro hh; have h1 := Xgbd.out.bd hh; have := Z1.out; have := Z2.out; have := Y2.out; have := Z3.out; have := Z4.out; have := Y4.out; have := Z5.out; omega))
  have XM : Hid (OwnR2 wd6 wd2.heap.size gR1 gR2 gg1 gg2 (marks 1 (gLn (evnO u0 u1) (evnX u0)).length) (marks (1 + (gLn (evnO u0 u1) (evnX u0)).length) (gLn (evnO u0 u1) (evnY u0 u1)).length)) := Lib.hid (om)
  clear WBx0 WBx1 GBx0 GBx1
  clear Xc_4 WB_3 GB_1
  clear t om
  have hm : (0 : Int) ≤ ((1 : Nat) : Int) + ((gLn (evnO u0 u1) (evnX u0)).length : Int) + ((gLn (evnO u0 u1) (evnY u0 u1)).length : Int) := by omega
  obtain ⟨WBx0, WBx1⟩ := WB_4.out.two
  obtain ⟨GBx0, GBx1⟩ := GB_2.out.two
  go_wp2_with fail
  refine (l_heldRose _ _ _ _ _ _ _ 1 _ _ _ (XM.out) (by have := HF.out; unfold FewS at this; omega) (by omega) _ rfl).mono ?_
  rintro e wd7 ⟨rfl, b⟩
  have B7 : Hid (Below w.heap.size w wd7) := Lib.hid (below_of B6.out B6.out.size b)
  have Z7 : Hid (wd6.heap.size ≤ wd7.heap.size) := Lib.hid b.size
  have Xc_6 : Hid (OwnR2 wd7 w.heap.size cR1 cR2 cg1 cg2 (gLn (evnO u0 u1) (evnX u0)) (gLn (evnO u0 u1) (evnY u0 u1))) := Lib.hid (Xc_5.out.below b)
  have WB_5 : Hid (BlkL wd7 (wd1.heap.size) [.slice cR1 (gLn (evnO u0 u1) (evnX u0)).length cc1, .slice cR2 (gLn (evnO u0 u1) (evnY u0 u1)).length cc2]) := Lib.hid (WB_4.out.below b)
  have GB_3 : Hid (BlkL wd7 (wd3.heap.size) [.slice gR1 (gLn (evnO u0 u1) (evnX u0)).length gc1, .slice gR2 (gLn (evnO u0 u1) (evnY u0 u1)).length gc2]) := Lib.hid (GB_2.out.below b)
  have XM_1 : Hid (OwnR2 wd7 wd2.heap.size gR1 gR2 gg1 gg2 (marks 1 (gLn (evnO u0 u1) (evnX u0)).length) (marks (1 + (gLn (evnO u0 u1) (evnX u0)).length) (gLn (evnO u0 u1) (evnY u0 u1)).length)) := Lib.hid (XM.out.below b)
  clear WBx0 WBx1 GBx0 GBx1
  clear Xc_5 WB_4 GB_2 XM
  clear b
  obtain ⟨WBx0, WBx1⟩ := WB_5.out.two
  obtain ⟨GBx0, GBx1⟩ := GB_3.out.two
  go_wp2_with fail
  refine (i_EvenRose u0 u1 _).mono ?_
  rintro e wd8 ⟨hR1, hR2, hc1, hc2, hg1, hg2, rfl, ho, b⟩
  have B8 : Hid (Below w.heap.size w wd8) := Lib.hid (below_of B7.out B7.out.size b)
  have Z8 : Hid (wd7.heap.size ≤ wd8.heap.size) := Lib.hid b.size
  have Xc_7 : Hid (OwnR2 wd8 w.heap.size cR1 cR2 cg1 cg2 (gLn (evnO u0 u1) (evnX u0)) (gLn (evnO u0 u1) (evnY u0 u1))) := Lib.hid (Xc_6.out.below b)
  have WB_6 : Hid (BlkL wd8 (wd1.heap.size) [.slice cR1 (gLn (evnO u0 u1) (evnX u0)).length cc1, .slice cR2 (gLn (evnO u0 u1) (evnY u0 u1)).length cc2]) := Lib.hid (WB_5.out.below b)
  have GB_4 : Hid (BlkL wd8 (wd3.heap.size) [.slice gR1 (gLn (evnO u0 u1) (evnX u0)).length gc1, .slice gR2 (gLn (evnO u0 u1) (evnY u0 u1)).length gc2]) := Lib.hid (GB_3.out.below b)
  have XM_2 : Hid (OwnR2 wd8 wd2.heap.size gR1 gR2 gg1 gg2 (marks 1 (gLn (evnO u0 u1) (evnX u0)).length) (marks (1 + (gLn (evnO u0 u1) (evnX u0)).length) (gLn (evnO u0 u1) (evnY u0 u1)).length)) := Lib.hid (XM_1.out.below b)
  clear WBx0 WBx1 GBx0 GBx1
  clear Xc_6 WB_5 GB_3 XM_1
  have Xh : Hid (OwnR2 wd8 wd7.heap.size hR1 hR2 hg1 hg2 (gLn (evnO u0 u1) (evnX u0)) (gLn (evnO u0 u1) (evnY u0 u1))) := Lib.hid (ho)
  have Xhbd := Xh
  clear ho
  clear b
  obtain ⟨wd9, hw9⟩ : ∃ x, x = wd8.alloc (.cells #[.slice hR1 (gLn (evnO u0 u1) (evnX u0)).length hc1, .slice hR2 (gLn (evnO u0 u1) (evnY u0 u1)).length hc2] 47) := ⟨_, rfl⟩
  have b : Below wd8.heap.size wd8 wd9 := by rw [hw9]; exact (Below.refl _ _).alloc (Nat.le_refl _) _
  have Y9 : Hid (wd8.heap.size + 1 ≤ wd9.heap.size) := Lib.hid (by rw [hw9]; simp)
  have B9 : Hid (Below w.heap.size w wd9) := Lib.hid (below_of B8.out B8.out.size b)
  have Z9 : Hid (wd8.heap.size ≤ wd9.heap.size) := Lib.hid b.size
  have Xc_8 : Hid (OwnR2 wd9 w.heap.size cR1 cR2 cg1 cg2 (gLn (evnO u0 u1) (evnX u0)) (gLn (evnO u0 u1) (evnY u0 u1))) := Lib.hid (Xc_7.out.below b)
  have WB_7 : Hid (BlkL wd9 (wd1.heap.size) [.slice cR1 (gLn (evnO u0 u1) (evnX u0)).length cc1, .slice cR2 (gLn (evnO u0 u1) (evnY u0 u1)).length cc2]) := Lib.hid (WB_6.out.below b)
  have GB_5 : Hid (BlkL wd9 (wd3.heap.size) [.slice gR1 (gLn (evnO u0 u1) (evnX u0)).length gc1, .slice gR2 (gLn (evnO u0 u1) (evnY u0 u1)).length gc2]) := Lib.hid (GB_4.out.below b)
  have XM_3 : Hid (OwnR2 wd9 wd2.heap.size gR1 gR2 gg1 gg2 (marks 1 (gLn (evnO u0 u1) (evnX u0)).length) (marks (1 + (gLn (evnO u0 u1) (evnX u0)).length) (gLn (evnO u0 u1) (evnY u0 u1)).length)) := Lib.hid (XM_2.out.below b)
  have Xh_1 : Hid (OwnR2 wd9 wd7.heap.size hR1 hR2 hg1 hg2 (gLn (evnO u0 u1) (evnX u0)) (gLn (evnO u0 u1) (evnY u0 u1))) := Lib.hid (Xh.out.below b)
  have HB : Hid (BlkL wd9 (wd8.heap.size) [.slice hR1 (gLn (evnO u0 u1) (evnX u0)).length hc1, .slice hR2 (gLn (evnO u0 u1) (evnY u0 u1)).length hc2]) := Lib.hid (by rw [hw9]; exact blkL_at wd8 #[.slice hR1 (gLn (evnO u0 u1) (evnX u0)).length hc1, .slice hR2 (gLn (evnO u0 u1) (evnY u0 u1)).length hc2] 47 rfl)
  clear b
  have WBy0 := fun o => ((WB_6.out.alloc o).2 0 _ rfl).1
  have WBy1 := fun o => ((WB_6.out.alloc o).2 1 _ rfl).1
  have GBy0 := fun o => ((GB_4.out.alloc o).2 0 _ rfl).1
  have GBy1 := fun o => ((GB_4.out.alloc o).2 1 _ rfl).1
  go_wp2_with fail
  rw [← hw9]
  clear hw9
  clear WBy0 WBy1 GBy0 GBy1
  clear Xc_7 WB_6 GB_4 XM_2 Xh
  obtain ⟨WBx0, WBx1⟩ := WB_7.out.two
  obtain ⟨GBx0, GBx1⟩ := GB_5.out.two
  obtain ⟨HBx0, HBx1⟩ := HB.out.two
  go_wp2_with fail
  refine (l_eqRose _ _ _ _ _ _ _ _ (gLn (evnO u0 u1) (evnX u0)) (gLn (evnO u0 u1) (evnY u0 u1)) _ Xh_1.out.fl Xc_8.out.fl HF.out).mono ?_
  rintro e wd10 ⟨rfl, b⟩
  have B10 : Hid (Below w.heap.size w wd10) := Lib.hid (below_of B9.out B9.out.size b)
  have Z10 : Hid (wd9.heap.size ≤ wd10.heap.size) := Lib.hid b.size
  have Xc_9 : Hid (OwnR2 wd10 w.heap.size cR1 cR2 cg1 cg2 (gLn (evnO u0 u1) (evnX u0)) (gLn (evnO u0 u1) (evnY u0 u1))) := Lib.hid (Xc_8.out.below b)
  have WB_8 : Hid (BlkL wd10 (wd1.heap.size) [.slice cR1 (gLn (evnO u0 u1) (evnX u0)).length cc1, .slice cR2 (gLn (evnO u0 u1) (evnY u0 u1)).length cc2]) := Lib.hid (WB_7.out.below b)
  have GB_6 : Hid (BlkL wd10 (wd3.heap.size) [.slice gR1 (gLn (evnO u0 u1) (evnX u0)).length gc1, .slice gR2 (gLn (evnO u0 u1) (evnY u0 u1)).length gc2]) := Lib.hid (GB_5.out.below b)
  have XM_4 : Hid (OwnR2 wd10 wd2.heap.size gR1 gR2 gg1 gg2 (marks 1 (gLn (evnO u0 u1) (evnX u0)).length) (marks (1 + (gLn (evnO u0 u1) (evnX u0)).length) (gLn (evnO u0 u1) (evnY u0 u1)).length)) := Lib.hid (XM_3.out.below b)
  have Xh_2 : Hid (OwnR2 wd10 wd7.heap.size hR1 hR2 hg1 hg2 (gLn (evnO u0 u1) (evnX u0)) (gLn (evnO u0 u1) (evnY u0 u1))) := Lib.hid (Xh_1.out.below b)
  have HB_1 : Hid (BlkL wd10 (wd8.heap.size) [.slice hR1 (gLn (evnO u0 u1) (evnX u0)).length hc1, .slice hR2 (gLn (evnO u0 u1) (evnY u0 u1)).length hc2]) := Lib.hid (HB.out.below b)
  clear WBx0 WBx1 GBx0 GBx1 HBx0 HBx1
  clear Xc_8 WB_7 GB_5 XM_3 Xh_1 HB
  clear b
  obtain ⟨WBx0, WBx1⟩ := WB_8.out.two
  obtain ⟨GBx0, GBx1⟩ := GB_6.out.two
  obtain ⟨HBx0, HBx1⟩ := HB_1.out.two
  go_wp2_with fail
  refine (l_heldRose _ _ _ _ _ _ _ 1 _ _ _ (XM_4.out) (by have := HF.out; unfold FewS at this; omega) (by omega) _ rfl).mono ?_
  rintro e wd11 ⟨rfl, b⟩
  have B11 : Hid (Below w.heap.size w wd11) := Lib.hid (below_of B10.out B10.out.size b)
  have Z11 : Hid (wd10.heap.size ≤ wd11.heap.size) := Lib.hid b.size
  have Xc_10 : Hid (OwnR2 wd11 w.heap.size cR1 cR2 cg1 cg2 (gLn (evnO u0 u1) (evnX u0)) (gLn (evnO u0 u1) (evnY u0 u1))) := Lib.hid (Xc_9.out.below b)
  have WB_9 : Hid (BlkL wd11 (wd1.heap.size) [.slice cR1 (gLn (evnO u0 u1) (evnX u0)).length cc1, .slice cR2 (gLn (evnO u0 u1) (evnY u0 u1)).length cc2]) := Lib.hid (WB_8.out.below b)
  have GB_7 : Hid (BlkL wd11 (wd3.heap.size) [.slice gR1 (gLn (evnO u0 u1) (evnX u0)).length gc1, .slice gR2 (gLn (evnO u0 u1) (evnY u0 u1)).length gc2]) := Lib.hid (GB_6.out.below b)
  have XM_5 : Hid (OwnR2 wd11 wd2.heap.size gR1 gR2 gg1 gg2 (marks 1 (gLn (evnO u0 u1) (evnX u0)).length) (marks (1 + (gLn (evnO u0 u1) (evnX u0)).length) (gLn (evnO u0 u1) (evnY u0 u1)).length)) := Lib.hid (XM_4.out.below b)
  have Xh_3 : Hid (OwnR2 wd11 wd7.heap.size hR1 hR2 hg1 hg2 (gLn (evnO u0 u1) (evnX u0)) (gLn (evnO u0 u1) (evnY u0 u1))) := Lib.hid (Xh_2.out.below b)
  have HB_2 : Hid (BlkL wd11 (wd8.heap.size) [.slice hR1 (gLn (evnO u0 u1) (evnX u0)).length hc1, .slice hR2 (gLn (evnO u0 u1) (evnY u0 u1)).length hc2]) := Lib.hid (HB_1.out.below b)
  clear WBx0 WBx1 GBx0 GBx1 HBx0 HBx1
  clear Xc_9 WB_8 GB_6 XM_4 Xh_2 HB_1
  clear b
  obtain ⟨WBx0, WBx1⟩ := WB_9.out.two
  obtain ⟨GBx0, GBx1⟩ := GB_7.out.two
  obtain ⟨HBx0, HBx1⟩ := HB_2.out.two
  go_wp2
  go_ret
  exact ⟨rfl, B11.out⟩
end Go.Proofs.Ytleimkejjpggmaa
