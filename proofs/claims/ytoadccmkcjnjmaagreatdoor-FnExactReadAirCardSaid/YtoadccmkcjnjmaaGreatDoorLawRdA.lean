/- The law FnExactReadAir. No statement is proved here. -/
import Derived.Test.YtoadccmkcjnjmaaGreatDoorRdS
import Derived.Test.YtoadccmkcjnjmaaGreatDoorMarkR
namespace Go.Proofs.YtoadccmkcjnjmaaGreatDoor
open Go Go.RowKit
set_option maxHeartbeats 4000000 in
theorem l_eqAir (d h s k : Nat) (w : World) :
    Calls Tryz.prog 10 #[.agg #[.float .f32 d, .float .f32 h, .float .f32 s, .float .f32 k], .agg #[.float .f32 d, .float .f32 h, .float .f32 s, .float .f32 k]] w fun e w' => e = .returned (.bool true) ∧ Below w.heap.size w w' := by
  have HB : ∀ o1 o2, Hid (Below w.heap.size w ((w.alloc o1).alloc o2)) := fun _ _ => Lib.hid (((Below.refl _ _).alloc (Nat.le_refl _) _).alloc (by simp) _)
  go_enter Tryz.func10, Tryz.ntmps10
  go_wp2_with fail
  refine (sameFloat_yes _ _ _ (by rw [canon_wideV, canon_wideV])).mono ?_
  rintro e w' ⟨m0, rfl, rfl⟩
  go_wp2_with fail
  refine (sameFloat_yes _ _ _ (by rw [canon_wideV, canon_wideV])).mono ?_
  rintro e w' ⟨m1, rfl, rfl⟩
  go_wp2_with fail
  refine (sameFloat_yes _ _ _ (by rw [canon_wideV, canon_wideV])).mono ?_
  rintro e w' ⟨m2, rfl, rfl⟩
  go_wp2_with fail
  refine (sameFloat_yes _ _ _ (by rw [canon_wideV, canon_wideV])).mono ?_
  rintro e w' ⟨m3, rfl, rfl⟩
  go_wp2
  go_ret
  exact ⟨rfl, by repeat (first | exact (HB _ _).out | refine below_draws ?_ _)⟩
set_option maxHeartbeats 16000000 in
theorem law_FnExactReadAir (s0 : ByteArray) (w : World) (_hz0 : s0.size ≤ maxLen) (he : EV w) (ht : T64 w) (hm0 : ML w) (hv : ∃ pv, EMv pv w) :
    Calls Tryz.prog 3 #[.string s0] w fun e w' => e = .returned (.bool true) ∧ Below w.heap.size w w' := by
  obtain ⟨pv, hv⟩ := hv
  have HE := Lib.hid he
  have HT := Lib.hid ht
  have HM0 := Lib.hid hm0
  have HV := Lib.hid hv
  clear he ht hm0 hv
  by_cases hb0 : s0.size ≤ 1048576
  · have HZ0 := Lib.hid hb0
    have hbi0 : ¬ (1048576 : Int) < (s0.size : Int) := by omega
    clear hb0
    go_enter Tryz.func3, Tryz.ntmps3
    go_wp2_with fail
    refine (s_ReadAir s0 _ HZ0.out).mono ?_
    rintro e w1 ⟨rfl, b⟩
    have B1 := Lib.hid b
    clear b
    have HC := fun w2 (hb : Below w.heap.size w w2) => Lib.hid (i_ReadAir s0 pv w2 HZ0.out (HE.out.below hb) (HT.out.below hb) (HM0.out.below hb) (HV.out.below hb))
    generalize raV s0 0 = x0 at HC ⊢
    generalize raV s0 1 = x1 at HC ⊢
    generalize raV s0 2 = x2 at HC ⊢
    generalize raV s0 3 = x3 at HC ⊢
    generalize raO s0 = bb at HC ⊢
    clear HE HT HM0 HV
    have B2 : Hid (Below w.heap.size w (w1.alloc (.cells #[.float .f32 x0, .float .f32 x1, .float .f32 x2, .float .f32 x3] 24))) := Lib.hid (B1.out.alloc B1.out.size _)
    have K2 : Hid (BlkL (w1.alloc (.cells #[.float .f32 x0, .float .f32 x1, .float .f32 x2, .float .f32 x3] 24)) w1.heap.size [.float .f32 x0, .float .f32 x1, .float .f32 x2, .float .f32 x3]) := Lib.hid (blkL_at w1 #[.float .f32 x0, .float .f32 x1, .float .f32 x2, .float .f32 x3] _ rfl)
    go_wp2_with fail
    refine (HC _ B2.out).out.mono ?_
    rintro e w3 ⟨rfl, b⟩
    have B3 : Hid (Below w.heap.size w (w3.alloc (.cells #[.float .f32 x0, .float .f32 x1, .float .f32 x2, .float .f32 x3] 24))) := Lib.hid ((below_of B2.out B2.out.size b).alloc (below_of B2.out B2.out.size b).size _)
    have K3 : Hid (BlkL (w3.alloc (.cells #[.float .f32 x0, .float .f32 x1, .float .f32 x2, .float .f32 x3] 24)) w1.heap.size [.float .f32 x0, .float .f32 x1, .float .f32 x2, .float .f32 x3]) := Lib.hid ((K2.out.below b).below ((Below.refl _ _).alloc (Nat.le_refl _) _))
    have L3 : Hid (BlkL (w3.alloc (.cells #[.float .f32 x0, .float .f32 x1, .float .f32 x2, .float .f32 x3] 24)) w3.heap.size [.float .f32 x0, .float .f32 x1, .float .f32 x2, .float .f32 x3]) := Lib.hid (blkL_at w3 #[.float .f32 x0, .float .f32 x1, .float .f32 x2, .float .f32 x3] _ rfl)
    clear b K2 B2 HC
    obtain ⟨y0, y1, y2, y3⟩ := K3.out.four
    obtain ⟨z0, z1, z2, z3⟩ := L3.out.four
    go_upto_region 5 with fail
    obtain ⟨w4, hw4⟩ : ∃ z, z = w3.alloc (.cells #[.float .f32 x0, .float .f32 x1, .float .f32 x2, .float .f32 x3] 24) := ⟨_, rfl⟩
    rw [← hw4] at y0 y1 y2 y3 z0 z1 z2 z3 ⊢
    rw [← hw4] at B3
    clear hw4 K3 L3
    go_wp2_with fail
    refine (l_eqAir x0 x1 x2 x3 _).mono ?_
    rintro e w5 ⟨rfl, b⟩
    have B5 := Lib.hid (below_of B3.out B3.out.size b)
    clear b
    have hbb : (bb == bb) = true := by simp
    go_wp2
    go_ret
    exact ⟨rfl, B5.out⟩
  · have hbi0 : (1048576 : Int) < (s0.size : Int) := by omega
    clear HE HT HM0 HV
    go_enter Tryz.func3, Tryz.ntmps3
    go_wp2
    go_ret
    exact ⟨rfl, Below.refl _ _⟩
end Go.Proofs.YtoadccmkcjnjmaaGreatDoor
