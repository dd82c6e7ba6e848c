/- Drives: new ones, held ones, and those that are held no more; both sides. No statement is proved here. -/
import Derived.Test.YtmcfnkfcklcpnaaDrv
namespace Go.Proofs.Ytmcfnkfcklcpnaa
open Go Go.RowKit
def sel (b : Bool) (x : Nat) : Nat := bif b then x else 0
def selI (b : Bool) (x : Int) : Int := bif b then x else 0
theorem below_of_drewN {w w' : World} {n : Nat} (h : w' = w.drewN n) : Below w.heap.size w w' := by rw [h]; exact below_draws (Below.refl _ _) n
/-- the state that ReleaseDrive leaves -/
def relS (st : Int) (sp : Nat) : Int := bif decide (st = 4) then (bif (FloatKind.f32.format.order sp 0 == some .eq) then 0 else 3) else st
set_option maxHeartbeats 8000000 in
theorem i_onlyValidDrive (p0 p1 p2 p3 p4 p5 p6 p7 : Nat) (st : Int) (sp pi en : Nat) (w : World) :
    Calls Try.prog 55 #[.agg #[.float .f32 p0, .float .f32 p1, .float .f32 p2, .float .f32 p3, .float .f32 p4, .float .f32 p5, .float .f32 p6, .float .f32 p7, .int .i64 st, .float .f32 sp, .float .f32 pi, .float .f32 en]] w fun e w' => e = .returned (.tuple #[.agg #[.float .f32 (sel (driveV p0 p1 p2 p3 p4 p5 p6 p7 st sp pi en) p0), .float .f32 (sel (driveV p0 p1 p2 p3 p4 p5 p6 p7 st sp pi en) p1), .float .f32 (sel (driveV p0 p1 p2 p3 p4 p5 p6 p7 st sp pi en) p2), .float .f32 (sel (driveV p0 p1 p2 p3 p4 p5 p6 p7 st sp pi en) p3), .float .f32 (sel (driveV p0 p1 p2 p3 p4 p5 p6 p7 st sp pi en) p4), .float .f32 (sel (driveV p0 p1 p2 p3 p4 p5 p6 p7 st sp pi en) p5), .float .f32 (sel (driveV p0 p1 p2 p3 p4 p5 p6 p7 st sp pi en) p6), .float .f32 (sel (driveV p0 p1 p2 p3 p4 p5 p6 p7 st sp pi en) p7), .int .i64 (selI (driveV p0 p1 p2 p3 p4 p5 p6 p7 st sp pi en) st), .float .f32 (sel (driveV p0 p1 p2 p3 p4 p5 p6 p7 st sp pi en) sp), .float .f32 (sel (driveV p0 p1 p2 p3 p4 p5 p6 p7 st sp pi en) pi), .float .f32 (sel (driveV p0 p1 p2 p3 p4 p5 p6 p7 st sp pi en) en)], .bool (driveV p0 p1 p2 p3 p4 p5 p6 p7 st sp pi en)]) ∧ Below w.heap.size w w' := by
  have HB : ∀ o1 o2, Hid (Below w.heap.size w ((w.alloc o1).alloc o2)) := fun _ _ => Lib.hid (((Below.refl _ _).alloc (Nat.le_refl _) _).alloc (by simp) _)
  have K1 : ∀ o t, Hid (BlkL ((w.alloc (.cells #[.float .f32 p0, .float .f32 p1, .float .f32 p2, .float .f32 p3, .float .f32 p4, .float .f32 p5, .float .f32 p6, .float .f32 p7, .int .i64 st, .float .f32 sp, .float .f32 pi, .float .f32 en] t)).alloc o) w.heap.size [.float .f32 p0, .float .f32 p1, .float .f32 p2, .float .f32 p3, .float .f32 p4, .float .f32 p5, .float .f32 p6, .float .f32 p7, .int .i64 st, .float .f32 sp, .float .f32 pi, .float .f32 en]) := fun _ _ => Lib.hid ((blkL_at w #[.float .f32 p0, .float .f32 p1, .float .f32 p2, .float .f32 p3, .float .f32 p4, .float .f32 p5, .float .f32 p6, .float .f32 p7, .int .i64 st, .float .f32 sp, .float .f32 pi, .float .f32 en] _ rfl).alloc _)
  have K2 : ∀ o t, Hid (BlkL ((w.alloc o).alloc (.cells #[.float .f32 0, .float .f32 0, .float .f32 0, .float .f32 0, .float .f32 0, .float .f32 0, .float .f32 0, .float .f32 0, .int .i64 0, .float .f32 0, .float .f32 0, .float .f32 0] t)) (w.heap.size + 1) [.float .f32 0, .float .f32 0, .float .f32 0, .float .f32 0, .float .f32 0, .float .f32 0, .float .f32 0, .float .f32 0, .int .i64 0, .float .f32 0, .float .f32 0, .float .f32 0]) := fun _ _ => Lib.hid (blkL_at (w.alloc _) #[.float .f32 0, .float .f32 0, .float .f32 0, .float .f32 0, .float .f32 0, .float .f32 0, .float .f32 0, .float .f32 0, .int .i64 0, .float .f32 0, .float .f32 0, .float .f32 0] _ (by simp))
  have hb0 : w.heap.size ≤ w.heap.size := Nat.le_refl _
  have hb1 : w.heap.size ≤ w.heap.size + 1 := by omega
  go_enter Try.func55, Try.ntmps55
  go_wp2_with fail
  refine (i_ValidDrive p0 p1 p2 p3 p4 p5 p6 p7 st sp pi en _).mono ?_
  rintro e w1 ⟨rfl, b1⟩
  have L1 : Hid (BlkL w1 w.heap.size [.float .f32 p0, .float .f32 p1, .float .f32 p2, .float .f32 p3, .float .f32 p4, .float .f32 p5, .float .f32 p6, .float .f32 p7, .int .i64 st, .float .f32 sp, .float .f32 pi, .float .f32 en]) := Lib.hid ((K1 _ _).out.below b1)
  have L2 : Hid (BlkL w1 (w.heap.size + 1) [.float .f32 0, .float .f32 0, .float .f32 0, .float .f32 0, .float .f32 0, .float .f32 0, .float .f32 0, .float .f32 0, .int .i64 0, .float .f32 0, .float .f32 0, .float .f32 0]) := Lib.hid ((K2 _ _).out.below b1)
  have B1 : Hid (Below w.heap.size w w1) := Lib.hid (below_of (HB _ _).out (HB _ _).out.size b1)
  clear b1 K1 K2 HB
  obtain ⟨⟨k0, k1, k2, k3, k4, k5, k6, k7⟩, k8, k9, k10, k11⟩ := L1.out.c12
  obtain ⟨c0, f0⟩ := L2.out.2 0 _ rfl
  obtain ⟨c1, f1⟩ := L2.out.2 1 _ rfl
  obtain ⟨c2, f2⟩ := L2.out.2 2 _ rfl
  obtain ⟨c3, f3⟩ := L2.out.2 3 _ rfl
  obtain ⟨c4, f4⟩ := L2.out.2 4 _ rfl
  obtain ⟨c5, f5⟩ := L2.out.2 5 _ rfl
  obtain ⟨c6, f6⟩ := L2.out.2 6 _ rfl
  obtain ⟨c7, f7⟩ := L2.out.2 7 _ rfl
  obtain ⟨c8, f8⟩ := L2.out.2 8 _ rfl
  obtain ⟨c9, f9⟩ := L2.out.2 9 _ rfl
  obtain ⟨c10, f10⟩ := L2.out.2 10 _ rfl
  obtain ⟨c11, f11⟩ := L2.out.2 11 _ rfl
  cases va : driveV p0 p1 p2 p3 p4 p5 p6 p7 st sp pi en
  · go_wp2
    refine bodyPost_ret (v := .tuple #[.agg #[.float .f32 0, .float .f32 0, .float .f32 0, .float .f32 0, .float .f32 0, .float .f32 0, .float .f32 0, .float .f32 0, .int .i64 0, .float .f32 0, .float .f32 0, .float .f32 0], .bool false]) ?_ rfl ⟨?_, ?_⟩
    · simp [results, Try.results55, go_sem, c0, c1, c2, c3, c4, c5, c6, c7, c8, c9, c10, c11]
    · rw [va]; rfl
    · exact ((((((((((((B1.out).setCell (p := ⟨w.heap.size + 1, 0, none⟩) hb1 _).setCell (p := ⟨w.heap.size + 1, 1, none⟩) hb1 _).setCell (p := ⟨w.heap.size + 1, 2, none⟩) hb1 _).setCell (p := ⟨w.heap.size + 1, 3, none⟩) hb1 _).setCell (p := ⟨w.heap.size + 1, 4, none⟩) hb1 _).setCell (p := ⟨w.heap.size + 1, 5, none⟩) hb1 _).setCell (p := ⟨w.heap.size + 1, 6, none⟩) hb1 _).setCell (p := ⟨w.heap.size + 1, 7, none⟩) hb1 _).setCell (p := ⟨w.heap.size + 1, 8, none⟩) hb1 _).setCell (p := ⟨w.heap.size + 1, 9, none⟩) hb1 _).setCell (p := ⟨w.heap.size + 1, 10, none⟩) hb1 _).setCell (p := ⟨w.heap.size + 1, 11, none⟩) hb1 _
  · go_wp2
    refine bodyPost_ret (v := .tuple #[.agg #[.float .f32 p0, .float .f32 p1, .float .f32 p2, .float .f32 p3, .float .f32 p4, .float .f32 p5, .float .f32 p6, .float .f32 p7, .int .i64 st, .float .f32 sp, .float .f32 pi, .float .f32 en], .bool true]) ?_ rfl ⟨?_, ?_⟩
    · simp [results, Try.results55, go_sem, c0, c1, c2, c3, c4, c5, c6, c7, c8, c9, c10, c11]
    · rw [va]; rfl
    · exact ((((((((((((B1.out).setCell (p := ⟨w.heap.size + 1, 0, none⟩) hb1 _).setCell (p := ⟨w.heap.size + 1, 1, none⟩) hb1 _).setCell (p := ⟨w.heap.size + 1, 2, none⟩) hb1 _).setCell (p := ⟨w.heap.size + 1, 3, none⟩) hb1 _).setCell (p := ⟨w.heap.size + 1, 4, none⟩) hb1 _).setCell (p := ⟨w.heap.size + 1, 5, none⟩) hb1 _).setCell (p := ⟨w.heap.size + 1, 6, none⟩) hb1 _).setCell (p := ⟨w.heap.size + 1, 7, none⟩) hb1 _).setCell (p := ⟨w.heap.size + 1, 8, none⟩) hb1 _).setCell (p := ⟨w.heap.size + 1, 9, none⟩) hb1 _).setCell (p := ⟨w.heap.size + 1, 10, none⟩) hb1 _).setCell (p := ⟨w.heap.size + 1, 11, none⟩) hb1 _
set_option maxHeartbeats 8000000 in
theorem i_withState (p0 p1 p2 p3 p4 p5 p6 p7 : Nat) (st : Int) (sp pi en : Nat) (ss : Int) (w : World) :
    Calls Try.prog 57 #[.agg #[.float .f32 p0, .float .f32 p1, .float .f32 p2, .float .f32 p3, .float .f32 p4, .float .f32 p5, .float .f32 p6, .float .f32 p7, .int .i64 st, .float .f32 sp, .float .f32 pi, .float .f32 en], .int .i64 ss] w fun e w' => e = .returned (.tuple #[.agg #[.float .f32 (sel (driveV p0 p1 p2 p3 p4 p5 p6 p7 st sp pi en) p0), .float .f32 (sel (driveV p0 p1 p2 p3 p4 p5 p6 p7 st sp pi en) p1), .float .f32 (sel (driveV p0 p1 p2 p3 p4 p5 p6 p7 st sp pi en) p2), .float .f32 (sel (driveV p0 p1 p2 p3 p4 p5 p6 p7 st sp pi en) p3), .float .f32 (sel (driveV p0 p1 p2 p3 p4 p5 p6 p7 st sp pi en) p4), .float .f32 (sel (driveV p0 p1 p2 p3 p4 p5 p6 p7 st sp pi en) p5), .float .f32 (sel (driveV p0 p1 p2 p3 p4 p5 p6 p7 st sp pi en) p6), .float .f32 (sel (driveV p0 p1 p2 p3 p4 p5 p6 p7 st sp pi en) p7), .int .i64 (selI (driveV p0 p1 p2 p3 p4 p5 p6 p7 st sp pi en) ss), .float .f32 (sel (driveV p0 p1 p2 p3 p4 p5 p6 p7 st sp pi en) sp), .float .f32 (sel (driveV p0 p1 p2 p3 p4 p5 p6 p7 st sp pi en) pi), .float .f32 (sel (driveV p0 p1 p2 p3 p4 p5 p6 p7 st sp pi en) en)], .bool (driveV p0 p1 p2 p3 p4 p5 p6 p7 st sp pi en)]) ∧ Below w.heap.size w w' := by
  have HB : ∀ o1 o2, Hid (Below w.heap.size w ((w.alloc o1).alloc o2)) := fun _ _ => Lib.hid (((Below.refl _ _).alloc (Nat.le_refl _) _).alloc (by simp) _)
  have K1 : ∀ o t, Hid (BlkL ((w.alloc (.cells #[.float .f32 p0, .float .f32 p1, .float .f32 p2, .float .f32 p3, .float .f32 p4, .float .f32 p5, .float .f32 p6, .float .f32 p7, .int .i64 st, .float .f32 sp, .float .f32 pi, .float .f32 en] t)).alloc o) w.heap.size [.float .f32 p0, .float .f32 p1, .float .f32 p2, .float .f32 p3, .float .f32 p4, .float .f32 p5, .float .f32 p6, .float .f32 p7, .int .i64 st, .float .f32 sp, .float .f32 pi, .float .f32 en]) := fun _ _ => Lib.hid ((blkL_at w #[.float .f32 p0, .float .f32 p1, .float .f32 p2, .float .f32 p3, .float .f32 p4, .float .f32 p5, .float .f32 p6, .float .f32 p7, .int .i64 st, .float .f32 sp, .float .f32 pi, .float .f32 en] _ rfl).alloc _)
  have K2 : ∀ o t, Hid (BlkL ((w.alloc o).alloc (.cells #[.float .f32 0, .float .f32 0, .float .f32 0, .float .f32 0, .float .f32 0, .float .f32 0, .float .f32 0, .float .f32 0, .int .i64 0, .float .f32 0, .float .f32 0, .float .f32 0] t)) (w.heap.size + 1) [.float .f32 0, .float .f32 0, .float .f32 0, .float .f32 0, .float .f32 0, .float .f32 0, .float .f32 0, .float .f32 0, .int .i64 0, .float .f32 0, .float .f32 0, .float .f32 0]) := fun _ _ => Lib.hid (blkL_at (w.alloc _) #[.float .f32 0, .float .f32 0, .float .f32 0, .float .f32 0, .float .f32 0, .float .f32 0, .float .f32 0, .float .f32 0, .int .i64 0, .float .f32 0, .float .f32 0, .float .f32 0] _ (by simp))
  have hb0 : w.heap.size ≤ w.heap.size := Nat.le_refl _
  have hb1 : w.heap.size ≤ w.heap.size + 1 := by omega
  go_enter Try.func57, Try.ntmps57
  go_wp2_with fail
  refine (i_ValidDrive p0 p1 p2 p3 p4 p5 p6 p7 st sp pi en _).mono ?_
  rintro e w1 ⟨rfl, b1⟩
  have L1 : Hid (BlkL w1 w.heap.size [.float .f32 p0, .float .f32 p1, .float .f32 p2, .float .f32 p3, .float .f32 p4, .float .f32 p5, .float .f32 p6, .float .f32 p7, .int .i64 st, .float .f32 sp, .float .f32 pi, .float .f32 en]) := Lib.hid ((K1 _ _).out.below b1)
  have L2 : Hid (BlkL w1 (w.heap.size + 1) [.float .f32 0, .float .f32 0, .float .f32 0, .float .f32 0, .float .f32 0, .float .f32 0, .float .f32 0, .float .f32 0, .int .i64 0, .float .f32 0, .float .f32 0, .float .f32 0]) := Lib.hid ((K2 _ _).out.below b1)
  have B1 : Hid (Below w.heap.size w w1) := Lib.hid (below_of (HB _ _).out (HB _ _).out.size b1)
  clear b1 K1 K2 HB
  obtain ⟨⟨k0, k1, k2, k3, k4, k5, k6, k7⟩, k8, k9, k10, k11⟩ := L1.out.c12
  obtain ⟨c0, f0⟩ := L2.out.2 0 _ rfl
  obtain ⟨c1, f1⟩ := L2.out.2 1 _ rfl
  obtain ⟨c2, f2⟩ := L2.out.2 2 _ rfl
  obtain ⟨c3, f3⟩ := L2.out.2 3 _ rfl
  obtain ⟨c4, f4⟩ := L2.out.2 4 _ rfl
  obtain ⟨c5, f5⟩ := L2.out.2 5 _ rfl
  obtain ⟨c6, f6⟩ := L2.out.2 6 _ rfl
  obtain ⟨c7, f7⟩ := L2.out.2 7 _ rfl
  obtain ⟨c8, f8⟩ := L2.out.2 8 _ rfl
  obtain ⟨c9, f9⟩ := L2.out.2 9 _ rfl
  obtain ⟨c10, f10⟩ := L2.out.2 10 _ rfl
  obtain ⟨c11, f11⟩ := L2.out.2 11 _ rfl
  have z8 := (L1.out.2 8 _ rfl).2
  cases va : driveV p0 p1 p2 p3 p4 p5 p6 p7 st sp pi en
  · go_wp2
    refine bodyPost_ret (v := .tuple #[.agg #[.float .f32 0, .float .f32 0, .float .f32 0, .float .f32 0, .float .f32 0, .float .f32 0, .float .f32 0, .float .f32 0, .int .i64 0, .float .f32 0, .float .f32 0, .float .f32 0], .bool false]) ?_ rfl ⟨?_, ?_⟩
    · simp [results, Try.results57, go_sem, c0, c1, c2, c3, c4, c5, c6, c7, c8, c9, c10, c11]
    · rw [va]; rfl
    · exact ((((((((((((B1.out).setCell (p := ⟨w.heap.size + 1, 0, none⟩) hb1 _).setCell (p := ⟨w.heap.size + 1, 1, none⟩) hb1 _).setCell (p := ⟨w.heap.size + 1, 2, none⟩) hb1 _).setCell (p := ⟨w.heap.size + 1, 3, none⟩) hb1 _).setCell (p := ⟨w.heap.size + 1, 4, none⟩) hb1 _).setCell (p := ⟨w.heap.size + 1, 5, none⟩) hb1 _).setCell (p := ⟨w.heap.size + 1, 6, none⟩) hb1 _).setCell (p := ⟨w.heap.size + 1, 7, none⟩) hb1 _).setCell (p := ⟨w.heap.size + 1, 8, none⟩) hb1 _).setCell (p := ⟨w.heap.size + 1, 9, none⟩) hb1 _).setCell (p := ⟨w.heap.size + 1, 10, none⟩) hb1 _).setCell (p := ⟨w.heap.size + 1, 11, none⟩) hb1 _
  · go_wp2
    refine bodyPost_ret (v := .tuple #[.agg #[.float .f32 p0, .float .f32 p1, .float .f32 p2, .float .f32 p3, .float .f32 p4, .float .f32 p5, .float .f32 p6, .float .f32 p7, .int .i64 ss, .float .f32 sp, .float .f32 pi, .float .f32 en], .bool true]) ?_ rfl ⟨?_, ?_⟩
    · simp [results, Try.results57, go_sem, c0, c1, c2, c3, c4, c5, c6, c7, c8, c9, c10, c11]
    · rw [va]; rfl
    · exact ((((((((((((B1.out.setCell (p := ⟨w.heap.size, 8, none⟩) hb0 _).setCell (p := ⟨w.heap.size + 1, 0, none⟩) hb1 _).setCell (p := ⟨w.heap.size + 1, 1, none⟩) hb1 _).setCell (p := ⟨w.heap.size + 1, 2, none⟩) hb1 _).setCell (p := ⟨w.heap.size + 1, 3, none⟩) hb1 _).setCell (p := ⟨w.heap.size + 1, 4, none⟩) hb1 _).setCell (p := ⟨w.heap.size + 1, 5, none⟩) hb1 _).setCell (p := ⟨w.heap.size + 1, 6, none⟩) hb1 _).setCell (p := ⟨w.heap.size + 1, 7, none⟩) hb1 _).setCell (p := ⟨w.heap.size + 1, 8, none⟩) hb1 _).setCell (p := ⟨w.heap.size + 1, 9, none⟩) hb1 _).setCell (p := ⟨w.heap.size + 1, 10, none⟩) hb1 _).setCell (p := ⟨w.heap.size + 1, 11, none⟩) hb1 _
set_option maxHeartbeats 8000000 in
theorem i_HoldDrive (p0 p1 p2 p3 p4 p5 p6 p7 : Nat) (st : Int) (sp pi en : Nat) (w : World) :
    Calls Try.prog 29 #[.agg #[.float .f32 p0, .float .f32 p1, .float .f32 p2, .float .f32 p3, .float .f32 p4, .float .f32 p5, .float .f32 p6, .float .f32 p7, .int .i64 st, .float .f32 sp, .float .f32 pi, .float .f32 en]] w fun e w' => e = .returned (.tuple #[.agg #[.float .f32 (sel (driveV p0 p1 p2 p3 p4 p5 p6 p7 st sp pi en) p0), .float .f32 (sel (driveV p0 p1 p2 p3 p4 p5 p6 p7 st sp pi en) p1), .float .f32 (sel (driveV p0 p1 p2 p3 p4 p5 p6 p7 st sp pi en) p2), .float .f32 (sel (driveV p0 p1 p2 p3 p4 p5 p6 p7 st sp pi en) p3), .float .f32 (sel (driveV p0 p1 p2 p3 p4 p5 p6 p7 st sp pi en) p4), .float .f32 (sel (driveV p0 p1 p2 p3 p4 p5 p6 p7 st sp pi en) p5), .float .f32 (sel (driveV p0 p1 p2 p3 p4 p5 p6 p7 st sp pi en) p6), .float .f32 (sel (driveV p0 p1 p2 p3 p4 p5 p6 p7 st sp pi en) p7), .int .i64 (selI (driveV p0 p1 p2 p3 p4 p5 p6 p7 st sp pi en) 4), .float .f32 (sel (driveV p0 p1 p2 p3 p4 p5 p6 p7 st sp pi en) sp), .float .f32 (sel (driveV p0 p1 p2 p3 p4 p5 p6 p7 st sp pi en) pi), .float .f32 (sel (driveV p0 p1 p2 p3 p4 p5 p6 p7 st sp pi en) en)], .bool (driveV p0 p1 p2 p3 p4 p5 p6 p7 st sp pi en)]) ∧ Below w.heap.size w w' := by
  have HB : ∀ o1 o2, Hid (Below w.heap.size w ((w.alloc o1).alloc o2)) := fun _ _ => Lib.hid (((Below.refl _ _).alloc (Nat.le_refl _) _).alloc (by simp) _)
  have K1 : ∀ o t, Hid (BlkL ((w.alloc (.cells #[.float .f32 p0, .float .f32 p1, .float .f32 p2, .float .f32 p3, .float .f32 p4, .float .f32 p5, .float .f32 p6, .float .f32 p7, .int .i64 st, .float .f32 sp, .float .f32 pi, .float .f32 en] t)).alloc o) w.heap.size [.float .f32 p0, .float .f32 p1, .float .f32 p2, .float .f32 p3, .float .f32 p4, .float .f32 p5, .float .f32 p6, .float .f32 p7, .int .i64 st, .float .f32 sp, .float .f32 pi, .float .f32 en]) := fun _ _ => Lib.hid ((blkL_at w #[.float .f32 p0, .float .f32 p1, .float .f32 p2, .float .f32 p3, .float .f32 p4, .float .f32 p5, .float .f32 p6, .float .f32 p7, .int .i64 st, .float .f32 sp, .float .f32 pi, .float .f32 en] _ rfl).alloc _)
  have K2 : ∀ o t, Hid (BlkL ((w.alloc o).alloc (.cells #[.float .f32 0, .float .f32 0, .float .f32 0, .float .f32 0, .float .f32 0, .float .f32 0, .float .f32 0, .float .f32 0, .int .i64 0, .float .f32 0, .float .f32 0, .float .f32 0] t)) (w.heap.size + 1) [.float .f32 0, .float .f32 0, .float .f32 0, .float .f32 0, .float .f32 0, .float .f32 0, .float .f32 0, .float .f32 0, .int .i64 0, .float .f32 0, .float .f32 0, .float .f32 0]) := fun _ _ => Lib.hid (blkL_at (w.alloc _) #[.float .f32 0, .float .f32 0, .float .f32 0, .float .f32 0, .float .f32 0, .float .f32 0, .float .f32 0, .float .f32 0, .int .i64 0, .float .f32 0, .float .f32 0, .float .f32 0] _ (by simp))
  have hb0 : w.heap.size ≤ w.heap.size := Nat.le_refl _
  have hb1 : w.heap.size ≤ w.heap.size + 1 := by omega
  go_enter Try.func29, Try.ntmps29
  go_wp2_with fail
  refine (i_withState p0 p1 p2 p3 p4 p5 p6 p7 st sp pi en 4 _).mono ?_
  rintro e w1 ⟨rfl, b1⟩
  have L1 : Hid (BlkL w1 w.heap.size [.float .f32 p0, .float .f32 p1, .float .f32 p2, .float .f32 p3, .float .f32 p4, .float .f32 p5, .float .f32 p6, .float .f32 p7, .int .i64 st, .float .f32 sp, .float .f32 pi, .float .f32 en]) := Lib.hid ((K1 _ _).out.below b1)
  have L2 : Hid (BlkL w1 (w.heap.size + 1) [.float .f32 0, .float .f32 0, .float .f32 0, .float .f32 0, .float .f32 0, .float .f32 0, .float .f32 0, .float .f32 0, .int .i64 0, .float .f32 0, .float .f32 0, .float .f32 0]) := Lib.hid ((K2 _ _).out.below b1)
  have B1 : Hid (Below w.heap.size w w1) := Lib.hid (below_of (HB _ _).out (HB _ _).out.size b1)
  clear b1 K1 K2 HB
  obtain ⟨⟨k0, k1, k2, k3, k4, k5, k6, k7⟩, k8, k9, k10, k11⟩ := L1.out.c12
  obtain ⟨c0, f0⟩ := L2.out.2 0 _ rfl
  obtain ⟨c1, f1⟩ := L2.out.2 1 _ rfl
  obtain ⟨c2, f2⟩ := L2.out.2 2 _ rfl
  obtain ⟨c3, f3⟩ := L2.out.2 3 _ rfl
  obtain ⟨c4, f4⟩ := L2.out.2 4 _ rfl
  obtain ⟨c5, f5⟩ := L2.out.2 5 _ rfl
  obtain ⟨c6, f6⟩ := L2.out.2 6 _ rfl
  obtain ⟨c7, f7⟩ := L2.out.2 7 _ rfl
  obtain ⟨c8, f8⟩ := L2.out.2 8 _ rfl
  obtain ⟨c9, f9⟩ := L2.out.2 9 _ rfl
  obtain ⟨c10, f10⟩ := L2.out.2 10 _ rfl
  obtain ⟨c11, f11⟩ := L2.out.2 11 _ rfl
  go_wp2
  refine bodyPost_ret (v := .tuple #[.agg #[.float .f32 (sel (driveV p0 p1 p2 p3 p4 p5 p6 p7 st sp pi en) p0), .float .f32 (sel (driveV p0 p1 p2 p3 p4 p5 p6 p7 st sp pi en) p1), .float .f32 (sel (driveV p0 p1 p2 p3 p4 p5 p6 p7 st sp pi en) p2), .float .f32 (sel (driveV p0 p1 p2 p3 p4 p5 p6 p7 st sp pi en) p3), .float .f32 (sel (driveV p0 p1 p2 p3 p4 p5 p6 p7 st sp pi en) p4), .float .f32 (sel (driveV p0 p1 p2 p3 p4 p5 p6 p7 st sp pi en) p5), .float .f32 (sel (driveV p0 p1 p2 p3 p4 p5 p6 p7 st sp pi en) p6), .float .f32 (sel (driveV p0 p1 p2 p3 p4 p5 p6 p7 st sp pi en) p7), .int .i64 (selI (driveV p0 p1 p2 p3 p4 p5 p6 p7 st sp pi en) 4), .float .f32 (sel (driveV p0 p1 p2 p3 p4 p5 p6 p7 st sp pi en) sp), .float .f32 (sel (driveV p0 p1 p2 p3 p4 p5 p6 p7 st sp pi en) pi), .float .f32 (sel (driveV p0 p1 p2 p3 p4 p5 p6 p7 st sp pi en) en)], .bool (driveV p0 p1 p2 p3 p4 p5 p6 p7 st sp pi en)]) ?_ rfl ⟨?_, ?_⟩
  · simp [results, Try.results29, go_sem, c0, c1, c2, c3, c4, c5, c6, c7, c8, c9, c10, c11]
  · rfl
  · exact ((((((((((((B1.out).setCell (p := ⟨w.heap.size + 1, 0, none⟩) hb1 _).setCell (p := ⟨w.heap.size + 1, 1, none⟩) hb1 _).setCell (p := ⟨w.heap.size + 1, 2, none⟩) hb1 _).setCell (p := ⟨w.heap.size + 1, 3, none⟩) hb1 _).setCell (p := ⟨w.heap.size + 1, 4, none⟩) hb1 _).setCell (p := ⟨w.heap.size + 1, 5, none⟩) hb1 _).setCell (p := ⟨w.heap.size + 1, 6, none⟩) hb1 _).setCell (p := ⟨w.heap.size + 1, 7, none⟩) hb1 _).setCell (p := ⟨w.heap.size + 1, 8, none⟩) hb1 _).setCell (p := ⟨w.heap.size + 1, 9, none⟩) hb1 _).setCell (p := ⟨w.heap.size + 1, 10, none⟩) hb1 _).setCell (p := ⟨w.heap.size + 1, 11, none⟩) hb1 _
set_option maxHeartbeats 8000000 in
theorem s_HoldDrive (p0 p1 p2 p3 p4 p5 p6 p7 : Nat) (st : Int) (sp pi en : Nat) (w : World) :
    Calls Try.prog 28 #[.agg #[.float .f32 p0, .float .f32 p1, .float .f32 p2, .float .f32 p3, .float .f32 p4, .float .f32 p5, .float .f32 p6, .float .f32 p7, .int .i64 st, .float .f32 sp, .float .f32 pi, .float .f32 en]] w fun e w' => e = .returned (.tuple #[.agg #[.float .f32 (sel (driveV p0 p1 p2 p3 p4 p5 p6 p7 st sp pi en) p0), .float .f32 (sel (driveV p0 p1 p2 p3 p4 p5 p6 p7 st sp pi en) p1), .float .f32 (sel (driveV p0 p1 p2 p3 p4 p5 p6 p7 st sp pi en) p2), .float .f32 (sel (driveV p0 p1 p2 p3 p4 p5 p6 p7 st sp pi en) p3), .float .f32 (sel (driveV p0 p1 p2 p3 p4 p5 p6 p7 st sp pi en) p4), .float .f32 (sel (driveV p0 p1 p2 p3 p4 p5 p6 p7 st sp pi en) p5), .float .f32 (sel (driveV p0 p1 p2 p3 p4 p5 p6 p7 st sp pi en) p6), .float .f32 (sel (driveV p0 p1 p2 p3 p4 p5 p6 p7 st sp pi en) p7), .int .i64 (selI (driveV p0 p1 p2 p3 p4 p5 p6 p7 st sp pi en) 4), .float .f32 (sel (driveV p0 p1 p2 p3 p4 p5 p6 p7 st sp pi en) sp), .float .f32 (sel (driveV p0 p1 p2 p3 p4 p5 p6 p7 st sp pi en) pi), .float .f32 (sel (driveV p0 p1 p2 p3 p4 p5 p6 p7 st sp pi en) en)], .bool (driveV p0 p1 p2 p3 p4 p5 p6 p7 st sp pi en)]) ∧ Below w.heap.size w w' := by
  have HB : ∀ o1 o2, Hid (Below w.heap.size w ((w.alloc o1).alloc o2)) := fun _ _ => Lib.hid (((Below.refl _ _).alloc (Nat.le_refl _) _).alloc (by simp) _)
  have K1 : ∀ o t, Hid (BlkL ((w.alloc (.cells #[.float .f32 p0, .float .f32 p1, .float .f32 p2, .float .f32 p3, .float .f32 p4, .float .f32 p5, .float .f32 p6, .float .f32 p7, .int .i64 st, .float .f32 sp, .float .f32 pi, .float .f32 en] t)).alloc o) w.heap.size [.float .f32 p0, .float .f32 p1, .float .f32 p2, .float .f32 p3, .float .f32 p4, .float .f32 p5, .float .f32 p6, .float .f32 p7, .int .i64 st, .float .f32 sp, .float .f32 pi, .float .f32 en]) := fun _ _ => Lib.hid ((blkL_at w #[.float .f32 p0, .float .f32 p1, .float .f32 p2, .float .f32 p3, .float .f32 p4, .float .f32 p5, .float .f32 p6, .float .f32 p7, .int .i64 st, .float .f32 sp, .float .f32 pi, .float .f32 en] _ rfl).alloc _)
  have K2 : ∀ o t, Hid (BlkL ((w.alloc o).alloc (.cells #[.float .f32 0, .float .f32 0, .float .f32 0, .float .f32 0, .float .f32 0, .float .f32 0, .float .f32 0, .float .f32 0, .int .i64 0, .float .f32 0, .float .f32 0, .float .f32 0] t)) (w.heap.size + 1) [.float .f32 0, .float .f32 0, .float .f32 0, .float .f32 0, .float .f32 0, .float .f32 0, .float .f32 0, .float .f32 0, .int .i64 0, .float .f32 0, .float .f32 0, .float .f32 0]) := fun _ _ => Lib.hid (blkL_at (w.alloc _) #[.float .f32 0, .float .f32 0, .float .f32 0, .float .f32 0, .float .f32 0, .float .f32 0, .float .f32 0, .float .f32 0, .int .i64 0, .float .f32 0, .float .f32 0, .float .f32 0] _ (by simp))
  have hb0 : w.heap.size ≤ w.heap.size := Nat.le_refl _
  have hb1 : w.heap.size ≤ w.heap.size + 1 := by omega
  go_enter Try.func28, Try.ntmps28
  go_wp2_with fail
  refine (s_l05Is p0 p1 p2 p3 p4 p5 p6 p7 st sp pi en _ _ (K1 _ _).out.c12).mono ?_
  rintro e w1 ⟨n, rfl, hw⟩
  have b1 := below_of_drewN hw
  clear hw
  have L1 : Hid (BlkL w1 w.heap.size [.float .f32 p0, .float .f32 p1, .float .f32 p2, .float .f32 p3, .float .f32 p4, .float .f32 p5, .float .f32 p6, .float .f32 p7, .int .i64 st, .float .f32 sp, .float .f32 pi, .float .f32 en]) := Lib.hid ((K1 _ _).out.below b1)
  have L2 : Hid (BlkL w1 (w.heap.size + 1) [.float .f32 0, .float .f32 0, .float .f32 0, .float .f32 0, .float .f32 0, .float .f32 0, .float .f32 0, .float .f32 0, .int .i64 0, .float .f32 0, .float .f32 0, .float .f32 0]) := Lib.hid ((K2 _ _).out.below b1)
  have B1 : Hid (Below w.heap.size w w1) := Lib.hid (below_of (HB _ _).out (HB _ _).out.size b1)
  clear b1 K1 K2 HB
  obtain ⟨⟨k0, k1, k2, k3, k4, k5, k6, k7⟩, k8, k9, k10, k11⟩ := L1.out.c12
  obtain ⟨c0, f0⟩ := L2.out.2 0 _ rfl
  obtain ⟨c1, f1⟩ := L2.out.2 1 _ rfl
  obtain ⟨c2, f2⟩ := L2.out.2 2 _ rfl
  obtain ⟨c3, f3⟩ := L2.out.2 3 _ rfl
  obtain ⟨c4, f4⟩ := L2.out.2 4 _ rfl
  obtain ⟨c5, f5⟩ := L2.out.2 5 _ rfl
  obtain ⟨c6, f6⟩ := L2.out.2 6 _ rfl
  obtain ⟨c7, f7⟩ := L2.out.2 7 _ rfl
  obtain ⟨c8, f8⟩ := L2.out.2 8 _ rfl
  obtain ⟨c9, f9⟩ := L2.out.2 9 _ rfl
  obtain ⟨c10, f10⟩ := L2.out.2 10 _ rfl
  obtain ⟨c11, f11⟩ := L2.out.2 11 _ rfl
  have z8 := (L1.out.2 8 _ rfl).2
  cases va : driveV p0 p1 p2 p3 p4 p5 p6 p7 st sp pi en
  · go_wp2
    refine bodyPost_ret (v := .tuple #[.agg #[.float .f32 0, .float .f32 0, .float .f32 0, .float .f32 0, .float .f32 0, .float .f32 0, .float .f32 0, .float .f32 0, .int .i64 0, .float .f32 0, .float .f32 0, .float .f32 0], .bool false]) ?_ rfl ⟨?_, ?_⟩
    · simp [results, Try.results28, go_sem, c0, c1, c2, c3, c4, c5, c6, c7, c8, c9, c10, c11]
    · rw [va]; rfl
    · exact ((((((((((((B1.out).setCell (p := ⟨w.heap.size + 1, 0, none⟩) hb1 _).setCell (p := ⟨w.heap.size + 1, 1, none⟩) hb1 _).setCell (p := ⟨w.heap.size + 1, 2, none⟩) hb1 _).setCell (p := ⟨w.heap.size + 1, 3, none⟩) hb1 _).setCell (p := ⟨w.heap.size + 1, 4, none⟩) hb1 _).setCell (p := ⟨w.heap.size + 1, 5, none⟩) hb1 _).setCell (p := ⟨w.heap.size + 1, 6, none⟩) hb1 _).setCell (p := ⟨w.heap.size + 1, 7, none⟩) hb1 _).setCell (p := ⟨w.heap.size + 1, 8, none⟩) hb1 _).setCell (p := ⟨w.heap.size + 1, 9, none⟩) hb1 _).setCell (p := ⟨w.heap.size + 1, 10, none⟩) hb1 _).setCell (p := ⟨w.heap.size + 1, 11, none⟩) hb1 _
  · go_wp2
    refine bodyPost_ret (v := .tuple #[.agg #[.float .f32 p0, .float .f32 p1, .float .f32 p2, .float .f32 p3, .float .f32 p4, .float .f32 p5, .float .f32 p6, .float .f32 p7, .int .i64 4, .float .f32 sp, .float .f32 pi, .float .f32 en], .bool true]) ?_ rfl ⟨?_, ?_⟩
    · simp [results, Try.results28, go_sem, c0, c1, c2, c3, c4, c5, c6, c7, c8, c9, c10, c11]
    · rw [va]; rfl
    · exact ((((((((((((B1.out.setCell (p := ⟨w.heap.size, 8, none⟩) hb0 _).setCell (p := ⟨w.heap.size + 1, 0, none⟩) hb1 _).setCell (p := ⟨w.heap.size + 1, 1, none⟩) hb1 _).setCell (p := ⟨w.heap.size + 1, 2, none⟩) hb1 _).setCell (p := ⟨w.heap.size + 1, 3, none⟩) hb1 _).setCell (p := ⟨w.heap.size + 1, 4, none⟩) hb1 _).setCell (p := ⟨w.heap.size + 1, 5, none⟩) hb1 _).setCell (p := ⟨w.heap.size + 1, 6, none⟩) hb1 _).setCell (p := ⟨w.heap.size + 1, 7, none⟩) hb1 _).setCell (p := ⟨w.heap.size + 1, 8, none⟩) hb1 _).setCell (p := ⟨w.heap.size + 1, 9, none⟩) hb1 _).setCell (p := ⟨w.heap.size + 1, 10, none⟩) hb1 _).setCell (p := ⟨w.heap.size + 1, 11, none⟩) hb1 _
set_option maxHeartbeats 8000000 in
theorem i_ReleaseDrive (p0 p1 p2 p3 p4 p5 p6 p7 : Nat) (st : Int) (sp pi en : Nat) (w : World) :
    Calls Try.prog 31 #[.agg #[.float .f32 p0, .float .f32 p1, .float .f32 p2, .float .f32 p3, .float .f32 p4, .float .f32 p5, .float .f32 p6, .float .f32 p7, .int .i64 st, .float .f32 sp, .float .f32 pi, .float .f32 en]] w fun e w' => e = .returned (.tuple #[.agg #[.float .f32 (sel (driveV p0 p1 p2 p3 p4 p5 p6 p7 st sp pi en) p0), .float .f32 (sel (driveV p0 p1 p2 p3 p4 p5 p6 p7 st sp pi en) p1), .float .f32 (sel (driveV p0 p1 p2 p3 p4 p5 p6 p7 st sp pi en) p2), .float .f32 (sel (driveV p0 p1 p2 p3 p4 p5 p6 p7 st sp pi en) p3), .float .f32 (sel (driveV p0 p1 p2 p3 p4 p5 p6 p7 st sp pi en) p4), .float .f32 (sel (driveV p0 p1 p2 p3 p4 p5 p6 p7 st sp pi en) p5), .float .f32 (sel (driveV p0 p1 p2 p3 p4 p5 p6 p7 st sp pi en) p6), .float .f32 (sel (driveV p0 p1 p2 p3 p4 p5 p6 p7 st sp pi en) p7), .int .i64 (selI (driveV p0 p1 p2 p3 p4 p5 p6 p7 st sp pi en) (relS st sp)), .float .f32 (sel (driveV p0 p1 p2 p3 p4 p5 p6 p7 st sp pi en) sp), .float .f32 (sel (driveV p0 p1 p2 p3 p4 p5 p6 p7 st sp pi en) pi), .float .f32 (sel (driveV p0 p1 p2 p3 p4 p5 p6 p7 st sp pi en) en)], .bool (driveV p0 p1 p2 p3 p4 p5 p6 p7 st sp pi en)]) ∧ Below w.heap.size w w' := by
  have HB : ∀ o1 o2, Hid (Below w.heap.size w ((w.alloc o1).alloc o2)) := fun _ _ => Lib.hid (((Below.refl _ _).alloc (Nat.le_refl _) _).alloc (by simp) _)
  have K1 : ∀ o t, Hid (BlkL ((w.alloc (.cells #[.float .f32 p0, .float .f32 p1, .float .f32 p2, .float .f32 p3, .float .f32 p4, .float .f32 p5, .float .f32 p6, .float .f32 p7, .int .i64 st, .float .f32 sp, .float .f32 pi, .float .f32 en] t)).alloc o) w.heap.size [.float .f32 p0, .float .f32 p1, .float .f32 p2, .float .f32 p3, .float .f32 p4, .float .f32 p5, .float .f32 p6, .float .f32 p7, .int .i64 st, .float .f32 sp, .float .f32 pi, .float .f32 en]) := fun _ _ => Lib.hid ((blkL_at w #[.float .f32 p0, .float .f32 p1, .float .f32 p2, .float .f32 p3, .float .f32 p4, .float .f32 p5, .float .f32 p6, .float .f32 p7, .int .i64 st, .float .f32 sp, .float .f32 pi, .float .f32 en] _ rfl).alloc _)
  have K2 : ∀ o t, Hid (BlkL ((w.alloc o).alloc (.cells #[.float .f32 0, .float .f32 0, .float .f32 0, .float .f32 0, .float .f32 0, .float .f32 0, .float .f32 0, .float .f32 0, .int .i64 0, .float .f32 0, .float .f32 0, .float .f32 0] t)) (w.heap.size + 1) [.float .f32 0, .float .f32 0, .float .f32 0, .float .f32 0, .float .f32 0, .float .f32 0, .float .f32 0, .float .f32 0, .int .i64 0, .float .f32 0, .float .f32 0, .float .f32 0]) := fun _ _ => Lib.hid (blkL_at (w.alloc _) #[.float .f32 0, .float .f32 0, .float .f32 0, .float .f32 0, .float .f32 0, .float .f32 0, .float .f32 0, .float .f32 0, .int .i64 0, .float .f32 0, .float .f32 0, .float .f32 0] _ (by simp))
  have hb0 : w.heap.size ≤ w.heap.size := Nat.le_refl _
  have hb1 : w.heap.size ≤ w.heap.size + 1 := by omega
  by_cases hs : st = 4
  · have e1 : (st != 4) = false := by subst hs; rfl
    cases q : (FloatKind.f32.format.order sp 0 == some .eq)
    · have HR : Hid (relS st sp = 3) := Lib.hid (by unfold relS; rw [decide_eq_true hs, q]; rfl)
      rw [HR.out]
      clear hs
      go_enter Try.func31, Try.ntmps31
      go_wp2_with fail
      refine (i_withState p0 p1 p2 p3 p4 p5 p6 p7 st sp pi en 3 _).mono ?_
      rintro e w1 ⟨rfl, b1⟩
      have L1 : Hid (BlkL w1 w.heap.size [.float .f32 p0, .float .f32 p1, .float .f32 p2, .float .f32 p3, .float .f32 p4, .float .f32 p5, .float .f32 p6, .float .f32 p7, .int .i64 st, .float .f32 sp, .float .f32 pi, .float .f32 en]) := Lib.hid ((K1 _ _).out.below b1)
      have L2 : Hid (BlkL w1 (w.heap.size + 1) [.float .f32 0, .float .f32 0, .float .f32 0, .float .f32 0, .float .f32 0, .float .f32 0, .float .f32 0, .float .f32 0, .int .i64 0, .float .f32 0, .float .f32 0, .float .f32 0]) := Lib.hid ((K2 _ _).out.below b1)
      have B1 : Hid (Below w.heap.size w w1) := Lib.hid (below_of (HB _ _).out (HB _ _).out.size b1)
      clear b1 K1 K2 HB
      obtain ⟨⟨k0, k1, k2, k3, k4, k5, k6, k7⟩, k8, k9, k10, k11⟩ := L1.out.c12
      obtain ⟨c0, f0⟩ := L2.out.2 0 _ rfl
      obtain ⟨c1, f1⟩ := L2.out.2 1 _ rfl
      obtain ⟨c2, f2⟩ := L2.out.2 2 _ rfl
      obtain ⟨c3, f3⟩ := L2.out.2 3 _ rfl
      obtain ⟨c4, f4⟩ := L2.out.2 4 _ rfl
      obtain ⟨c5, f5⟩ := L2.out.2 5 _ rfl
      obtain ⟨c6, f6⟩ := L2.out.2 6 _ rfl
      obtain ⟨c7, f7⟩ := L2.out.2 7 _ rfl
      obtain ⟨c8, f8⟩ := L2.out.2 8 _ rfl
      obtain ⟨c9, f9⟩ := L2.out.2 9 _ rfl
      obtain ⟨c10, f10⟩ := L2.out.2 10 _ rfl
      obtain ⟨c11, f11⟩ := L2.out.2 11 _ rfl
      go_wp2
      refine bodyPost_ret (v := .tuple #[.agg #[.float .f32 (sel (driveV p0 p1 p2 p3 p4 p5 p6 p7 st sp pi en) p0), .float .f32 (sel (driveV p0 p1 p2 p3 p4 p5 p6 p7 st sp pi en) p1), .float .f32 (sel (driveV p0 p1 p2 p3 p4 p5 p6 p7 st sp pi en) p2), .float .f32 (sel (driveV p0 p1 p2 p3 p4 p5 p6 p7 st sp pi en) p3), .float .f32 (sel (driveV p0 p1 p2 p3 p4 p5 p6 p7 st sp pi en) p4), .float .f32 (sel (driveV p0 p1 p2 p3 p4 p5 p6 p7 st sp pi en) p5), .float .f32 (sel (driveV p0 p1 p2 p3 p4 p5 p6 p7 st sp pi en) p6), .float .f32 (sel (driveV p0 p1 p2 p3 p4 p5 p6 p7 st sp pi en) p7), .int .i64 (selI (driveV p0 p1 p2 p3 p4 p5 p6 p7 st sp pi en) 3), .float .f32 (sel (driveV p0 p1 p2 p3 p4 p5 p6 p7 st sp pi en) sp), .float .f32 (sel (driveV p0 p1 p2 p3 p4 p5 p6 p7 st sp pi en) pi), .float .f32 (sel (driveV p0 p1 p2 p3 p4 p5 p6 p7 st sp pi en) en)], .bool (driveV p0 p1 p2 p3 p4 p5 p6 p7 st sp pi en)]) ?_ rfl ⟨?_, ?_⟩
      · simp [results, Try.results31, go_sem, c0, c1, c2, c3, c4, c5, c6, c7, c8, c9, c10, c11]
      · rfl
      · exact ((((((((((((B1.out).setCell (p := ⟨w.heap.size + 1, 0, none⟩) hb1 _).setCell (p := ⟨w.heap.size + 1, 1, none⟩) hb1 _).setCell (p := ⟨w.heap.size + 1, 2, none⟩) hb1 _).setCell (p := ⟨w.heap.size + 1, 3, none⟩) hb1 _).setCell (p := ⟨w.heap.size + 1, 4, none⟩) hb1 _).setCell (p := ⟨w.heap.size + 1, 5, none⟩) hb1 _).setCell (p := ⟨w.heap.size + 1, 6, none⟩) hb1 _).setCell (p := ⟨w.heap.size + 1, 7, none⟩) hb1 _).setCell (p := ⟨w.heap.size + 1, 8, none⟩) hb1 _).setCell (p := ⟨w.heap.size + 1, 9, none⟩) hb1 _).setCell (p := ⟨w.heap.size + 1, 10, none⟩) hb1 _).setCell (p := ⟨w.heap.size + 1, 11, none⟩) hb1 _
    · have HR : Hid (relS st sp = 0) := Lib.hid (by unfold relS; rw [decide_eq_true hs, q]; rfl)
      rw [HR.out]
      clear hs
      go_enter Try.func31, Try.ntmps31
      go_wp2_with fail
      refine (i_withState p0 p1 p2 p3 p4 p5 p6 p7 st sp pi en 0 _).mono ?_
      rintro e w1 ⟨rfl, b1⟩
      have L1 : Hid (BlkL w1 w.heap.size [.float .f32 p0, .float .f32 p1, .float .f32 p2, .float .f32 p3, .float .f32 p4, .float .f32 p5, .float .f32 p6, .float .f32 p7, .int .i64 st, .float .f32 sp, .float .f32 pi, .float .f32 en]) := Lib.hid ((K1 _ _).out.below b1)
      have L2 : Hid (BlkL w1 (w.heap.size + 1) [.float .f32 0, .float .f32 0, .float .f32 0, .float .f32 0, .float .f32 0, .float .f32 0, .float .f32 0, .float .f32 0, .int .i64 0, .float .f32 0, .float .f32 0, .float .f32 0]) := Lib.hid ((K2 _ _).out.below b1)
      have B1 : Hid (Below w.heap.size w w1) := Lib.hid (below_of (HB _ _).out (HB _ _).out.size b1)
      clear b1 K1 K2 HB
      obtain ⟨⟨k0, k1, k2, k3, k4, k5, k6, k7⟩, k8, k9, k10, k11⟩ := L1.out.c12
      obtain ⟨c0, f0⟩ := L2.out.2 0 _ rfl
      obtain ⟨c1, f1⟩ := L2.out.2 1 _ rfl
      obtain ⟨c2, f2⟩ := L2.out.2 2 _ rfl
      obtain ⟨c3, f3⟩ := L2.out.2 3 _ rfl
      obtain ⟨c4, f4⟩ := L2.out.2 4 _ rfl
      obtain ⟨c5, f5⟩ := L2.out.2 5 _ rfl
      obtain ⟨c6, f6⟩ := L2.out.2 6 _ rfl
      obtain ⟨c7, f7⟩ := L2.out.2 7 _ rfl
      obtain ⟨c8, f8⟩ := L2.out.2 8 _ rfl
      obtain ⟨c9, f9⟩ := L2.out.2 9 _ rfl
      obtain ⟨c10, f10⟩ := L2.out.2 10 _ rfl
      obtain ⟨c11, f11⟩ := L2.out.2 11 _ rfl
      go_wp2
      refine bodyPost_ret (v := .tuple #[.agg #[.float .f32 (sel (driveV p0 p1 p2 p3 p4 p5 p6 p7 st sp pi en) p0), .float .f32 (sel (driveV p0 p1 p2 p3 p4 p5 p6 p7 st sp pi en) p1), .float .f32 (sel (driveV p0 p1 p2 p3 p4 p5 p6 p7 st sp pi en) p2), .float .f32 (sel (driveV p0 p1 p2 p3 p4 p5 p6 p7 st sp pi en) p3), .float .f32 (sel (driveV p0 p1 p2 p3 p4 p5 p6 p7 st sp pi en) p4), .float .f32 (sel (driveV p0 p1 p2 p3 p4 p5 p6 p7 st sp pi en) p5), .float .f32 (sel (driveV p0 p1 p2 p3 p4 p5 p6 p7 st sp pi en) p6), .float .f32 (sel (driveV p0 p1 p2 p3 p4 p5 p6 p7 st sp pi en) p7), .int .i64 (selI (driveV p0 p1 p2 p3 p4 p5 p6 p7 st sp pi en) 0), .float .f32 (sel (driveV p0 p1 p2 p3 p4 p5 p6 p7 st sp pi en) sp), .float .f32 (sel (driveV p0 p1 p2 p3 p4 p5 p6 p7 st sp pi en) pi), .float .f32 (sel (driveV p0 p1 p2 p3 p4 p5 p6 p7 st sp pi en) en)], .bool (driveV p0 p1 p2 p3 p4 p5 p6 p7 st sp pi en)]) ?_ rfl ⟨?_, ?_⟩
      · simp [results, Try.results31, go_sem, c0, c1, c2, c3, c4, c5, c6, c7, c8, c9, c10, c11]
      · rfl
      · exact ((((((((((((B1.out).setCell (p := ⟨w.heap.size + 1, 0, none⟩) hb1 _).setCell (p := ⟨w.heap.size + 1, 1, none⟩) hb1 _).setCell (p := ⟨w.heap.size + 1, 2, none⟩) hb1 _).setCell (p := ⟨w.heap.size + 1, 3, none⟩) hb1 _).setCell (p := ⟨w.heap.size + 1, 4, none⟩) hb1 _).setCell (p := ⟨w.heap.size + 1, 5, none⟩) hb1 _).setCell (p := ⟨w.heap.size + 1, 6, none⟩) hb1 _).setCell (p := ⟨w.heap.size + 1, 7, none⟩) hb1 _).setCell (p := ⟨w.heap.size + 1, 8, none⟩) hb1 _).setCell (p := ⟨w.heap.size + 1, 9, none⟩) hb1 _).setCell (p := ⟨w.heap.size + 1, 10, none⟩) hb1 _).setCell (p := ⟨w.heap.size + 1, 11, none⟩) hb1 _
  · have e1 : (st != 4) = true := by simpa using hs
    have HR : Hid (relS st sp = st) := Lib.hid (by unfold relS; rw [decide_eq_false hs]; rfl)
    rw [HR.out]
    clear hs
    go_enter Try.func31, Try.ntmps31
    go_wp2_with fail
    refine (i_onlyValidDrive p0 p1 p2 p3 p4 p5 p6 p7 st sp pi en _).mono ?_
    rintro e w1 ⟨rfl, b1⟩
    have L1 : Hid (BlkL w1 w.heap.size [.float .f32 p0, .float .f32 p1, .float .f32 p2, .float .f32 p3, .float .f32 p4, .float .f32 p5, .float .f32 p6, .float .f32 p7, .int .i64 st, .float .f32 sp, .float .f32 pi, .float .f32 en]) := Lib.hid ((K1 _ _).out.below b1)
    have L2 : Hid (BlkL w1 (w.heap.size + 1) [.float .f32 0, .float .f32 0, .float .f32 0, .float .f32 0, .float .f32 0, .float .f32 0, .float .f32 0, .float .f32 0, .int .i64 0, .float .f32 0, .float .f32 0, .float .f32 0]) := Lib.hid ((K2 _ _).out.below b1)
    have B1 : Hid (Below w.heap.size w w1) := Lib.hid (below_of (HB _ _).out (HB _ _).out.size b1)
    clear b1 K1 K2 HB
    obtain ⟨⟨k0, k1, k2, k3, k4, k5, k6, k7⟩, k8, k9, k10, k11⟩ := L1.out.c12
    obtain ⟨c0, f0⟩ := L2.out.2 0 _ rfl
    obtain ⟨c1, f1⟩ := L2.out.2 1 _ rfl
    obtain ⟨c2, f2⟩ := L2.out.2 2 _ rfl
    obtain ⟨c3, f3⟩ := L2.out.2 3 _ rfl
    obtain ⟨c4, f4⟩ := L2.out.2 4 _ rfl
    obtain ⟨c5, f5⟩ := L2.out.2 5 _ rfl
    obtain ⟨c6, f6⟩ := L2.out.2 6 _ rfl
    obtain ⟨c7, f7⟩ := L2.out.2 7 _ rfl
    obtain ⟨c8, f8⟩ := L2.out.2 8 _ rfl
    obtain ⟨c9, f9⟩ := L2.out.2 9 _ rfl
    obtain ⟨c10, f10⟩ := L2.out.2 10 _ rfl
    obtain ⟨c11, f11⟩ := L2.out.2 11 _ rfl
    go_wp2
    refine bodyPost_ret (v := .tuple #[.agg #[.float .f32 (sel (driveV p0 p1 p2 p3 p4 p5 p6 p7 st sp pi en) p0), .float .f32 (sel (driveV p0 p1 p2 p3 p4 p5 p6 p7 st sp pi en) p1), .float .f32 (sel (driveV p0 p1 p2 p3 p4 p5 p6 p7 st sp pi en) p2), .float .f32 (sel (driveV p0 p1 p2 p3 p4 p5 p6 p7 st sp pi en) p3), .float .f32 (sel (driveV p0 p1 p2 p3 p4 p5 p6 p7 st sp pi en) p4), .float .f32 (sel (driveV p0 p1 p2 p3 p4 p5 p6 p7 st sp pi en) p5), .float .f32 (sel (driveV p0 p1 p2 p3 p4 p5 p6 p7 st sp pi en) p6), .float .f32 (sel (driveV p0 p1 p2 p3 p4 p5 p6 p7 st sp pi en) p7), .int .i64 (selI (driveV p0 p1 p2 p3 p4 p5 p6 p7 st sp pi en) st), .float .f32 (sel (driveV p0 p1 p2 p3 p4 p5 p6 p7 st sp pi en) sp), .float .f32 (sel (driveV p0 p1 p2 p3 p4 p5 p6 p7 st sp pi en) pi), .float .f32 (sel (driveV p0 p1 p2 p3 p4 p5 p6 p7 st sp pi en) en)], .bool (driveV p0 p1 p2 p3 p4 p5 p6 p7 st sp pi en)]) ?_ rfl ⟨?_, ?_⟩
    · simp [results, Try.results31, go_sem, c0, c1, c2, c3, c4, c5, c6, c7, c8, c9, c10, c11]
    · rfl
    · exact ((((((((((((B1.out).setCell (p := ⟨w.heap.size + 1, 0, none⟩) hb1 _).setCell (p := ⟨w.heap.size + 1, 1, none⟩) hb1 _).setCell (p := ⟨w.heap.size + 1, 2, none⟩) hb1 _).setCell (p := ⟨w.heap.size + 1, 3, none⟩) hb1 _).setCell (p := ⟨w.heap.size + 1, 4, none⟩) hb1 _).setCell (p := ⟨w.heap.size + 1, 5, none⟩) hb1 _).setCell (p := ⟨w.heap.size + 1, 6, none⟩) hb1 _).setCell (p := ⟨w.heap.size + 1, 7, none⟩) hb1 _).setCell (p := ⟨w.heap.size + 1, 8, none⟩) hb1 _).setCell (p := ⟨w.heap.size + 1, 9, none⟩) hb1 _).setCell (p := ⟨w.heap.size + 1, 10, none⟩) hb1 _).setCell (p := ⟨w.heap.size + 1, 11, none⟩) hb1 _
set_option maxHeartbeats 8000000 in
theorem s_ReleaseDrive (p0 p1 p2 p3 p4 p5 p6 p7 : Nat) (st : Int) (sp pi en : Nat) (w : World) :
    Calls Try.prog 30 #[.agg #[.float .f32 p0, .float .f32 p1, .float .f32 p2, .float .f32 p3, .float .f32 p4, .float .f32 p5, .float .f32 p6, .float .f32 p7, .int .i64 st, .float .f32 sp, .float .f32 pi, .float .f32 en]] w fun e w' => e = .returned (.tuple #[.agg #[.float .f32 (sel (driveV p0 p1 p2 p3 p4 p5 p6 p7 st sp pi en) p0), .float .f32 (sel (driveV p0 p1 p2 p3 p4 p5 p6 p7 st sp pi en) p1), .float .f32 (sel (driveV p0 p1 p2 p3 p4 p5 p6 p7 st sp pi en) p2), .float .f32 (sel (driveV p0 p1 p2 p3 p4 p5 p6 p7 st sp pi en) p3), .float .f32 (sel (driveV p0 p1 p2 p3 p4 p5 p6 p7 st sp pi en) p4), .float .f32 (sel (driveV p0 p1 p2 p3 p4 p5 p6 p7 st sp pi en) p5), .float .f32 (sel (driveV p0 p1 p2 p3 p4 p5 p6 p7 st sp pi en) p6), .float .f32 (sel (driveV p0 p1 p2 p3 p4 p5 p6 p7 st sp pi en) p7), .int .i64 (selI (driveV p0 p1 p2 p3 p4 p5 p6 p7 st sp pi en) (relS st sp)), .float .f32 (sel (driveV p0 p1 p2 p3 p4 p5 p6 p7 st sp pi en) sp), .float .f32 (sel (driveV p0 p1 p2 p3 p4 p5 p6 p7 st sp pi en) pi), .float .f32 (sel (driveV p0 p1 p2 p3 p4 p5 p6 p7 st sp pi en) en)], .bool (driveV p0 p1 p2 p3 p4 p5 p6 p7 st sp pi en)]) ∧ Below w.heap.size w w' := by
  have HB : ∀ o1 o2, Hid (Below w.heap.size w ((w.alloc o1).alloc o2)) := fun _ _ => Lib.hid (((Below.refl _ _).alloc (Nat.le_refl _) _).alloc (by simp) _)
  have K1 : ∀ o t, Hid (BlkL ((w.alloc (.cells #[.float .f32 p0, .float .f32 p1, .float .f32 p2, .float .f32 p3, .float .f32 p4, .float .f32 p5, .float .f32 p6, .float .f32 p7, .int .i64 st, .float .f32 sp, .float .f32 pi, .float .f32 en] t)).alloc o) w.heap.size [.float .f32 p0, .float .f32 p1, .float .f32 p2, .float .f32 p3, .float .f32 p4, .float .f32 p5, .float .f32 p6, .float .f32 p7, .int .i64 st, .float .f32 sp, .float .f32 pi, .float .f32 en]) := fun _ _ => Lib.hid ((blkL_at w #[.float .f32 p0, .float .f32 p1, .float .f32 p2, .float .f32 p3, .float .f32 p4, .float .f32 p5, .float .f32 p6, .float .f32 p7, .int .i64 st, .float .f32 sp, .float .f32 pi, .float .f32 en] _ rfl).alloc _)
  have K2 : ∀ o t, Hid (BlkL ((w.alloc o).alloc (.cells #[.float .f32 0, .float .f32 0, .float .f32 0, .float .f32 0, .float .f32 0, .float .f32 0, .float .f32 0, .float .f32 0, .int .i64 0, .float .f32 0, .float .f32 0, .float .f32 0] t)) (w.heap.size + 1) [.float .f32 0, .float .f32 0, .float .f32 0, .float .f32 0, .float .f32 0, .float .f32 0, .float .f32 0, .float .f32 0, .int .i64 0, .float .f32 0, .float .f32 0, .float .f32 0]) := fun _ _ => Lib.hid (blkL_at (w.alloc _) #[.float .f32 0, .float .f32 0, .float .f32 0, .float .f32 0, .float .f32 0, .float .f32 0, .float .f32 0, .float .f32 0, .int .i64 0, .float .f32 0, .float .f32 0, .float .f32 0] _ (by simp))
  have hb0 : w.heap.size ≤ w.heap.size := Nat.le_refl _
  have hb1 : w.heap.size ≤ w.heap.size + 1 := by omega
  cases va : driveV p0 p1 p2 p3 p4 p5 p6 p7 st sp pi en
  · go_enter Try.func30, Try.ntmps30
    go_wp2_with fail
    refine (s_l05Is p0 p1 p2 p3 p4 p5 p6 p7 st sp pi en _ _ (K1 _ _).out.c12).mono ?_
    rintro e w1 ⟨n, rfl, hw⟩
    have b1 := below_of_drewN hw
    clear hw
    have L1 : Hid (BlkL w1 w.heap.size [.float .f32 p0, .float .f32 p1, .float .f32 p2, .float .f32 p3, .float .f32 p4, .float .f32 p5, .float .f32 p6, .float .f32 p7, .int .i64 st, .float .f32 sp, .float .f32 pi, .float .f32 en]) := Lib.hid ((K1 _ _).out.below b1)
    have L2 : Hid (BlkL w1 (w.heap.size + 1) [.float .f32 0, .float .f32 0, .float .f32 0, .float .f32 0, .float .f32 0, .float .f32 0, .float .f32 0, .float .f32 0, .int .i64 0, .float .f32 0, .float .f32 0, .float .f32 0]) := Lib.hid ((K2 _ _).out.below b1)
    have B1 : Hid (Below w.heap.size w w1) := Lib.hid (below_of (HB _ _).out (HB _ _).out.size b1)
    clear b1 K1 K2 HB
    obtain ⟨⟨k0, k1, k2, k3, k4, k5, k6, k7⟩, k8, k9, k10, k11⟩ := L1.out.c12
    obtain ⟨c0, f0⟩ := L2.out.2 0 _ rfl
    obtain ⟨c1, f1⟩ := L2.out.2 1 _ rfl
    obtain ⟨c2, f2⟩ := L2.out.2 2 _ rfl
    obtain ⟨c3, f3⟩ := L2.out.2 3 _ rfl
    obtain ⟨c4, f4⟩ := L2.out.2 4 _ rfl
    obtain ⟨c5, f5⟩ := L2.out.2 5 _ rfl
    obtain ⟨c6, f6⟩ := L2.out.2 6 _ rfl
    obtain ⟨c7, f7⟩ := L2.out.2 7 _ rfl
    obtain ⟨c8, f8⟩ := L2.out.2 8 _ rfl
    obtain ⟨c9, f9⟩ := L2.out.2 9 _ rfl
    obtain ⟨c10, f10⟩ := L2.out.2 10 _ rfl
    obtain ⟨c11, f11⟩ := L2.out.2 11 _ rfl
    have z8 := (L1.out.2 8 _ rfl).2
    rw [va]
    go_wp2
    refine bodyPost_ret (v := .tuple #[.agg #[.float .f32 0, .float .f32 0, .float .f32 0, .float .f32 0, .float .f32 0, .float .f32 0, .float .f32 0, .float .f32 0, .int .i64 0, .float .f32 0, .float .f32 0, .float .f32 0], .bool false]) ?_ rfl ⟨?_, ?_⟩
    · simp [results, Try.results30, go_sem, c0, c1, c2, c3, c4, c5, c6, c7, c8, c9, c10, c11]
    · rfl
    · exact ((((((((((((B1.out).setCell (p := ⟨w.heap.size + 1, 0, none⟩) hb1 _).setCell (p := ⟨w.heap.size + 1, 1, none⟩) hb1 _).setCell (p := ⟨w.heap.size + 1, 2, none⟩) hb1 _).setCell (p := ⟨w.heap.size + 1, 3, none⟩) hb1 _).setCell (p := ⟨w.heap.size + 1, 4, none⟩) hb1 _).setCell (p := ⟨w.heap.size + 1, 5, none⟩) hb1 _).setCell (p := ⟨w.heap.size + 1, 6, none⟩) hb1 _).setCell (p := ⟨w.heap.size + 1, 7, none⟩) hb1 _).setCell (p := ⟨w.heap.size + 1, 8, none⟩) hb1 _).setCell (p := ⟨w.heap.size + 1, 9, none⟩) hb1 _).setCell (p := ⟨w.heap.size + 1, 10, none⟩) hb1 _).setCell (p := ⟨w.heap.size + 1, 11, none⟩) hb1 _
  · by_cases hs : st = 4
    · have e1 : (st == 4) = true := by subst hs; rfl
      cases q : (FloatKind.f32.format.order sp 0 == some .eq)
      · have HR : Hid (relS st sp = 3) := Lib.hid (by unfold relS; rw [decide_eq_true hs, q]; rfl)
        rw [HR.out]
        clear hs
        go_enter Try.func30, Try.ntmps30
        go_wp2_with fail
        refine (s_l05Is p0 p1 p2 p3 p4 p5 p6 p7 st sp pi en _ _ (K1 _ _).out.c12).mono ?_
        rintro e w1 ⟨n, rfl, hw⟩
        have b1 := below_of_drewN hw
        clear hw
        have L1 : Hid (BlkL w1 w.heap.size [.float .f32 p0, .float .f32 p1, .float .f32 p2, .float .f32 p3, .float .f32 p4, .float .f32 p5, .float .f32 p6, .float .f32 p7, .int .i64 st, .float .f32 sp, .float .f32 pi, .float .f32 en]) := Lib.hid ((K1 _ _).out.below b1)
        have L2 : Hid (BlkL w1 (w.heap.size + 1) [.float .f32 0, .float .f32 0, .float .f32 0, .float .f32 0, .float .f32 0, .float .f32 0, .float .f32 0, .float .f32 0, .int .i64 0, .float .f32 0, .float .f32 0, .float .f32 0]) := Lib.hid ((K2 _ _).out.below b1)
        have B1 : Hid (Below w.heap.size w w1) := Lib.hid (below_of (HB _ _).out (HB _ _).out.size b1)
        clear b1 K1 K2 HB
        obtain ⟨⟨k0, k1, k2, k3, k4, k5, k6, k7⟩, k8, k9, k10, k11⟩ := L1.out.c12
        obtain ⟨c0, f0⟩ := L2.out.2 0 _ rfl
        obtain ⟨c1, f1⟩ := L2.out.2 1 _ rfl
        obtain ⟨c2, f2⟩ := L2.out.2 2 _ rfl
        obtain ⟨c3, f3⟩ := L2.out.2 3 _ rfl
        obtain ⟨c4, f4⟩ := L2.out.2 4 _ rfl
        obtain ⟨c5, f5⟩ := L2.out.2 5 _ rfl
        obtain ⟨c6, f6⟩ := L2.out.2 6 _ rfl
        obtain ⟨c7, f7⟩ := L2.out.2 7 _ rfl
        obtain ⟨c8, f8⟩ := L2.out.2 8 _ rfl
        obtain ⟨c9, f9⟩ := L2.out.2 9 _ rfl
        obtain ⟨c10, f10⟩ := L2.out.2 10 _ rfl
        obtain ⟨c11, f11⟩ := L2.out.2 11 _ rfl
        have z8 := (L1.out.2 8 _ rfl).2
        rw [va]
        go_wp2
        refine bodyPost_ret (v := .tuple #[.agg #[.float .f32 p0, .float .f32 p1, .float .f32 p2, .float .f32 p3, .float .f32 p4, .float .f32 p5, .float .f32 p6, .float .f32 p7, .int .i64 3, .float .f32 sp, .float .f32 pi, .float .f32 en], .bool true]) ?_ rfl ⟨?_, ?_⟩
        · simp [results, Try.results30, go_sem, c0, c1, c2, c3, c4, c5, c6, c7, c8, c9, c10, c11]
        · rfl
        · exact ((((((((((((B1.out.setCell (p := ⟨w.heap.size, 8, none⟩) hb0 _).setCell (p := ⟨w.heap.size + 1, 0, none⟩) hb1 _).setCell (p := ⟨w.heap.size + 1, 1, none⟩) hb1 _).setCell (p := ⟨w.heap.size + 1, 2, none⟩) hb1 _).setCell (p := ⟨w.heap.size + 1, 3, none⟩) hb1 _).setCell (p := ⟨w.heap.size + 1, 4, none⟩) hb1 _).setCell (p := ⟨w.heap.size + 1, 5, none⟩) hb1 _).setCell (p := ⟨w.heap.size + 1, 6, none⟩) hb1 _).setCell (p := ⟨w.heap.size + 1, 7, none⟩) hb1 _).setCell (p := ⟨w.heap.size + 1, 8, none⟩) hb1 _).setCell (p := ⟨w.heap.size + 1, 9, none⟩) hb1 _).setCell (p := ⟨w.heap.size + 1, 10, none⟩) hb1 _).setCell (p := ⟨w.heap.size + 1, 11, none⟩) hb1 _
      · have HR : Hid (relS st sp = 0) := Lib.hid (by unfold relS; rw [decide_eq_true hs, q]; rfl)
        rw [HR.out]
        clear hs
        go_enter Try.func30, Try.ntmps30
        go_wp2_with fail
        refine (s_l05Is p0 p1 p2 p3 p4 p5 p6 p7 st sp pi en _ _ (K1 _ _).out.c12).mono ?_
        rintro e w1 ⟨n, rfl, hw⟩
        have b1 := below_of_drewN hw
        clear hw
        have L1 : Hid (BlkL w1 w.heap.size [.float .f32 p0, .float .f32 p1, .float .f32 p2, .float .f32 p3, .float .f32 p4, .float .f32 p5, .float .f32 p6, .float .f32 p7, .int .i64 st, .float .f32 sp, .float .f32 pi, .float .f32 en]) := Lib.hid ((K1 _ _).out.below b1)
        have L2 : Hid (BlkL w1 (w.heap.size + 1) [.float .f32 0, .float .f32 0, .float .f32 0, .float .f32 0, .float .f32 0, .float .f32 0, .float .f32 0, .float .f32 0, .int .i64 0, .float .f32 0, .float .f32 0, .float .f32 0]) := Lib.hid ((K2 _ _).out.below b1)
        have B1 : Hid (Below w.heap.size w w1) := Lib.hid (below_of (HB _ _).out (HB _ _).out.size b1)
        clear b1 K1 K2 HB
        obtain ⟨⟨k0, k1, k2, k3, k4, k5, k6, k7⟩, k8, k9, k10, k11⟩ := L1.out.c12
        obtain ⟨c0, f0⟩ := L2.out.2 0 _ rfl
        obtain ⟨c1, f1⟩ := L2.out.2 1 _ rfl
        obtain ⟨c2, f2⟩ := L2.out.2 2 _ rfl
        obtain ⟨c3, f3⟩ := L2.out.2 3 _ rfl
        obtain ⟨c4, f4⟩ := L2.out.2 4 _ rfl
        obtain ⟨c5, f5⟩ := L2.out.2 5 _ rfl
        obtain ⟨c6, f6⟩ := L2.out.2 6 _ rfl
        obtain ⟨c7, f7⟩ := L2.out.2 7 _ rfl
        obtain ⟨c8, f8⟩ := L2.out.2 8 _ rfl
        obtain ⟨c9, f9⟩ := L2.out.2 9 _ rfl
        obtain ⟨c10, f10⟩ := L2.out.2 10 _ rfl
        obtain ⟨c11, f11⟩ := L2.out.2 11 _ rfl
        have z8 := (L1.out.2 8 _ rfl).2
        rw [va]
        go_wp2
        refine bodyPost_ret (v := .tuple #[.agg #[.float .f32 p0, .float .f32 p1, .float .f32 p2, .float .f32 p3, .float .f32 p4, .float .f32 p5, .float .f32 p6, .float .f32 p7, .int .i64 0, .float .f32 sp, .float .f32 pi, .float .f32 en], .bool true]) ?_ rfl ⟨?_, ?_⟩
        · simp [results, Try.results30, go_sem, c0, c1, c2, c3, c4, c5, c6, c7, c8, c9, c10, c11]
        · rfl
        · exact ((((((((((((B1.out.setCell (p := ⟨w.heap.size, 8, none⟩) hb0 _ |>.setCell (p := ⟨w.heap.size, 8, none⟩) hb0 _).setCell (p := ⟨w.heap.size + 1, 0, none⟩) hb1 _).setCell (p := ⟨w.heap.size + 1, 1, none⟩) hb1 _).setCell (p := ⟨w.heap.size + 1, 2, none⟩) hb1 _).setCell (p := ⟨w.heap.size + 1, 3, none⟩) hb1 _).setCell (p := ⟨w.heap.size + 1, 4, none⟩) hb1 _).setCell (p := ⟨w.heap.size + 1, 5, none⟩) hb1 _).setCell (p := ⟨w.heap.size + 1, 6, none⟩) hb1 _).setCell (p := ⟨w.heap.size + 1, 7, none⟩) hb1 _).setCell (p := ⟨w.heap.size + 1, 8, none⟩) hb1 _).setCell (p := ⟨w.heap.size + 1, 9, none⟩) hb1 _).setCell (p := ⟨w.heap.size + 1, 10, none⟩) hb1 _).setCell (p := ⟨w.heap.size + 1, 11, none⟩) hb1 _
    · have e1 : (st == 4) = false := by simpa using hs
      have HR : Hid (relS st sp = st) := Lib.hid (by unfold relS; rw [decide_eq_false hs]; rfl)
      rw [HR.out]
      clear hs
      go_enter Try.func30, Try.ntmps30
      go_wp2_with fail
      refine (s_l05Is p0 p1 p2 p3 p4 p5 p6 p7 st sp pi en _ _ (K1 _ _).out.c12).mono ?_
      rintro e w1 ⟨n, rfl, hw⟩
      have b1 := below_of_drewN hw
      clear hw
      have L1 : Hid (BlkL w1 w.heap.size [.float .f32 p0, .float .f32 p1, .float .f32 p2, .float .f32 p3, .float .f32 p4, .float .f32 p5, .float .f32 p6, .float .f32 p7, .int .i64 st, .float .f32 sp, .float .f32 pi, .float .f32 en]) := Lib.hid ((K1 _ _).out.below b1)
      have L2 : Hid (BlkL w1 (w.heap.size + 1) [.float .f32 0, .float .f32 0, .float .f32 0, .float .f32 0, .float .f32 0, .float .f32 0, .float .f32 0, .float .f32 0, .int .i64 0, .float .f32 0, .float .f32 0, .float .f32 0]) := Lib.hid ((K2 _ _).out.below b1)
      have B1 : Hid (Below w.heap.size w w1) := Lib.hid (below_of (HB _ _).out (HB _ _).out.size b1)
      clear b1 K1 K2 HB
      obtain ⟨⟨k0, k1, k2, k3, k4, k5, k6, k7⟩, k8, k9, k10, k11⟩ := L1.out.c12
      obtain ⟨c0, f0⟩ := L2.out.2 0 _ rfl
      obtain ⟨c1, f1⟩ := L2.out.2 1 _ rfl
      obtain ⟨c2, f2⟩ := L2.out.2 2 _ rfl
      obtain ⟨c3, f3⟩ := L2.out.2 3 _ rfl
      obtain ⟨c4, f4⟩ := L2.out.2 4 _ rfl
      obtain ⟨c5, f5⟩ := L2.out.2 5 _ rfl
      obtain ⟨c6, f6⟩ := L2.out.2 6 _ rfl
      obtain ⟨c7, f7⟩ := L2.out.2 7 _ rfl
      obtain ⟨c8, f8⟩ := L2.out.2 8 _ rfl
      obtain ⟨c9, f9⟩ := L2.out.2 9 _ rfl
      obtain ⟨c10, f10⟩ := L2.out.2 10 _ rfl
      obtain ⟨c11, f11⟩ := L2.out.2 11 _ rfl
      have z8 := (L1.out.2 8 _ rfl).2
      rw [va]
      go_wp2
      refine bodyPost_ret (v := .tuple #[.agg #[.float .f32 p0, .float .f32 p1, .float .f32 p2, .float .f32 p3, .float .f32 p4, .float .f32 p5, .float .f32 p6, .float .f32 p7, .int .i64 st, .float .f32 sp, .float .f32 pi, .float .f32 en], .bool true]) ?_ rfl ⟨?_, ?_⟩
      · simp [results, Try.results30, go_sem, c0, c1, c2, c3, c4, c5, c6, c7, c8, c9, c10, c11]
      · rfl
      · exact ((((((((((((B1.out).setCell (p := ⟨w.heap.size + 1, 0, none⟩) hb1 _).setCell (p := ⟨w.heap.size + 1, 1, none⟩) hb1 _).setCell (p := ⟨w.heap.size + 1, 2, none⟩) hb1 _).setCell (p := ⟨w.heap.size + 1, 3, none⟩) hb1 _).setCell (p := ⟨w.heap.size + 1, 4, none⟩) hb1 _).setCell (p := ⟨w.heap.size + 1, 5, none⟩) hb1 _).setCell (p := ⟨w.heap.size + 1, 6, none⟩) hb1 _).setCell (p := ⟨w.heap.size + 1, 7, none⟩) hb1 _).setCell (p := ⟨w.heap.size + 1, 8, none⟩) hb1 _).setCell (p := ⟨w.heap.size + 1, 9, none⟩) hb1 _).setCell (p := ⟨w.heap.size + 1, 10, none⟩) hb1 _).setCell (p := ⟨w.heap.size + 1, 11, none⟩) hb1 _
theorem driveV_new (p0 p1 p2 p3 p4 p5 p6 p7 : Nat) : driveV p0 p1 p2 p3 p4 p5 p6 p7 0 0 1065353216 0 = plantV p0 p1 p2 p3 p4 p5 p6 p7 := by
  unfold driveV
  rw [show stateV 0 = true by decide, show amount 0 = true by decide +kernel, show within 1065353216 0 1065353216 = true by decide +kernel, show fin .f32 0 = true by decide +kernel]
  simp
set_option maxHeartbeats 8000000 in
theorem i_NewDrive (p0 p1 p2 p3 p4 p5 p6 p7 : Nat) (w : World) :
    Calls Try.prog 26 #[.agg #[.float .f32 p0, .float .f32 p1, .float .f32 p2, .float .f32 p3, .float .f32 p4, .float .f32 p5, .float .f32 p6, .float .f32 p7]] w fun e w' => e = .returned (.tuple #[.agg #[.float .f32 (sel (plantV p0 p1 p2 p3 p4 p5 p6 p7) p0), .float .f32 (sel (plantV p0 p1 p2 p3 p4 p5 p6 p7) p1), .float .f32 (sel (plantV p0 p1 p2 p3 p4 p5 p6 p7) p2), .float .f32 (sel (plantV p0 p1 p2 p3 p4 p5 p6 p7) p3), .float .f32 (sel (plantV p0 p1 p2 p3 p4 p5 p6 p7) p4), .float .f32 (sel (plantV p0 p1 p2 p3 p4 p5 p6 p7) p5), .float .f32 (sel (plantV p0 p1 p2 p3 p4 p5 p6 p7) p6), .float .f32 (sel (plantV p0 p1 p2 p3 p4 p5 p6 p7) p7), .int .i64 (selI (plantV p0 p1 p2 p3 p4 p5 p6 p7) 0), .float .f32 (sel (plantV p0 p1 p2 p3 p4 p5 p6 p7) 0), .float .f32 (sel (plantV p0 p1 p2 p3 p4 p5 p6 p7) 1065353216), .float .f32 (sel (plantV p0 p1 p2 p3 p4 p5 p6 p7) 0)], .bool (plantV p0 p1 p2 p3 p4 p5 p6 p7)]) ∧ Below w.heap.size w w' := by
  have HB : ∀ o1 o2, Hid (Below w.heap.size w ((w.alloc o1).alloc o2)) := fun _ _ => Lib.hid (((Below.refl _ _).alloc (Nat.le_refl _) _).alloc (by simp) _)
  have K1 : ∀ o t, Hid (BlkL ((w.alloc (.cells #[.float .f32 p0, .float .f32 p1, .float .f32 p2, .float .f32 p3, .float .f32 p4, .float .f32 p5, .float .f32 p6, .float .f32 p7] t)).alloc o) w.heap.size [.float .f32 p0, .float .f32 p1, .float .f32 p2, .float .f32 p3, .float .f32 p4, .float .f32 p5, .float .f32 p6, .float .f32 p7]) := fun _ _ => Lib.hid ((blkL_at w #[.float .f32 p0, .float .f32 p1, .float .f32 p2, .float .f32 p3, .float .f32 p4, .float .f32 p5, .float .f32 p6, .float .f32 p7] _ rfl).alloc _)
  have K2 : ∀ o t, Hid (BlkL ((w.alloc o).alloc (.cells #[.float .f32 0, .float .f32 0, .float .f32 0, .float .f32 0, .float .f32 0, .float .f32 0, .float .f32 0, .float .f32 0, .int .i64 0, .float .f32 0, .float .f32 0, .float .f32 0] t)) (w.heap.size + 1) [.float .f32 0, .float .f32 0, .float .f32 0, .float .f32 0, .float .f32 0, .float .f32 0, .float .f32 0, .float .f32 0, .int .i64 0, .float .f32 0, .float .f32 0, .float .f32 0]) := fun _ _ => Lib.hid (blkL_at (w.alloc _) #[.float .f32 0, .float .f32 0, .float .f32 0, .float .f32 0, .float .f32 0, .float .f32 0, .float .f32 0, .float .f32 0, .int .i64 0, .float .f32 0, .float .f32 0, .float .f32 0] _ (by simp))
  have hb0 : w.heap.size ≤ w.heap.size := Nat.le_refl _
  have hb1 : w.heap.size ≤ w.heap.size + 1 := by omega
  go_enter Try.func26, Try.ntmps26
  go_wp2_with fail
  refine (i_onlyValidDrive p0 p1 p2 p3 p4 p5 p6 p7 0 0 1065353216 0 _).mono ?_
  rw [driveV_new]
  rintro e w1 ⟨rfl, b1⟩
  have L1 : Hid (BlkL w1 w.heap.size [.float .f32 p0, .float .f32 p1, .float .f32 p2, .float .f32 p3, .float .f32 p4, .float .f32 p5, .float .f32 p6, .float .f32 p7]) := Lib.hid ((K1 _ _).out.below b1)
  have L2 : Hid (BlkL w1 (w.heap.size + 1) [.float .f32 0, .float .f32 0, .float .f32 0, .float .f32 0, .float .f32 0, .float .f32 0, .float .f32 0, .float .f32 0, .int .i64 0, .float .f32 0, .float .f32 0, .float .f32 0]) := Lib.hid ((K2 _ _).out.below b1)
  have B1 : Hid (Below w.heap.size w w1) := Lib.hid (below_of (HB _ _).out (HB _ _).out.size b1)
  clear b1 K1 K2 HB
  obtain ⟨k0, k1, k2, k3, k4, k5, k6, k7⟩ := L1.out.c8
  obtain ⟨c0, f0⟩ := L2.out.2 0 _ rfl
  obtain ⟨c1, f1⟩ := L2.out.2 1 _ rfl
  obtain ⟨c2, f2⟩ := L2.out.2 2 _ rfl
  obtain ⟨c3, f3⟩ := L2.out.2 3 _ rfl
  obtain ⟨c4, f4⟩ := L2.out.2 4 _ rfl
  obtain ⟨c5, f5⟩ := L2.out.2 5 _ rfl
  obtain ⟨c6, f6⟩ := L2.out.2 6 _ rfl
  obtain ⟨c7, f7⟩ := L2.out.2 7 _ rfl
  obtain ⟨c8, f8⟩ := L2.out.2 8 _ rfl
  obtain ⟨c9, f9⟩ := L2.out.2 9 _ rfl
  obtain ⟨c10, f10⟩ := L2.out.2 10 _ rfl
  obtain ⟨c11, f11⟩ := L2.out.2 11 _ rfl
  go_wp2
  refine bodyPost_ret (v := .tuple #[.agg #[.float .f32 (sel (plantV p0 p1 p2 p3 p4 p5 p6 p7) p0), .float .f32 (sel (plantV p0 p1 p2 p3 p4 p5 p6 p7) p1), .float .f32 (sel (plantV p0 p1 p2 p3 p4 p5 p6 p7) p2), .float .f32 (sel (plantV p0 p1 p2 p3 p4 p5 p6 p7) p3), .float .f32 (sel (plantV p0 p1 p2 p3 p4 p5 p6 p7) p4), .float .f32 (sel (plantV p0 p1 p2 p3 p4 p5 p6 p7) p5), .float .f32 (sel (plantV p0 p1 p2 p3 p4 p5 p6 p7) p6), .float .f32 (sel (plantV p0 p1 p2 p3 p4 p5 p6 p7) p7), .int .i64 (selI (plantV p0 p1 p2 p3 p4 p5 p6 p7) 0), .float .f32 (sel (plantV p0 p1 p2 p3 p4 p5 p6 p7) 0), .float .f32 (sel (plantV p0 p1 p2 p3 p4 p5 p6 p7) 1065353216), .float .f32 (sel (plantV p0 p1 p2 p3 p4 p5 p6 p7) 0)], .bool (plantV p0 p1 p2 p3 p4 p5 p6 p7)]) ?_ rfl ⟨?_, ?_⟩
  · simp [results, Try.results26, go_sem, c0, c1, c2, c3, c4, c5, c6, c7, c8, c9, c10, c11]
  · rfl
  · exact ((((((((((((B1.out).setCell (p := ⟨w.heap.size + 1, 0, none⟩) hb1 _).setCell (p := ⟨w.heap.size + 1, 1, none⟩) hb1 _).setCell (p := ⟨w.heap.size + 1, 2, none⟩) hb1 _).setCell (p := ⟨w.heap.size + 1, 3, none⟩) hb1 _).setCell (p := ⟨w.heap.size + 1, 4, none⟩) hb1 _).setCell (p := ⟨w.heap.size + 1, 5, none⟩) hb1 _).setCell (p := ⟨w.heap.size + 1, 6, none⟩) hb1 _).setCell (p := ⟨w.heap.size + 1, 7, none⟩) hb1 _).setCell (p := ⟨w.heap.size + 1, 8, none⟩) hb1 _).setCell (p := ⟨w.heap.size + 1, 9, none⟩) hb1 _).setCell (p := ⟨w.heap.size + 1, 10, none⟩) hb1 _).setCell (p := ⟨w.heap.size + 1, 11, none⟩) hb1 _
set_option maxHeartbeats 8000000 in
theorem s_NewDrive (p0 p1 p2 p3 p4 p5 p6 p7 : Nat) (w : World) :
    Calls Try.prog 25 #[.agg #[.float .f32 p0, .float .f32 p1, .float .f32 p2, .float .f32 p3, .float .f32 p4, .float .f32 p5, .float .f32 p6, .float .f32 p7]] w fun e w' => e = .returned (.tuple #[.agg #[.float .f32 (sel (plantV p0 p1 p2 p3 p4 p5 p6 p7) p0), .float .f32 (sel (plantV p0 p1 p2 p3 p4 p5 p6 p7) p1), .float .f32 (sel (plantV p0 p1 p2 p3 p4 p5 p6 p7) p2), .float .f32 (sel (plantV p0 p1 p2 p3 p4 p5 p6 p7) p3), .float .f32 (sel (plantV p0 p1 p2 p3 p4 p5 p6 p7) p4), .float .f32 (sel (plantV p0 p1 p2 p3 p4 p5 p6 p7) p5), .float .f32 (sel (plantV p0 p1 p2 p3 p4 p5 p6 p7) p6), .float .f32 (sel (plantV p0 p1 p2 p3 p4 p5 p6 p7) p7), .int .i64 (selI (plantV p0 p1 p2 p3 p4 p5 p6 p7) 0), .float .f32 (sel (plantV p0 p1 p2 p3 p4 p5 p6 p7) 0), .float .f32 (sel (plantV p0 p1 p2 p3 p4 p5 p6 p7) 1065353216), .float .f32 (sel (plantV p0 p1 p2 p3 p4 p5 p6 p7) 0)], .bool (plantV p0 p1 p2 p3 p4 p5 p6 p7)]) ∧ Below w.heap.size w w' := by
  have HB : ∀ o1 o2, Hid (Below w.heap.size w ((w.alloc o1).alloc o2)) := fun _ _ => Lib.hid (((Below.refl _ _).alloc (Nat.le_refl _) _).alloc (by simp) _)
  have K1 : ∀ o t, Hid (BlkL ((w.alloc (.cells #[.float .f32 p0, .float .f32 p1, .float .f32 p2, .float .f32 p3, .float .f32 p4, .float .f32 p5, .float .f32 p6, .float .f32 p7] t)).alloc o) w.heap.size [.float .f32 p0, .float .f32 p1, .float .f32 p2, .float .f32 p3, .float .f32 p4, .float .f32 p5, .float .f32 p6, .float .f32 p7]) := fun _ _ => Lib.hid ((blkL_at w #[.float .f32 p0, .float .f32 p1, .float .f32 p2, .float .f32 p3, .float .f32 p4, .float .f32 p5, .float .f32 p6, .float .f32 p7] _ rfl).alloc _)
  have K2 : ∀ o t, Hid (BlkL ((w.alloc o).alloc (.cells #[.float .f32 0, .float .f32 0, .float .f32 0, .float .f32 0, .float .f32 0, .float .f32 0, .float .f32 0, .float .f32 0, .int .i64 0, .float .f32 0, .float .f32 0, .float .f32 0] t)) (w.heap.size + 1) [.float .f32 0, .float .f32 0, .float .f32 0, .float .f32 0, .float .f32 0, .float .f32 0, .float .f32 0, .float .f32 0, .int .i64 0, .float .f32 0, .float .f32 0, .float .f32 0]) := fun _ _ => Lib.hid (blkL_at (w.alloc _) #[.float .f32 0, .float .f32 0, .float .f32 0, .float .f32 0, .float .f32 0, .float .f32 0, .float .f32 0, .float .f32 0, .int .i64 0, .float .f32 0, .float .f32 0, .float .f32 0] _ (by simp))
  have hb0 : w.heap.size ≤ w.heap.size := Nat.le_refl _
  have hb1 : w.heap.size ≤ w.heap.size + 1 := by omega
  go_enter Try.func25, Try.ntmps25
  go_wp2_with fail
  refine (s_l05Plant p0 p1 p2 p3 p4 p5 p6 p7 _ _ (K1 _ _).out.c8).mono ?_
  rintro e w1 ⟨n, rfl, hw⟩
  have b1 := below_of_drewN hw
  clear hw
  have L1 : Hid (BlkL w1 w.heap.size [.float .f32 p0, .float .f32 p1, .float .f32 p2, .float .f32 p3, .float .f32 p4, .float .f32 p5, .float .f32 p6, .float .f32 p7]) := Lib.hid ((K1 _ _).out.below b1)
  have L2 : Hid (BlkL w1 (w.heap.size + 1) [.float .f32 0, .float .f32 0, .float .f32 0, .float .f32 0, .float .f32 0, .float .f32 0, .float .f32 0, .float .f32 0, .int .i64 0, .float .f32 0, .float .f32 0, .float .f32 0]) := Lib.hid ((K2 _ _).out.below b1)
  have B1 : Hid (Below w.heap.size w w1) := Lib.hid (below_of (HB _ _).out (HB _ _).out.size b1)
  clear b1 K1 K2 HB
  obtain ⟨k0, k1, k2, k3, k4, k5, k6, k7⟩ := L1.out.c8
  obtain ⟨c0, f0⟩ := L2.out.2 0 _ rfl
  obtain ⟨c1, f1⟩ := L2.out.2 1 _ rfl
  obtain ⟨c2, f2⟩ := L2.out.2 2 _ rfl
  obtain ⟨c3, f3⟩ := L2.out.2 3 _ rfl
  obtain ⟨c4, f4⟩ := L2.out.2 4 _ rfl
  obtain ⟨c5, f5⟩ := L2.out.2 5 _ rfl
  obtain ⟨c6, f6⟩ := L2.out.2 6 _ rfl
  obtain ⟨c7, f7⟩ := L2.out.2 7 _ rfl
  obtain ⟨c8, f8⟩ := L2.out.2 8 _ rfl
  obtain ⟨c9, f9⟩ := L2.out.2 9 _ rfl
  obtain ⟨c10, f10⟩ := L2.out.2 10 _ rfl
  obtain ⟨c11, f11⟩ := L2.out.2 11 _ rfl
  cases va : plantV p0 p1 p2 p3 p4 p5 p6 p7
  · go_wp2
    refine bodyPost_ret (v := .tuple #[.agg #[.float .f32 0, .float .f32 0, .float .f32 0, .float .f32 0, .float .f32 0, .float .f32 0, .float .f32 0, .float .f32 0, .int .i64 0, .float .f32 0, .float .f32 0, .float .f32 0], .bool false]) ?_ rfl ⟨?_, ?_⟩
    · simp [results, Try.results25, go_sem, c0, c1, c2, c3, c4, c5, c6, c7, c8, c9, c10, c11]
    · rw [va]; rfl
    · exact ((((((((((((B1.out).setCell (p := ⟨w.heap.size + 1, 0, none⟩) hb1 _).setCell (p := ⟨w.heap.size + 1, 1, none⟩) hb1 _).setCell (p := ⟨w.heap.size + 1, 2, none⟩) hb1 _).setCell (p := ⟨w.heap.size + 1, 3, none⟩) hb1 _).setCell (p := ⟨w.heap.size + 1, 4, none⟩) hb1 _).setCell (p := ⟨w.heap.size + 1, 5, none⟩) hb1 _).setCell (p := ⟨w.heap.size + 1, 6, none⟩) hb1 _).setCell (p := ⟨w.heap.size + 1, 7, none⟩) hb1 _).setCell (p := ⟨w.heap.size + 1, 8, none⟩) hb1 _).setCell (p := ⟨w.heap.size + 1, 9, none⟩) hb1 _).setCell (p := ⟨w.heap.size + 1, 10, none⟩) hb1 _).setCell (p := ⟨w.heap.size + 1, 11, none⟩) hb1 _
  · go_wp2
    refine bodyPost_ret (v := .tuple #[.agg #[.float .f32 p0, .float .f32 p1, .float .f32 p2, .float .f32 p3, .float .f32 p4, .float .f32 p5, .float .f32 p6, .float .f32 p7, .int .i64 0, .float .f32 0, .float .f32 1065353216, .float .f32 0], .bool true]) ?_ rfl ⟨?_, ?_⟩
    · simp [results, Try.results25, go_sem, c0, c1, c2, c3, c4, c5, c6, c7, c8, c9, c10, c11]
    · rw [va]; rfl
    · exact ((((((((((((B1.out).setCell (p := ⟨w.heap.size + 1, 0, none⟩) hb1 _).setCell (p := ⟨w.heap.size + 1, 1, none⟩) hb1 _).setCell (p := ⟨w.heap.size + 1, 2, none⟩) hb1 _).setCell (p := ⟨w.heap.size + 1, 3, none⟩) hb1 _).setCell (p := ⟨w.heap.size + 1, 4, none⟩) hb1 _).setCell (p := ⟨w.heap.size + 1, 5, none⟩) hb1 _).setCell (p := ⟨w.heap.size + 1, 6, none⟩) hb1 _).setCell (p := ⟨w.heap.size + 1, 7, none⟩) hb1 _).setCell (p := ⟨w.heap.size + 1, 8, none⟩) hb1 _).setCell (p := ⟨w.heap.size + 1, 9, none⟩) hb1 _).setCell (p := ⟨w.heap.size + 1, 10, none⟩) hb1 _).setCell (p := ⟨w.heap.size + 1, 11, none⟩) hb1 _
end Go.Proofs.Ytmcfnkfcklcpnaa
