/- Copies of one desk are the same. No statement is proved here. -/
import Derived.Test.YtiiiigldpbomkaaDsk
namespace Go.Proofs.Ytiiiigldpbomkaa
open Go Go.RowKit
set_option maxHeartbeats 4000000 in
theorem l_eqAir (d h s k : Nat) (w : World) :
    Calls Try.prog 145 #[.agg #[.float .f32 d, .float .f32 h, .float .f32 s, .float .f32 k], .agg #[.float .f32 d, .float .f32 h, .float .f32 s, .float .f32 k]] w fun e w' => e = .returned (.bool true) ∧ Below w.heap.size w w' := by
  have HB : ∀ o1 o2, Hid (Below w.heap.size w ((w.alloc o1).alloc o2)) := fun _ _ => Lib.hid (((Below.refl _ _).alloc (Nat.le_refl _) _).alloc (by simp) _)
  go_enter Try.func145, Try.ntmps145
  go_wp2_with fail
  refine (sameFloat_yes _ _ _ (by rw [canon_wideV, canon_wideV])).mono ?_
  rintro e w' ⟨m0, rfl, rfl⟩
  go_wp2_with fail
  refine (sameFloat_yes _ _ _ (by rw [canon_wideV, canon_wideV])).mono ?_
  rintro e w' ⟨m1, rfl, rfl⟩
  go_wp2_with fail
  refine (sameFloat_yes _ _ _ (by rw [canon_wideV, canon_wideV])).mono ?_
  rintro e w' ⟨m2, rfl, rfl⟩
  go_wp2_with fail
  refine (sameFloat_yes _ _ _ (by rw [canon_wideV, canon_wideV])).mono ?_
  rintro e w' ⟨m3, rfl, rfl⟩
  go_wp2
  go_ret
  exact ⟨rfl, by repeat (first | exact (HB _ _).out | refine below_draws ?_ _)⟩
set_option maxHeartbeats 8000000 in
theorem l_eqDesk (A1 L1 D1 S1 A2 L2 D2 S2 : Option Addr) (n : Nat) (c : Int) (hub tip : Nat) (a l d s : List Nat) (e0 e1 e2 e3 : Nat) (p0 p1 p2 p3 p4 p5 p6 p7 : Nat) (st : Int) (sp pi en : Nat) (X1 Y1 X2 Y2 : Option Addr) (fx fy : List Nat) (fr fd fs : Nat) (w : World) (h1 : Rt w A1 L1 D1 S1 a l d s) (h2 : Rt w A2 L2 D2 S2 a l d s) (hn : FewR a l d s n) (f1 : Rs w X1 Y1 fx fy) (f2 : Rs w X2 Y2 fx fy) (hf : FewS fx fy) :
    Calls Try.prog 64 #[.agg #[.slice A1 a.length a.length, .slice L1 l.length l.length, .slice D1 d.length d.length, .slice S1 n n, .int .i64 c, .float .f32 hub, .float .f32 tip, .float .f32 e0, .float .f32 e1, .float .f32 e2, .float .f32 e3, .float .f32 p0, .float .f32 p1, .float .f32 p2, .float .f32 p3, .float .f32 p4, .float .f32 p5, .float .f32 p6, .float .f32 p7, .int .i64 st, .float .f32 sp, .float .f32 pi, .float .f32 en, .slice X1 fx.length fx.length, .slice Y1 fy.length fy.length, .float .f32 fr, .float .f32 fd, .float .f32 fs], .agg #[.slice A2 a.length a.length, .slice L2 l.length l.length, .slice D2 d.length d.length, .slice S2 n n, .int .i64 c, .float .f32 hub, .float .f32 tip, .float .f32 e0, .float .f32 e1, .float .f32 e2, .float .f32 e3, .float .f32 p0, .float .f32 p1, .float .f32 p2, .float .f32 p3, .float .f32 p4, .float .f32 p5, .float .f32 p6, .float .f32 p7, .int .i64 st, .float .f32 sp, .float .f32 pi, .float .f32 en, .slice X2 fx.length fx.length, .slice Y2 fy.length fy.length, .float .f32 fr, .float .f32 fd, .float .f32 fs]] w fun e w' => e = .returned (.bool true) ∧ Below w.heap.size w w' := by
  have H1 := Lib.hid h1; clear h1
  have H2 := Lib.hid h2; clear h2
  have HN := Lib.hid hn; clear hn
  have F1 := Lib.hid f1; clear f1
  have F2 := Lib.hid f2; clear f2
  have HF := Lib.hid hf; clear hf
  obtain ⟨w0, hw0⟩ : ∃ x, x = (w.alloc (.cells #[.slice A1 a.length a.length, .slice L1 l.length l.length, .slice D1 d.length d.length, .slice S1 n n, .int .i64 c, .float .f32 hub, .float .f32 tip, .float .f32 e0, .float .f32 e1, .float .f32 e2, .float .f32 e3, .float .f32 p0, .float .f32 p1, .float .f32 p2, .float .f32 p3, .float .f32 p4, .float .f32 p5, .float .f32 p6, .float .f32 p7, .int .i64 st, .float .f32 sp, .float .f32 pi, .float .f32 en, .slice X1 fx.length fx.length, .slice Y1 fy.length fy.length, .float .f32 fr, .float .f32 fd, .float .f32 fs] 102)).alloc (.cells #[.slice A2 a.length a.length, .slice L2 l.length l.length, .slice D2 d.length d.length, .slice S2 n n, .int .i64 c, .float .f32 hub, .float .f32 tip, .float .f32 e0, .float .f32 e1, .float .f32 e2, .float .f32 e3, .float .f32 p0, .float .f32 p1, .float .f32 p2, .float .f32 p3, .float .f32 p4, .float .f32 p5, .float .f32 p6, .float .f32 p7, .int .i64 st, .float .f32 sp, .float .f32 pi, .float .f32 en, .slice X2 fx.length fx.length, .slice Y2 fy.length fy.length, .float .f32 fr, .float .f32 fd, .float .f32 fs] 102) := ⟨_, rfl⟩
  have B0 : Hid (Below w.heap.size w w0) := Lib.hid (by rw [hw0]; exact ((Below.refl _ _).alloc (Nat.le_refl _) _).alloc (by simp) _)
  have K0 : Hid (BlkL w0 w.heap.size [.slice A1 a.length a.length, .slice L1 l.length l.length, .slice D1 d.length d.length, .slice S1 n n, .int .i64 c, .float .f32 hub, .float .f32 tip, .float .f32 e0, .float .f32 e1, .float .f32 e2, .float .f32 e3, .float .f32 p0, .float .f32 p1, .float .f32 p2, .float .f32 p3, .float .f32 p4, .float .f32 p5, .float .f32 p6, .float .f32 p7, .int .i64 st, .float .f32 sp, .float .f32 pi, .float .f32 en, .slice X1 fx.length fx.length, .slice Y1 fy.length fy.length, .float .f32 fr, .float .f32 fd, .float .f32 fs]) := Lib.hid (by rw [hw0]; exact (blkL_at w #[.slice A1 a.length a.length, .slice L1 l.length l.length, .slice D1 d.length d.length, .slice S1 n n, .int .i64 c, .float .f32 hub, .float .f32 tip, .float .f32 e0, .float .f32 e1, .float .f32 e2, .float .f32 e3, .float .f32 p0, .float .f32 p1, .float .f32 p2, .float .f32 p3, .float .f32 p4, .float .f32 p5, .float .f32 p6, .float .f32 p7, .int .i64 st, .float .f32 sp, .float .f32 pi, .float .f32 en, .slice X1 fx.length fx.length, .slice Y1 fy.length fy.length, .float .f32 fr, .float .f32 fd, .float .f32 fs] _ rfl).alloc _)
  have M0 : Hid (BlkL w0 (w.heap.size + 1) [.slice A2 a.length a.length, .slice L2 l.length l.length, .slice D2 d.length d.length, .slice S2 n n, .int .i64 c, .float .f32 hub, .float .f32 tip, .float .f32 e0, .float .f32 e1, .float .f32 e2, .float .f32 e3, .float .f32 p0, .float .f32 p1, .float .f32 p2, .float .f32 p3, .float .f32 p4, .float .f32 p5, .float .f32 p6, .float .f32 p7, .int .i64 st, .float .f32 sp, .float .f32 pi, .float .f32 en, .slice X2 fx.length fx.length, .slice Y2 fy.length fy.length, .float .f32 fr, .float .f32 fd, .float .f32 fs]) := Lib.hid (by rw [hw0]; exact blkL_at (w.alloc _) #[.slice A2 a.length a.length, .slice L2 l.length l.length, .slice D2 d.length d.length, .slice S2 n n, .int .i64 c, .float .f32 hub, .float .f32 tip, .float .f32 e0, .float .f32 e1, .float .f32 e2, .float .f32 e3, .float .f32 p0, .float .f32 p1, .float .f32 p2, .float .f32 p3, .float .f32 p4, .float .f32 p5, .float .f32 p6, .float .f32 p7, .int .i64 st, .float .f32 sp, .float .f32 pi, .float .f32 en, .slice X2 fx.length fx.length, .slice Y2 fy.length fy.length, .float .f32 fr, .float .f32 fd, .float .f32 fs] _ (by simp))
  go_enter Try.func64, Try.ntmps64
  go_wp2_with fail
  rw [← hw0]
  clear hw0
  have k0 := (K0.out.2 0 _ rfl).1
  have k1 := (K0.out.2 1 _ rfl).1
  have k2 := (K0.out.2 2 _ rfl).1
  have k3 := (K0.out.2 3 _ rfl).1
  have k4 := (K0.out.2 4 _ rfl).1
  have k5 := (K0.out.2 5 _ rfl).1
  have k6 := (K0.out.2 6 _ rfl).1
  have m0 := (M0.out.2 0 _ rfl).1
  have m1 := (M0.out.2 1 _ rfl).1
  have m2 := (M0.out.2 2 _ rfl).1
  have m3 := (M0.out.2 3 _ rfl).1
  have m4 := (M0.out.2 4 _ rfl).1
  have m5 := (M0.out.2 5 _ rfl).1
  have m6 := (M0.out.2 6 _ rfl).1
  go_wp2_with fail
  refine (l_eqRotor A1 L1 D1 S1 A2 L2 D2 S2 _ _ _ _ _ _ n _ _ c hub tip a l d s _ (H1.out.below B0.out) (H2.out.below B0.out) HN.out).mono ?_
  rintro e w1 ⟨rfl, b⟩
  have B1 : Hid (Below w.heap.size w w1) := Lib.hid (below_of B0.out B0.out.size b)
  have K1 : Hid (BlkL w1 w.heap.size [.slice A1 a.length a.length, .slice L1 l.length l.length, .slice D1 d.length d.length, .slice S1 n n, .int .i64 c, .float .f32 hub, .float .f32 tip, .float .f32 e0, .float .f32 e1, .float .f32 e2, .float .f32 e3, .float .f32 p0, .float .f32 p1, .float .f32 p2, .float .f32 p3, .float .f32 p4, .float .f32 p5, .float .f32 p6, .float .f32 p7, .int .i64 st, .float .f32 sp, .float .f32 pi, .float .f32 en, .slice X1 fx.length fx.length, .slice Y1 fy.length fy.length, .float .f32 fr, .float .f32 fd, .float .f32 fs]) := Lib.hid (K0.out.below b)
  have M1 : Hid (BlkL w1 (w.heap.size + 1) [.slice A2 a.length a.length, .slice L2 l.length l.length, .slice D2 d.length d.length, .slice S2 n n, .int .i64 c, .float .f32 hub, .float .f32 tip, .float .f32 e0, .float .f32 e1, .float .f32 e2, .float .f32 e3, .float .f32 p0, .float .f32 p1, .float .f32 p2, .float .f32 p3, .float .f32 p4, .float .f32 p5, .float .f32 p6, .float .f32 p7, .int .i64 st, .float .f32 sp, .float .f32 pi, .float .f32 en, .slice X2 fx.length fx.length, .slice Y2 fy.length fy.length, .float .f32 fr, .float .f32 fd, .float .f32 fs]) := Lib.hid (M0.out.below b)
  clear b K0 M0
  clear k0 m0 k1 m1 k2 m2 k3 m3 k4 m4 k5 m5 k6 m6
  have k7 := (K1.out.2 7 _ rfl).1
  have k8 := (K1.out.2 8 _ rfl).1
  have k9 := (K1.out.2 9 _ rfl).1
  have k10 := (K1.out.2 10 _ rfl).1
  have m7 := (M1.out.2 7 _ rfl).1
  have m8 := (M1.out.2 8 _ rfl).1
  have m9 := (M1.out.2 9 _ rfl).1
  have m10 := (M1.out.2 10 _ rfl).1
  go_wp2_with fail
  refine (l_eqAir e0 e1 e2 e3 _).mono ?_
  rintro e w2 ⟨rfl, b⟩
  have B2 : Hid (Below w.heap.size w w2) := Lib.hid (below_of B1.out B1.out.size b)
  have K2 : Hid (BlkL w2 w.heap.size [.slice A1 a.length a.length, .slice L1 l.length l.length, .slice D1 d.length d.length, .slice S1 n n, .int .i64 c, .float .f32 hub, .float .f32 tip, .float .f32 e0, .float .f32 e1, .float .f32 e2, .float .f32 e3, .float .f32 p0, .float .f32 p1, .float .f32 p2, .float .f32 p3, .float .f32 p4, .float .f32 p5, .float .f32 p6, .float .f32 p7, .int .i64 st, .float .f32 sp, .float .f32 pi, .float .f32 en, .slice X1 fx.length fx.length, .slice Y1 fy.length fy.length, .float .f32 fr, .float .f32 fd, .float .f32 fs]) := Lib.hid (K1.out.below b)
  have M2 : Hid (BlkL w2 (w.heap.size + 1) [.slice A2 a.length a.length, .slice L2 l.length l.length, .slice D2 d.length d.length, .slice S2 n n, .int .i64 c, .float .f32 hub, .float .f32 tip, .float .f32 e0, .float .f32 e1, .float .f32 e2, .float .f32 e3, .float .f32 p0, .float .f32 p1, .float .f32 p2, .float .f32 p3, .float .f32 p4, .float .f32 p5, .float .f32 p6, .float .f32 p7, .int .i64 st, .float .f32 sp, .float .f32 pi, .float .f32 en, .slice X2 fx.length fx.length, .slice Y2 fy.length fy.length, .float .f32 fr, .float .f32 fd, .float .f32 fs]) := Lib.hid (M1.out.below b)
  clear b K1 M1
  clear k7 m7 k8 m8 k9 m9 k10 m10
  have k11 := (K2.out.2 11 _ rfl).1
  have k12 := (K2.out.2 12 _ rfl).1
  have k13 := (K2.out.2 13 _ rfl).1
  have k14 := (K2.out.2 14 _ rfl).1
  have k15 := (K2.out.2 15 _ rfl).1
  have k16 := (K2.out.2 16 _ rfl).1
  have k17 := (K2.out.2 17 _ rfl).1
  have k18 := (K2.out.2 18 _ rfl).1
  have k19 := (K2.out.2 19 _ rfl).1
  have k20 := (K2.out.2 20 _ rfl).1
  have k21 := (K2.out.2 21 _ rfl).1
  have k22 := (K2.out.2 22 _ rfl).1
  have m11 := (M2.out.2 11 _ rfl).1
  have m12 := (M2.out.2 12 _ rfl).1
  have m13 := (M2.out.2 13 _ rfl).1
  have m14 := (M2.out.2 14 _ rfl).1
  have m15 := (M2.out.2 15 _ rfl).1
  have m16 := (M2.out.2 16 _ rfl).1
  have m17 := (M2.out.2 17 _ rfl).1
  have m18 := (M2.out.2 18 _ rfl).1
  have m19 := (M2.out.2 19 _ rfl).1
  have m20 := (M2.out.2 20 _ rfl).1
  have m21 := (M2.out.2 21 _ rfl).1
  have m22 := (M2.out.2 22 _ rfl).1
  go_wp2_with fail
  refine (l_eqDrive p0 p1 p2 p3 p4 p5 p6 p7 st sp pi en p0 p1 p2 p3 p4 p5 p6 p7 st sp pi en _ ⟨rfl, rfl, rfl, rfl, rfl, rfl, rfl, rfl⟩ rfl ⟨rfl, rfl, rfl⟩).mono ?_
  rintro e w3 ⟨rfl, b⟩
  have B3 : Hid (Below w.heap.size w w3) := Lib.hid (below_of B2.out B2.out.size b)
  have K3 : Hid (BlkL w3 w.heap.size [.slice A1 a.length a.length, .slice L1 l.length l.length, .slice D1 d.length d.length, .slice S1 n n, .int .i64 c, .float .f32 hub, .float .f32 tip, .float .f32 e0, .float .f32 e1, .float .f32 e2, .float .f32 e3, .float .f32 p0, .float .f32 p1, .float .f32 p2, .float .f32 p3, .float .f32 p4, .float .f32 p5, .float .f32 p6, .float .f32 p7, .int .i64 st, .float .f32 sp, .float .f32 pi, .float .f32 en, .slice X1 fx.length fx.length, .slice Y1 fy.length fy.length, .float .f32 fr, .float .f32 fd, .float .f32 fs]) := Lib.hid (K2.out.below b)
  have M3 : Hid (BlkL w3 (w.heap.size + 1) [.slice A2 a.length a.length, .slice L2 l.length l.length, .slice D2 d.length d.length, .slice S2 n n, .int .i64 c, .float .f32 hub, .float .f32 tip, .float .f32 e0, .float .f32 e1, .float .f32 e2, .float .f32 e3, .float .f32 p0, .float .f32 p1, .float .f32 p2, .float .f32 p3, .float .f32 p4, .float .f32 p5, .float .f32 p6, .float .f32 p7, .int .i64 st, .float .f32 sp, .float .f32 pi, .float .f32 en, .slice X2 fx.length fx.length, .slice Y2 fy.length fy.length, .float .f32 fr, .float .f32 fd, .float .f32 fs]) := Lib.hid (M2.out.below b)
  clear b K2 M2
  clear k11 m11 k12 m12 k13 m13 k14 m14 k15 m15 k16 m16 k17 m17 k18 m18 k19 m19 k20 m20 k21 m21 k22 m22
  have k23 := (K3.out.2 23 _ rfl).1
  have k24 := (K3.out.2 24 _ rfl).1
  have k25 := (K3.out.2 25 _ rfl).1
  have k26 := (K3.out.2 26 _ rfl).1
  have k27 := (K3.out.2 27 _ rfl).1
  have m23 := (M3.out.2 23 _ rfl).1
  have m24 := (M3.out.2 24 _ rfl).1
  have m25 := (M3.out.2 25 _ rfl).1
  have m26 := (M3.out.2 26 _ rfl).1
  have m27 := (M3.out.2 27 _ rfl).1
  go_wp2_with fail
  refine (l_eqFarm X1 Y1 X2 Y2 _ _ _ _ fx fy fr fd fs fr fd fs _ (F1.out.below B3.out) (F2.out.below B3.out) HF.out rfl rfl rfl).mono ?_
  rintro e w4 ⟨rfl, b⟩
  have B4 : Hid (Below w.heap.size w w4) := Lib.hid (below_of B3.out B3.out.size b)
  have K4 : Hid (BlkL w4 w.heap.size [.slice A1 a.length a.length, .slice L1 l.length l.length, .slice D1 d.length d.length, .slice S1 n n, .int .i64 c, .float .f32 hub, .float .f32 tip, .float .f32 e0, .float .f32 e1, .float .f32 e2, .float .f32 e3, .float .f32 p0, .float .f32 p1, .float .f32 p2, .float .f32 p3, .float .f32 p4, .float .f32 p5, .float .f32 p6, .float .f32 p7, .int .i64 st, .float .f32 sp, .float .f32 pi, .float .f32 en, .slice X1 fx.length fx.length, .slice Y1 fy.length fy.length, .float .f32 fr, .float .f32 fd, .float .f32 fs]) := Lib.hid (K3.out.below b)
  have M4 : Hid (BlkL w4 (w.heap.size + 1) [.slice A2 a.length a.length, .slice L2 l.length l.length, .slice D2 d.length d.length, .slice S2 n n, .int .i64 c, .float .f32 hub, .float .f32 tip, .float .f32 e0, .float .f32 e1, .float .f32 e2, .float .f32 e3, .float .f32 p0, .float .f32 p1, .float .f32 p2, .float .f32 p3, .float .f32 p4, .float .f32 p5, .float .f32 p6, .float .f32 p7, .int .i64 st, .float .f32 sp, .float .f32 pi, .float .f32 en, .slice X2 fx.length fx.length, .slice Y2 fy.length fy.length, .float .f32 fr, .float .f32 fd, .float .f32 fs]) := Lib.hid (M3.out.below b)
  clear b K3 M3
  clear k23 m23 k24 m24 k25 m25 k26 m26 k27 m27
  go_wp2
  go_ret
  exact ⟨rfl, B4.out⟩
end Go.Proofs.Ytiiiigldpbomkaa
