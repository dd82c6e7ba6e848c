/- A drive out of a text: the reader. No statement is proved here. -/
import Derived.Test.YtknabmknboffgaaGreatDoorDvC
import Derived.Test.YtknabmknboffgaaGreatDoorDrv
namespace Go.Proofs.YtknabmknboffgaaGreatDoor
open Go Go.RowKit
set_option maxHeartbeats 8000000 in
theorem i_rvDrive_yes (s : ByteArray) (w : World) (hs : s.size ≤ 1048576) (hE : EV w) (hT : T64 w) (hX : T10 w) (hM : ML w) (h : dvO s = true) (hv : driveV (dvP s 0) (dvP s 1) (dvP s 2) (dvP s 3) (dvP s 4) (dvP s 5) (dvP s 6) (dvP s 7) (dvZ s) (dvE s 0) (dvE s 1) (dvE s 2) = true) :
    Calls Tryz.prog 26 #[.string s, .func (.func 27) #[] #[], .func (.func 28) #[] #[]] w fun e w' => e = .returned (.tuple #[.agg #[.float .f32 (dvP s 0), .float .f32 (dvP s 1), .float .f32 (dvP s 2), .float .f32 (dvP s 3), .float .f32 (dvP s 4), .float .f32 (dvP s 5), .float .f32 (dvP s 6), .float .f32 (dvP s 7), .int .i64 (dvZ s), .float .f32 (dvE s 0), .float .f32 (dvE s 1), .float .f32 (dvE s 2)], .bool true]) ∧ Below w.heap.size w w' := by
  have hmf : ∀ (fn : Fn) (first cap : Array Value) (w : World), (Instr.makeFunc fn first cap).run Tryz.prog w = .ok (.func fn first cap) w := fun _ _ _ _ => rfl
  obtain ⟨w5, h5⟩ : ∃ z, z = (((((w.alloc (.cells #[.string s] 9)).alloc (.cells #[.func (.func 28) #[] #[]] 53)).alloc (.cells #[.float .f32 0, .float .f32 0, .float .f32 0, .float .f32 0, .float .f32 0, .float .f32 0, .float .f32 0, .float .f32 0, .int .i64 0, .float .f32 0, .float .f32 0, .float .f32 0] 26)).alloc (.cells #[.float .f32 0, .float .f32 0, .float .f32 0, .float .f32 0, .float .f32 0, .float .f32 0, .float .f32 0, .float .f32 0, .int .i64 0, .float .f32 0, .float .f32 0, .float .f32 0] 26)).alloc (.cells #[.float .f32 0, .float .f32 0, .float .f32 0, .float .f32 0, .float .f32 0, .float .f32 0, .float .f32 0, .float .f32 0, .int .i64 0, .float .f32 0, .float .f32 0, .float .f32 0] 26)) := ⟨_, rfl⟩
  obtain ⟨k0, k1, k2, k3, k4, b5⟩ := five w (.string s) (.func (.func 28) #[] #[]) #[.float .f32 0, .float .f32 0, .float .f32 0, .float .f32 0, .float .f32 0, .float .f32 0, .float .f32 0, .float .f32 0, .int .i64 0, .float .f32 0, .float .f32 0, .float .f32 0] #[.float .f32 0, .float .f32 0, .float .f32 0, .float .f32 0, .float .f32 0, .float .f32 0, .float .f32 0, .float .f32 0, .int .i64 0, .float .f32 0, .float .f32 0, .float .f32 0] #[.float .f32 0, .float .f32 0, .float .f32 0, .float .f32 0, .float .f32 0, .float .f32 0, .float .f32 0, .float .f32 0, .int .i64 0, .float .f32 0, .float .f32 0, .float .f32 0] 9 53 26 26 26
  rw [← h5] at k0 k1 k2 k3 k4 b5
  have HC := Lib.hid (i_attDrive_yes (w.heap.size + 1) w.heap.size (w.heap.size + 4) s w w5 hs (hE.below b5) (hT.below b5) (hX.below b5) (hM.below b5) h k1 k0 k4 b5 (by omega))
  have K2 := Lib.hid k2
  have K3 := Lib.hid k3
  have K4 := Lib.hid k4.1
  clear hs hE hT hX hM h k0 k1 k2 k3 k4 b5
  generalize dvP s 0 = x0 at HC hv ⊢
  generalize dvP s 1 = x1 at HC hv ⊢
  generalize dvP s 2 = x2 at HC hv ⊢
  generalize dvP s 3 = x3 at HC hv ⊢
  generalize dvP s 4 = x4 at HC hv ⊢
  generalize dvP s 5 = x5 at HC hv ⊢
  generalize dvP s 6 = x6 at HC hv ⊢
  generalize dvP s 7 = x7 at HC hv ⊢
  generalize dvZ s = z at HC hv ⊢
  generalize dvE s 0 = y0 at HC hv ⊢
  generalize dvE s 1 = y1 at HC hv ⊢
  generalize dvE s 2 = y2 at HC hv ⊢
  have HV := Lib.hid hv
  clear hv
  go_enter Tryz.func26, Tryz.ntmps26
  go_upto_region 2 with fail
  rw [← h5]
  clear h5
  go_wp2_with fail
  refine HC.out.mono ?_
  rintro e w6 ⟨rfl, hx, hk, hb⟩
  have X1 := Lib.hid hx
  have L2 := Lib.hid (hk _ _ (by have := K4.out; omega) (by omega) K2.out)
  have L3 := Lib.hid (hk _ _ (by have := K4.out; omega) (by omega) K3.out)
  have BB := Lib.hid hb
  clear hx hk hb HC K2 K3 K4
  obtain ⟨u0, u1, u2, u3, u4, u5, u6, u7, u8, u9, u10, u11⟩ : _ ∧ _ ∧ _ ∧ _ ∧ _ ∧ _ ∧ _ ∧ _ ∧ _ ∧ _ ∧ _ ∧ _ := ⟨(X1.out.2 0 _ rfl).1, (X1.out.2 1 _ rfl).1, (X1.out.2 2 _ rfl).1, (X1.out.2 3 _ rfl).1, (X1.out.2 4 _ rfl).1, (X1.out.2 5 _ rfl).1, (X1.out.2 6 _ rfl).1, (X1.out.2 7 _ rfl).1, (X1.out.2 8 _ rfl).1, (X1.out.2 9 _ rfl).1, (X1.out.2 10 _ rfl).1, (X1.out.2 11 _ rfl).1⟩
  go_wp2_with fail
  refine (i_ValidDrive x0 x1 x2 x3 x4 x5 x6 x7 z y0 y1 y2 _).mono ?_
  rintro e w7 ⟨rfl, b7⟩
  rw [HV.out]
  clear u0 u1 u2 u3 u4 u5 u6 u7 u8 u9 u10 u11
  have X2 := Lib.hid (X1.out.below b7)
  have M2 := Lib.hid (L2.out.below b7)
  have M3 := Lib.hid (L3.out.below b7)
  have BC := Lib.hid (below_of BB.out BB.out.size b7)
  clear b7 X1 L2 L3 BB HV
  obtain ⟨⟨f0, g0⟩, ⟨f1, g1⟩, ⟨f2, g2⟩, ⟨f3, g3⟩, ⟨f4, g4⟩, ⟨f5, g5⟩, ⟨f6, g6⟩, ⟨f7, g7⟩, ⟨f8, g8⟩, ⟨f9, g9⟩, ⟨f10, g10⟩, ⟨f11, g11⟩⟩ : (_ ∧ _) ∧ (_ ∧ _) ∧ (_ ∧ _) ∧ (_ ∧ _) ∧ (_ ∧ _) ∧ (_ ∧ _) ∧ (_ ∧ _) ∧ (_ ∧ _) ∧ (_ ∧ _) ∧ (_ ∧ _) ∧ (_ ∧ _) ∧ (_ ∧ _) := ⟨M2.out.2 0 _ rfl, M2.out.2 1 _ rfl, M2.out.2 2 _ rfl, M2.out.2 3 _ rfl, M2.out.2 4 _ rfl, M2.out.2 5 _ rfl, M2.out.2 6 _ rfl, M2.out.2 7 _ rfl, M2.out.2 8 _ rfl, M2.out.2 9 _ rfl, M2.out.2 10 _ rfl, M2.out.2 11 _ rfl⟩
  obtain ⟨u0, u1, u2, u3, u4, u5, u6, u7, u8, u9, u10, u11⟩ : _ ∧ _ ∧ _ ∧ _ ∧ _ ∧ _ ∧ _ ∧ _ ∧ _ ∧ _ ∧ _ ∧ _ := ⟨(X2.out.2 0 _ rfl).1, (X2.out.2 1 _ rfl).1, (X2.out.2 2 _ rfl).1, (X2.out.2 3 _ rfl).1, (X2.out.2 4 _ rfl).1, (X2.out.2 5 _ rfl).1, (X2.out.2 6 _ rfl).1, (X2.out.2 7 _ rfl).1, (X2.out.2 8 _ rfl).1, (X2.out.2 9 _ rfl).1, (X2.out.2 10 _ rfl).1, (X2.out.2 11 _ rfl).1⟩
  go_wp2
  have R := Lib.hid (((((((((((((BC.out.setCell (p := ⟨w.heap.size + 2, 0, none⟩) (by simp) (.float .f32 x0)).setCell (p := ⟨w.heap.size + 2, 1, none⟩) (by simp) (.float .f32 x1)).setCell (p := ⟨w.heap.size + 2, 2, none⟩) (by simp) (.float .f32 x2)).setCell (p := ⟨w.heap.size + 2, 3, none⟩) (by simp) (.float .f32 x3)).setCell (p := ⟨w.heap.size + 2, 4, none⟩) (by simp) (.float .f32 x4)).setCell (p := ⟨w.heap.size + 2, 5, none⟩) (by simp) (.float .f32 x5)).setCell (p := ⟨w.heap.size + 2, 6, none⟩) (by simp) (.float .f32 x6)).setCell (p := ⟨w.heap.size + 2, 7, none⟩) (by simp) (.float .f32 x7)).setCell (p := ⟨w.heap.size + 2, 8, none⟩) (by simp) (.int .i64 z)).setCell (p := ⟨w.heap.size + 2, 9, none⟩) (by simp) (.float .f32 y0)).setCell (p := ⟨w.heap.size + 2, 10, none⟩) (by simp) (.float .f32 y1)).setCell (p := ⟨w.heap.size + 2, 11, none⟩) (by simp) (.float .f32 y2)))
  have Q := Lib.hid (((((((((((((M2.out.set (i := 0) (by simp) (.float .f32 x0)).set (i := 1) (by simp) (.float .f32 x1)).set (i := 2) (by simp) (.float .f32 x2)).set (i := 3) (by simp) (.float .f32 x3)).set (i := 4) (by simp) (.float .f32 x4)).set (i := 5) (by simp) (.float .f32 x5)).set (i := 6) (by simp) (.float .f32 x6)).set (i := 7) (by simp) (.float .f32 x7)).set (i := 8) (by simp) (.int .i64 z)).set (i := 9) (by simp) (.float .f32 y0)).set (i := 10) (by simp) (.float .f32 y1)).set (i := 11) (by simp) (.float .f32 y2)))
  obtain ⟨c0, c1, c2, c3, c4, c5, c6, c7, c8, c9, c10, c11⟩ : _ ∧ _ ∧ _ ∧ _ ∧ _ ∧ _ ∧ _ ∧ _ ∧ _ ∧ _ ∧ _ ∧ _ := ⟨(Q.out.2 0 _ rfl).1, (Q.out.2 1 _ rfl).1, (Q.out.2 2 _ rfl).1, (Q.out.2 3 _ rfl).1, (Q.out.2 4 _ rfl).1, (Q.out.2 5 _ rfl).1, (Q.out.2 6 _ rfl).1, (Q.out.2 7 _ rfl).1, (Q.out.2 8 _ rfl).1, (Q.out.2 9 _ rfl).1, (Q.out.2 10 _ rfl).1, (Q.out.2 11 _ rfl).1⟩
  refine bodyPost_ret (v := .tuple #[.agg #[.float .f32 x0, .float .f32 x1, .float .f32 x2, .float .f32 x3, .float .f32 x4, .float .f32 x5, .float .f32 x6, .float .f32 x7, .int .i64 z, .float .f32 y0, .float .f32 y1, .float .f32 y2], .bool true]) ?_ rfl ⟨rfl, R.out⟩
  simp [results, Tryz.results26, go_sem, c0, c1, c2, c3, c4, c5, c6, c7, c8, c9, c10, c11]
set_option maxHeartbeats 8000000 in
theorem i_rvDrive_inv (s : ByteArray) (w : World) (hs : s.size ≤ 1048576) (hE : EV w) (hT : T64 w) (hX : T10 w) (hM : ML w) (h : dvO s = true) (hv : driveV (dvP s 0) (dvP s 1) (dvP s 2) (dvP s 3) (dvP s 4) (dvP s 5) (dvP s 6) (dvP s 7) (dvZ s) (dvE s 0) (dvE s 1) (dvE s 2) = false) :
    Calls Tryz.prog 26 #[.string s, .func (.func 27) #[] #[], .func (.func 28) #[] #[]] w fun e w' => e = .returned (.tuple #[.agg #[.float .f32 0, .float .f32 0, .float .f32 0, .float .f32 0, .float .f32 0, .float .f32 0, .float .f32 0, .float .f32 0, .int .i64 0, .float .f32 0, .float .f32 0, .float .f32 0], .bool false]) ∧ Below w.heap.size w w' := by
  have hmf : ∀ (fn : Fn) (first cap : Array Value) (w : World), (Instr.makeFunc fn first cap).run Tryz.prog w = .ok (.func fn first cap) w := fun _ _ _ _ => rfl
  obtain ⟨w5, h5⟩ : ∃ z, z = (((((w.alloc (.cells #[.string s] 9)).alloc (.cells #[.func (.func 28) #[] #[]] 53)).alloc (.cells #[.float .f32 0, .float .f32 0, .float .f32 0, .float .f32 0, .float .f32 0, .float .f32 0, .float .f32 0, .float .f32 0, .int .i64 0, .float .f32 0, .float .f32 0, .float .f32 0] 26)).alloc (.cells #[.float .f32 0, .float .f32 0, .float .f32 0, .float .f32 0, .float .f32 0, .float .f32 0, .float .f32 0, .float .f32 0, .int .i64 0, .float .f32 0, .float .f32 0, .float .f32 0] 26)).alloc (.cells #[.float .f32 0, .float .f32 0, .float .f32 0, .float .f32 0, .float .f32 0, .float .f32 0, .float .f32 0, .float .f32 0, .int .i64 0, .float .f32 0, .float .f32 0, .float .f32 0] 26)) := ⟨_, rfl⟩
  obtain ⟨k0, k1, k2, k3, k4, b5⟩ := five w (.string s) (.func (.func 28) #[] #[]) #[.float .f32 0, .float .f32 0, .float .f32 0, .float .f32 0, .float .f32 0, .float .f32 0, .float .f32 0, .float .f32 0, .int .i64 0, .float .f32 0, .float .f32 0, .float .f32 0] #[.float .f32 0, .float .f32 0, .float .f32 0, .float .f32 0, .float .f32 0, .float .f32 0, .float .f32 0, .float .f32 0, .int .i64 0, .float .f32 0, .float .f32 0, .float .f32 0] #[.float .f32 0, .float .f32 0, .float .f32 0, .float .f32 0, .float .f32 0, .float .f32 0, .float .f32 0, .float .f32 0, .int .i64 0, .float .f32 0, .float .f32 0, .float .f32 0] 9 53 26 26 26
  rw [← h5] at k0 k1 k2 k3 k4 b5
  have HC := Lib.hid (i_attDrive_yes (w.heap.size + 1) w.heap.size (w.heap.size + 4) s w w5 hs (hE.below b5) (hT.below b5) (hX.below b5) (hM.below b5) h k1 k0 k4 b5 (by omega))
  have K2 := Lib.hid k2
  have K3 := Lib.hid k3
  have K4 := Lib.hid k4.1
  clear hs hE hT hX hM h k0 k1 k2 k3 k4 b5
  generalize dvP s 0 = x0 at HC hv ⊢
  generalize dvP s 1 = x1 at HC hv ⊢
  generalize dvP s 2 = x2 at HC hv ⊢
  generalize dvP s 3 = x3 at HC hv ⊢
  generalize dvP s 4 = x4 at HC hv ⊢
  generalize dvP s 5 = x5 at HC hv ⊢
  generalize dvP s 6 = x6 at HC hv ⊢
  generalize dvP s 7 = x7 at HC hv ⊢
  generalize dvZ s = z at HC hv ⊢
  generalize dvE s 0 = y0 at HC hv ⊢
  generalize dvE s 1 = y1 at HC hv ⊢
  generalize dvE s 2 = y2 at HC hv ⊢
  have HV := Lib.hid hv
  clear hv
  go_enter Tryz.func26, Tryz.ntmps26
  go_upto_region 2 with fail
  rw [← h5]
  clear h5
  go_wp2_with fail
  refine HC.out.mono ?_
  rintro e w6 ⟨rfl, hx, hk, hb⟩
  have X1 := Lib.hid hx
  have L2 := Lib.hid (hk _ _ (by have := K4.out; omega) (by omega) K2.out)
  have L3 := Lib.hid (hk _ _ (by have := K4.out; omega) (by omega) K3.out)
  have BB := Lib.hid hb
  clear hx hk hb HC K2 K3 K4
  obtain ⟨u0, u1, u2, u3, u4, u5, u6, u7, u8, u9, u10, u11⟩ : _ ∧ _ ∧ _ ∧ _ ∧ _ ∧ _ ∧ _ ∧ _ ∧ _ ∧ _ ∧ _ ∧ _ := ⟨(X1.out.2 0 _ rfl).1, (X1.out.2 1 _ rfl).1, (X1.out.2 2 _ rfl).1, (X1.out.2 3 _ rfl).1, (X1.out.2 4 _ rfl).1, (X1.out.2 5 _ rfl).1, (X1.out.2 6 _ rfl).1, (X1.out.2 7 _ rfl).1, (X1.out.2 8 _ rfl).1, (X1.out.2 9 _ rfl).1, (X1.out.2 10 _ rfl).1, (X1.out.2 11 _ rfl).1⟩
  go_wp2_with fail
  refine (i_ValidDrive x0 x1 x2 x3 x4 x5 x6 x7 z y0 y1 y2 _).mono ?_
  rintro e w7 ⟨rfl, b7⟩
  rw [HV.out]
  clear u0 u1 u2 u3 u4 u5 u6 u7 u8 u9 u10 u11
  have X2 := Lib.hid (X1.out.below b7)
  have M2 := Lib.hid (L2.out.below b7)
  have M3 := Lib.hid (L3.out.below b7)
  have BC := Lib.hid (below_of BB.out BB.out.size b7)
  clear b7 X1 L2 L3 BB HV
  obtain ⟨⟨f0, g0⟩, ⟨f1, g1⟩, ⟨f2, g2⟩, ⟨f3, g3⟩, ⟨f4, g4⟩, ⟨f5, g5⟩, ⟨f6, g6⟩, ⟨f7, g7⟩, ⟨f8, g8⟩, ⟨f9, g9⟩, ⟨f10, g10⟩, ⟨f11, g11⟩⟩ : (_ ∧ _) ∧ (_ ∧ _) ∧ (_ ∧ _) ∧ (_ ∧ _) ∧ (_ ∧ _) ∧ (_ ∧ _) ∧ (_ ∧ _) ∧ (_ ∧ _) ∧ (_ ∧ _) ∧ (_ ∧ _) ∧ (_ ∧ _) ∧ (_ ∧ _) := ⟨M2.out.2 0 _ rfl, M2.out.2 1 _ rfl, M2.out.2 2 _ rfl, M2.out.2 3 _ rfl, M2.out.2 4 _ rfl, M2.out.2 5 _ rfl, M2.out.2 6 _ rfl, M2.out.2 7 _ rfl, M2.out.2 8 _ rfl, M2.out.2 9 _ rfl, M2.out.2 10 _ rfl, M2.out.2 11 _ rfl⟩
  obtain ⟨u0, u1, u2, u3, u4, u5, u6, u7, u8, u9, u10, u11⟩ : _ ∧ _ ∧ _ ∧ _ ∧ _ ∧ _ ∧ _ ∧ _ ∧ _ ∧ _ ∧ _ ∧ _ := ⟨(M3.out.2 0 _ rfl).1, (M3.out.2 1 _ rfl).1, (M3.out.2 2 _ rfl).1, (M3.out.2 3 _ rfl).1, (M3.out.2 4 _ rfl).1, (M3.out.2 5 _ rfl).1, (M3.out.2 6 _ rfl).1, (M3.out.2 7 _ rfl).1, (M3.out.2 8 _ rfl).1, (M3.out.2 9 _ rfl).1, (M3.out.2 10 _ rfl).1, (M3.out.2 11 _ rfl).1⟩
  go_wp2
  have R := Lib.hid (((((((((((((BC.out.setCell (p := ⟨w.heap.size + 2, 0, none⟩) (by simp) (.float .f32 0)).setCell (p := ⟨w.heap.size + 2, 1, none⟩) (by simp) (.float .f32 0)).setCell (p := ⟨w.heap.size + 2, 2, none⟩) (by simp) (.float .f32 0)).setCell (p := ⟨w.heap.size + 2, 3, none⟩) (by simp) (.float .f32 0)).setCell (p := ⟨w.heap.size + 2, 4, none⟩) (by simp) (.float .f32 0)).setCell (p := ⟨w.heap.size + 2, 5, none⟩) (by simp) (.float .f32 0)).setCell (p := ⟨w.heap.size + 2, 6, none⟩) (by simp) (.float .f32 0)).setCell (p := ⟨w.heap.size + 2, 7, none⟩) (by simp) (.float .f32 0)).setCell (p := ⟨w.heap.size + 2, 8, none⟩) (by simp) (.int .i64 0)).setCell (p := ⟨w.heap.size + 2, 9, none⟩) (by simp) (.float .f32 0)).setCell (p := ⟨w.heap.size + 2, 10, none⟩) (by simp) (.float .f32 0)).setCell (p := ⟨w.heap.size + 2, 11, none⟩) (by simp) (.float .f32 0)))
  have Q := Lib.hid (((((((((((((M2.out.set (i := 0) (by simp) (.float .f32 0)).set (i := 1) (by simp) (.float .f32 0)).set (i := 2) (by simp) (.float .f32 0)).set (i := 3) (by simp) (.float .f32 0)).set (i := 4) (by simp) (.float .f32 0)).set (i := 5) (by simp) (.float .f32 0)).set (i := 6) (by simp) (.float .f32 0)).set (i := 7) (by simp) (.float .f32 0)).set (i := 8) (by simp) (.int .i64 0)).set (i := 9) (by simp) (.float .f32 0)).set (i := 10) (by simp) (.float .f32 0)).set (i := 11) (by simp) (.float .f32 0)))
  obtain ⟨c0, c1, c2, c3, c4, c5, c6, c7, c8, c9, c10, c11⟩ : _ ∧ _ ∧ _ ∧ _ ∧ _ ∧ _ ∧ _ ∧ _ ∧ _ ∧ _ ∧ _ ∧ _ := ⟨(Q.out.2 0 _ rfl).1, (Q.out.2 1 _ rfl).1, (Q.out.2 2 _ rfl).1, (Q.out.2 3 _ rfl).1, (Q.out.2 4 _ rfl).1, (Q.out.2 5 _ rfl).1, (Q.out.2 6 _ rfl).1, (Q.out.2 7 _ rfl).1, (Q.out.2 8 _ rfl).1, (Q.out.2 9 _ rfl).1, (Q.out.2 10 _ rfl).1, (Q.out.2 11 _ rfl).1⟩
  refine bodyPost_ret (v := .tuple #[.agg #[.float .f32 0, .float .f32 0, .float .f32 0, .float .f32 0, .float .f32 0, .float .f32 0, .float .f32 0, .float .f32 0, .int .i64 0, .float .f32 0, .float .f32 0, .float .f32 0], .bool false]) ?_ rfl ⟨rfl, R.out⟩
  simp [results, Tryz.results26, go_sem, c0, c1, c2, c3, c4, c5, c6, c7, c8, c9, c10, c11]
set_option maxHeartbeats 8000000 in
theorem i_rvDrive_no (s : ByteArray) (pv : Value) (w : World) (hs : s.size ≤ 1048576) (hE : EV w) (hT : T64 w) (hX : T10 w) (hM : ML w) (hV : EMv pv w) (h : dvO s = false) :
    Calls Tryz.prog 26 #[.string s, .func (.func 27) #[] #[], .func (.func 28) #[] #[]] w fun e w' => e = .returned (.tuple #[.agg #[.float .f32 0, .float .f32 0, .float .f32 0, .float .f32 0, .float .f32 0, .float .f32 0, .float .f32 0, .float .f32 0, .int .i64 0, .float .f32 0, .float .f32 0, .float .f32 0], .bool false]) ∧ Below w.heap.size w w' := by
  have hmf : ∀ (fn : Fn) (first cap : Array Value) (w : World), (Instr.makeFunc fn first cap).run Tryz.prog w = .ok (.func fn first cap) w := fun _ _ _ _ => rfl
  obtain ⟨w5, h5⟩ : ∃ z, z = (((((w.alloc (.cells #[.string s] 9)).alloc (.cells #[.func (.func 28) #[] #[]] 53)).alloc (.cells #[.float .f32 0, .float .f32 0, .float .f32 0, .float .f32 0, .float .f32 0, .float .f32 0, .float .f32 0, .float .f32 0, .int .i64 0, .float .f32 0, .float .f32 0, .float .f32 0] 26)).alloc (.cells #[.float .f32 0, .float .f32 0, .float .f32 0, .float .f32 0, .float .f32 0, .float .f32 0, .float .f32 0, .float .f32 0, .int .i64 0, .float .f32 0, .float .f32 0, .float .f32 0] 26)).alloc (.cells #[.float .f32 0, .float .f32 0, .float .f32 0, .float .f32 0, .float .f32 0, .float .f32 0, .float .f32 0, .float .f32 0, .int .i64 0, .float .f32 0, .float .f32 0, .float .f32 0] 26)) := ⟨_, rfl⟩
  obtain ⟨k0, k1, k2, k3, k4, b5⟩ := five w (.string s) (.func (.func 28) #[] #[]) #[.float .f32 0, .float .f32 0, .float .f32 0, .float .f32 0, .float .f32 0, .float .f32 0, .float .f32 0, .float .f32 0, .int .i64 0, .float .f32 0, .float .f32 0, .float .f32 0] #[.float .f32 0, .float .f32 0, .float .f32 0, .float .f32 0, .float .f32 0, .float .f32 0, .float .f32 0, .float .f32 0, .int .i64 0, .float .f32 0, .float .f32 0, .float .f32 0] #[.float .f32 0, .float .f32 0, .float .f32 0, .float .f32 0, .float .f32 0, .float .f32 0, .float .f32 0, .float .f32 0, .int .i64 0, .float .f32 0, .float .f32 0, .float .f32 0] 9 53 26 26 26
  rw [← h5] at k0 k1 k2 k3 k4 b5
  have HC := Lib.hid (i_attDrive_no (w.heap.size + 1) w.heap.size (w.heap.size + 4) s pv w5 hs (hE.below b5) (hT.below b5) (hX.below b5) (hM.below b5) (hV.below b5) h k1 k0)
  have K2 := Lib.hid k2
  have K3 := Lib.hid k3
  have B5 := Lib.hid b5
  clear hs hE hT hX hM h hV k0 k1 k2 k3 k4 b5
  go_enter Tryz.func26, Tryz.ntmps26
  go_upto_region 2 with fail
  rw [← h5]
  clear h5
  go_wp2_with fail
  refine HC.out.mono ?_
  rintro e w7 ⟨rfl, b7⟩
  have M2 := Lib.hid (K2.out.below b7)
  have M3 := Lib.hid (K3.out.below b7)
  have BC := Lib.hid (below_of B5.out B5.out.size b7)
  clear b7 HC K2 K3 B5
  obtain ⟨⟨f0, g0⟩, ⟨f1, g1⟩, ⟨f2, g2⟩, ⟨f3, g3⟩, ⟨f4, g4⟩, ⟨f5, g5⟩, ⟨f6, g6⟩, ⟨f7, g7⟩, ⟨f8, g8⟩, ⟨f9, g9⟩, ⟨f10, g10⟩, ⟨f11, g11⟩⟩ : (_ ∧ _) ∧ (_ ∧ _) ∧ (_ ∧ _) ∧ (_ ∧ _) ∧ (_ ∧ _) ∧ (_ ∧ _) ∧ (_ ∧ _) ∧ (_ ∧ _) ∧ (_ ∧ _) ∧ (_ ∧ _) ∧ (_ ∧ _) ∧ (_ ∧ _) := ⟨M2.out.2 0 _ rfl, M2.out.2 1 _ rfl, M2.out.2 2 _ rfl, M2.out.2 3 _ rfl, M2.out.2 4 _ rfl, M2.out.2 5 _ rfl, M2.out.2 6 _ rfl, M2.out.2 7 _ rfl, M2.out.2 8 _ rfl, M2.out.2 9 _ rfl, M2.out.2 10 _ rfl, M2.out.2 11 _ rfl⟩
  obtain ⟨u0, u1, u2, u3, u4, u5, u6, u7, u8, u9, u10, u11⟩ : _ ∧ _ ∧ _ ∧ _ ∧ _ ∧ _ ∧ _ ∧ _ ∧ _ ∧ _ ∧ _ ∧ _ := ⟨(M3.out.2 0 _ rfl).1, (M3.out.2 1 _ rfl).1, (M3.out.2 2 _ rfl).1, (M3.out.2 3 _ rfl).1, (M3.out.2 4 _ rfl).1, (M3.out.2 5 _ rfl).1, (M3.out.2 6 _ rfl).1, (M3.out.2 7 _ rfl).1, (M3.out.2 8 _ rfl).1, (M3.out.2 9 _ rfl).1, (M3.out.2 10 _ rfl).1, (M3.out.2 11 _ rfl).1⟩
  go_wp2
  have R := Lib.hid (((((((((((((BC.out.setCell (p := ⟨w.heap.size + 2, 0, none⟩) (by simp) (.float .f32 0)).setCell (p := ⟨w.heap.size + 2, 1, none⟩) (by simp) (.float .f32 0)).setCell (p := ⟨w.heap.size + 2, 2, none⟩) (by simp) (.float .f32 0)).setCell (p := ⟨w.heap.size + 2, 3, none⟩) (by simp) (.float .f32 0)).setCell (p := ⟨w.heap.size + 2, 4, none⟩) (by simp) (.float .f32 0)).setCell (p := ⟨w.heap.size + 2, 5, none⟩) (by simp) (.float .f32 0)).setCell (p := ⟨w.heap.size + 2, 6, none⟩) (by simp) (.float .f32 0)).setCell (p := ⟨w.heap.size + 2, 7, none⟩) (by simp) (.float .f32 0)).setCell (p := ⟨w.heap.size + 2, 8, none⟩) (by simp) (.int .i64 0)).setCell (p := ⟨w.heap.size + 2, 9, none⟩) (by simp) (.float .f32 0)).setCell (p := ⟨w.heap.size + 2, 10, none⟩) (by simp) (.float .f32 0)).setCell (p := ⟨w.heap.size + 2, 11, none⟩) (by simp) (.float .f32 0)))
  have Q := Lib.hid (((((((((((((M2.out.set (i := 0) (by simp) (.float .f32 0)).set (i := 1) (by simp) (.float .f32 0)).set (i := 2) (by simp) (.float .f32 0)).set (i := 3) (by simp) (.float .f32 0)).set (i := 4) (by simp) (.float .f32 0)).set (i := 5) (by simp) (.float .f32 0)).set (i := 6) (by simp) (.float .f32 0)).set (i := 7) (by simp) (.float .f32 0)).set (i := 8) (by simp) (.int .i64 0)).set (i := 9) (by simp) (.float .f32 0)).set (i := 10) (by simp) (.float .f32 0)).set (i := 11) (by simp) (.float .f32 0)))
  obtain ⟨c0, c1, c2, c3, c4, c5, c6, c7, c8, c9, c10, c11⟩ : _ ∧ _ ∧ _ ∧ _ ∧ _ ∧ _ ∧ _ ∧ _ ∧ _ ∧ _ ∧ _ ∧ _ := ⟨(Q.out.2 0 _ rfl).1, (Q.out.2 1 _ rfl).1, (Q.out.2 2 _ rfl).1, (Q.out.2 3 _ rfl).1, (Q.out.2 4 _ rfl).1, (Q.out.2 5 _ rfl).1, (Q.out.2 6 _ rfl).1, (Q.out.2 7 _ rfl).1, (Q.out.2 8 _ rfl).1, (Q.out.2 9 _ rfl).1, (Q.out.2 10 _ rfl).1, (Q.out.2 11 _ rfl).1⟩
  refine bodyPost_ret (v := .tuple #[.agg #[.float .f32 0, .float .f32 0, .float .f32 0, .float .f32 0, .float .f32 0, .float .f32 0, .float .f32 0, .float .f32 0, .int .i64 0, .float .f32 0, .float .f32 0, .float .f32 0], .bool false]) ?_ rfl ⟨rfl, R.out⟩
  simp [results, Tryz.results26, go_sem, c0, c1, c2, c3, c4, c5, c6, c7, c8, c9, c10, c11]
theorem i_rvDrive (s : ByteArray) (pv : Value) (w : World) (hs : s.size ≤ 1048576) (hE : EV w) (hT : T64 w) (hX : T10 w) (hM : ML w) (hV : EMv pv w) :
    Calls Tryz.prog 26 #[.string s, .func (.func 27) #[] #[], .func (.func 28) #[] #[]] w fun e w' => e = .returned (.tuple #[.agg #[.float .f32 (if rdO s then dvP s 0 else 0), .float .f32 (if rdO s then dvP s 1 else 0), .float .f32 (if rdO s then dvP s 2 else 0), .float .f32 (if rdO s then dvP s 3 else 0), .float .f32 (if rdO s then dvP s 4 else 0), .float .f32 (if rdO s then dvP s 5 else 0), .float .f32 (if rdO s then dvP s 6 else 0), .float .f32 (if rdO s then dvP s 7 else 0), .int .i64 (if rdO s then dvZ s else 0), .float .f32 (if rdO s then dvE s 0 else 0), .float .f32 (if rdO s then dvE s 1 else 0), .float .f32 (if rdO s then dvE s 2 else 0)], .bool (rdO s)]) ∧ Below w.heap.size w w' := by
  cases h : dvO s
  · have hr : rdO s = false := by unfold rdO; rw [h]; rfl
    simp only [hr]
    exact i_rvDrive_no s pv w hs hE hT hX hM hV h
  · cases hv : driveV (dvP s 0) (dvP s 1) (dvP s 2) (dvP s 3) (dvP s 4) (dvP s 5) (dvP s 6) (dvP s 7) (dvZ s) (dvE s 0) (dvE s 1) (dvE s 2)
    · have hr : rdO s = false := by unfold rdO; rw [h, hv]; rfl
      simp only [hr]
      exact i_rvDrive_inv s w hs hE hT hX hM h hv
    · have hr : rdO s = true := by unfold rdO; rw [h, hv]; rfl
      simp only [hr]
      exact i_rvDrive_yes s w hs hE hT hX hM h hv
set_option maxHeartbeats 8000000 in
theorem i_ReadDrive (s : ByteArray) (pv : Value) (w : World) (hs : s.size ≤ 1048576) (hE : EV w) (hT : T64 w) (hX : T10 w) (hM : ML w) (hV : EMv pv w) :
    Calls Tryz.prog 8 #[.string s] w fun e w' => e = .returned (.tuple #[.agg #[.float .f32 (if rdO s then dvP s 0 else 0), .float .f32 (if rdO s then dvP s 1 else 0), .float .f32 (if rdO s then dvP s 2 else 0), .float .f32 (if rdO s then dvP s 3 else 0), .float .f32 (if rdO s then dvP s 4 else 0), .float .f32 (if rdO s then dvP s 5 else 0), .float .f32 (if rdO s then dvP s 6 else 0), .float .f32 (if rdO s then dvP s 7 else 0), .int .i64 (if rdO s then dvZ s else 0), .float .f32 (if rdO s then dvE s 0 else 0), .float .f32 (if rdO s then dvE s 1 else 0), .float .f32 (if rdO s then dvE s 2 else 0)], .bool (rdO s)]) ∧ Below w.heap.size w w' := by
  obtain ⟨w0, hw0⟩ : ∃ z, z = w.alloc (.cells #[.float .f32 0, .float .f32 0, .float .f32 0, .float .f32 0, .float .f32 0, .float .f32 0, .float .f32 0, .float .f32 0, .int .i64 0, .float .f32 0, .float .f32 0, .float .f32 0] 26) := ⟨_, rfl⟩
  have b0 : Below w.heap.size w w0 := by rw [hw0]; exact (Below.refl _ _).alloc (Nat.le_refl _) _
  have K0 : Hid (BlkL w0 w.heap.size [.float .f32 0, .float .f32 0, .float .f32 0, .float .f32 0, .float .f32 0, .float .f32 0, .float .f32 0, .float .f32 0, .int .i64 0, .float .f32 0, .float .f32 0, .float .f32 0]) := Lib.hid (by rw [hw0]; exact blkL_at w #[.float .f32 0, .float .f32 0, .float .f32 0, .float .f32 0, .float .f32 0, .float .f32 0, .float .f32 0, .float .f32 0, .int .i64 0, .float .f32 0, .float .f32 0, .float .f32 0] _ rfl)
  have HC := Lib.hid (i_rvDrive s pv w0 hs (hE.below b0) (hT.below b0) (hX.below b0) (hM.below b0) (hV.below b0))
  have B0 := Lib.hid b0
  clear hs hE hT hX hM hV b0
  generalize (if rdO s then dvP s 0 else 0) = x0 at HC ⊢
  generalize (if rdO s then dvP s 1 else 0) = x1 at HC ⊢
  generalize (if rdO s then dvP s 2 else 0) = x2 at HC ⊢
  generalize (if rdO s then dvP s 3 else 0) = x3 at HC ⊢
  generalize (if rdO s then dvP s 4 else 0) = x4 at HC ⊢
  generalize (if rdO s then dvP s 5 else 0) = x5 at HC ⊢
  generalize (if rdO s then dvP s 6 else 0) = x6 at HC ⊢
  generalize (if rdO s then dvP s 7 else 0) = x7 at HC ⊢
  generalize (if rdO s then dvZ s else 0) = z at HC ⊢
  generalize (if rdO s then dvE s 0 else 0) = y0 at HC ⊢
  generalize (if rdO s then dvE s 1 else 0) = y1 at HC ⊢
  generalize (if rdO s then dvE s 2 else 0) = y2 at HC ⊢
  generalize rdO s = bb at HC ⊢
  go_enter Tryz.func8, Tryz.ntmps8
  go_upto_region 1 with fail
  rw [← hw0]
  clear hw0
  go_wp2_with fail
  refine HC.out.mono ?_
  rintro e w1 ⟨rfl, b1⟩
  have K1 := Lib.hid (K0.out.below b1)
  have BB := Lib.hid (below_of B0.out B0.out.size b1)
  clear b1 K0 B0 HC
  obtain ⟨⟨f0, g0⟩, ⟨f1, g1⟩, ⟨f2, g2⟩, ⟨f3, g3⟩, ⟨f4, g4⟩, ⟨f5, g5⟩, ⟨f6, g6⟩, ⟨f7, g7⟩, ⟨f8, g8⟩, ⟨f9, g9⟩, ⟨f10, g10⟩, ⟨f11, g11⟩⟩ : (_ ∧ _) ∧ (_ ∧ _) ∧ (_ ∧ _) ∧ (_ ∧ _) ∧ (_ ∧ _) ∧ (_ ∧ _) ∧ (_ ∧ _) ∧ (_ ∧ _) ∧ (_ ∧ _) ∧ (_ ∧ _) ∧ (_ ∧ _) ∧ (_ ∧ _) := ⟨K1.out.2 0 _ rfl, K1.out.2 1 _ rfl, K1.out.2 2 _ rfl, K1.out.2 3 _ rfl, K1.out.2 4 _ rfl, K1.out.2 5 _ rfl, K1.out.2 6 _ rfl, K1.out.2 7 _ rfl, K1.out.2 8 _ rfl, K1.out.2 9 _ rfl, K1.out.2 10 _ rfl, K1.out.2 11 _ rfl⟩
  go_wp2
  have R := Lib.hid (((((((((((((BB.out.setCell (p := ⟨w.heap.size, 0, none⟩) (by simp) (.float .f32 x0)).setCell (p := ⟨w.heap.size, 1, none⟩) (by simp) (.float .f32 x1)).setCell (p := ⟨w.heap.size, 2, none⟩) (by simp) (.float .f32 x2)).setCell (p := ⟨w.heap.size, 3, none⟩) (by simp) (.float .f32 x3)).setCell (p := ⟨w.heap.size, 4, none⟩) (by simp) (.float .f32 x4)).setCell (p := ⟨w.heap.size, 5, none⟩) (by simp) (.float .f32 x5)).setCell (p := ⟨w.heap.size, 6, none⟩) (by simp) (.float .f32 x6)).setCell (p := ⟨w.heap.size, 7, none⟩) (by simp) (.float .f32 x7)).setCell (p := ⟨w.heap.size, 8, none⟩) (by simp) (.int .i64 z)).setCell (p := ⟨w.heap.size, 9, none⟩) (by simp) (.float .f32 y0)).setCell (p := ⟨w.heap.size, 10, none⟩) (by simp) (.float .f32 y1)).setCell (p := ⟨w.heap.size, 11, none⟩) (by simp) (.float .f32 y2)))
  have Q := Lib.hid (((((((((((((K1.out.set (i := 0) (by simp) (.float .f32 x0)).set (i := 1) (by simp) (.float .f32 x1)).set (i := 2) (by simp) (.float .f32 x2)).set (i := 3) (by simp) (.float .f32 x3)).set (i := 4) (by simp) (.float .f32 x4)).set (i := 5) (by simp) (.float .f32 x5)).set (i := 6) (by simp) (.float .f32 x6)).set (i := 7) (by simp) (.float .f32 x7)).set (i := 8) (by simp) (.int .i64 z)).set (i := 9) (by simp) (.float .f32 y0)).set (i := 10) (by simp) (.float .f32 y1)).set (i := 11) (by simp) (.float .f32 y2)))
  obtain ⟨c0, c1, c2, c3, c4, c5, c6, c7, c8, c9, c10, c11⟩ : _ ∧ _ ∧ _ ∧ _ ∧ _ ∧ _ ∧ _ ∧ _ ∧ _ ∧ _ ∧ _ ∧ _ := ⟨(Q.out.2 0 _ rfl).1, (Q.out.2 1 _ rfl).1, (Q.out.2 2 _ rfl).1, (Q.out.2 3 _ rfl).1, (Q.out.2 4 _ rfl).1, (Q.out.2 5 _ rfl).1, (Q.out.2 6 _ rfl).1, (Q.out.2 7 _ rfl).1, (Q.out.2 8 _ rfl).1, (Q.out.2 9 _ rfl).1, (Q.out.2 10 _ rfl).1, (Q.out.2 11 _ rfl).1⟩
  refine bodyPost_ret (v := .tuple #[.agg #[.float .f32 x0, .float .f32 x1, .float .f32 x2, .float .f32 x3, .float .f32 x4, .float .f32 x5, .float .f32 x6, .float .f32 x7, .int .i64 z, .float .f32 y0, .float .f32 y1, .float .f32 y2], .bool bb]) ?_ rfl ⟨rfl, R.out⟩
  simp [results, Tryz.results8, go_sem, c0, c1, c2, c3, c4, c5, c6, c7, c8, c9, c10, c11]
end Go.Proofs.YtknabmknboffgaaGreatDoor
