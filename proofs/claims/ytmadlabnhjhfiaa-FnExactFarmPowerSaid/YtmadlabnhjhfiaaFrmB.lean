/- Farms with other places: both sides. No statement is proved here. -/
import Derived.Test.YtmadlabnhjhfiaaFrmA
import Derived.Test.YtmadlabnhjhfiaaPlc
namespace Go.Proofs.Ytmadlabnhjhfiaa
open Go Go.RowKit
def gL (o : Bool) (xs : List Nat) : List Nat := if o then xs else []
def gF (o : Bool) (x : Nat) : Nat := if o then x else 0
theorem gLf_few (o : Bool) {xs ys : List Nat} (h : FewS xs ys) : FewS (gL o xs) (gL o ys) := by cases o <;> simp [gL, FewS] at * <;> exact h
set_option maxHeartbeats 8000000 in
theorem i_withPlaces_yes (X0 Y0 : Option Addr) (n0 c0 n1 c1 : Nat) (X Y : Option Addr) (cx cy : Nat) (fx fy : List Nat) (fr fd fs : Nat) (w : World) (h : Rs w X Y fx fy) (hn : FewS fx fy) (hv : frmV fx fy fr fd fs = true) :
    Calls Try.prog 175 #[.agg #[.slice X0 n0 c0, .slice Y0 n1 c1, .float .f32 fr, .float .f32 fd, .float .f32 fs], .slice X fx.length cx, .slice Y fy.length cy] w fun e w' => e = .returned (.tuple #[.agg #[.slice X fx.length cx, .slice Y fy.length cy, .float .f32 fr, .float .f32 fd, .float .f32 fs], .bool true]) ∧ Below w.heap.size w w' := by
  have HP := Lib.hid h; clear h
  have HV := Lib.hid hv; clear hv
  have HB : ∀ o1 o2, Hid (Below w.heap.size w ((w.alloc o1).alloc o2)) := fun _ _ => Lib.hid (((Below.refl _ _).alloc (Nat.le_refl _) _).alloc (by simp) _)
  have K0 : ∀ t o, Hid (BlkL ((w.alloc (.cells #[.slice X fx.length cx, .slice Y fy.length cy, .float .f32 fr, .float .f32 fd, .float .f32 fs] t)).alloc o) w.heap.size [.slice X fx.length cx, .slice Y fy.length cy, .float .f32 fr, .float .f32 fd, .float .f32 fs]) := fun t o => Lib.hid ((blkL_at w #[.slice X fx.length cx, .slice Y fy.length cy, .float .f32 fr, .float .f32 fd, .float .f32 fs] t rfl).alloc o)
  have K1 : ∀ t o, Hid (BlkL ((w.alloc o).alloc (.cells #[.slice none 0 0, .slice none 0 0, .float .f32 0, .float .f32 0, .float .f32 0] t)) (w.heap.size + 1) [.slice none 0 0, .slice none 0 0, .float .f32 0, .float .f32 0, .float .f32 0]) := fun t o => Lib.hid (blkL_at (w.alloc o) #[.slice none 0 0, .slice none 0 0, .float .f32 0, .float .f32 0, .float .f32 0] t (by simp))
  go_enter Try.func175, Try.ntmps175
  go_wp2_with fail
  refine (i_ValidFarm X Y cx cy fx fy fr fd fs _ (HP.out.below (HB _ _).out) hn).mono ?_
  rintro e w1 ⟨rfl, b1⟩
  have L0 : Hid (BlkL w1 w.heap.size [.slice X fx.length cx, .slice Y fy.length cy, .float .f32 fr, .float .f32 fd, .float .f32 fs]) := Lib.hid ((K0 _ _).out.below b1)
  have L1 : Hid (BlkL w1 (w.heap.size + 1) [.slice none 0 0, .slice none 0 0, .float .f32 0, .float .f32 0, .float .f32 0]) := Lib.hid ((K1 _ _).out.below b1)
  have B1 : Hid (Below w.heap.size w w1) := Lib.hid (below_of (HB _ _).out (HB _ _).out.size b1)
  clear b1 K0 K1 HB
  rw [HV.out]
  obtain ⟨k0, k1, k2, k3, k4⟩ := L0.out.five
  have p0 := (L1.out.2 0 _ rfl).1
  have q0 := (L1.out.2 0 _ rfl).2
  have p1 := (L1.out.2 1 _ rfl).1
  have q1 := (L1.out.2 1 _ rfl).2
  have p2 := (L1.out.2 2 _ rfl).1
  have q2 := (L1.out.2 2 _ rfl).2
  have p3 := (L1.out.2 3 _ rfl).1
  have q3 := (L1.out.2 3 _ rfl).2
  have p4 := (L1.out.2 4 _ rfl).1
  have q4 := (L1.out.2 4 _ rfl).2
  go_wp2
  refine bodyPost_ret (v := .tuple #[.agg #[.slice X fx.length cx, .slice Y fy.length cy, .float .f32 fr, .float .f32 fd, .float .f32 fs], .bool true]) ?_ rfl ⟨rfl, ?_⟩
  · simp [results, Try.results175, go_sem, p0, p1, p2, p3, p4]
  · exact (((((B1.out).setCell (p := ⟨w.heap.size + 1, 0, none⟩) (by show w.heap.size ≤ w.heap.size + 1; omega) _).setCell (p := ⟨w.heap.size + 1, 1, none⟩) (by show w.heap.size ≤ w.heap.size + 1; omega) _).setCell (p := ⟨w.heap.size + 1, 2, none⟩) (by show w.heap.size ≤ w.heap.size + 1; omega) _).setCell (p := ⟨w.heap.size + 1, 3, none⟩) (by show w.heap.size ≤ w.heap.size + 1; omega) _).setCell (p := ⟨w.heap.size + 1, 4, none⟩) (by show w.heap.size ≤ w.heap.size + 1; omega) _
set_option maxHeartbeats 8000000 in
theorem i_withPlaces_no (X0 Y0 : Option Addr) (n0 c0 n1 c1 : Nat) (X Y : Option Addr) (cx cy : Nat) (fx fy : List Nat) (fr fd fs : Nat) (w : World) (h : Rs w X Y fx fy) (hn : FewS fx fy) (hv : frmV fx fy fr fd fs = false) :
    Calls Try.prog 175 #[.agg #[.slice X0 n0 c0, .slice Y0 n1 c1, .float .f32 fr, .float .f32 fd, .float .f32 fs], .slice X fx.length cx, .slice Y fy.length cy] w fun e w' => e = .returned (.tuple #[.agg #[.slice none 0 0, .slice none 0 0, .float .f32 0, .float .f32 0, .float .f32 0], .bool false]) ∧ Below w.heap.size w w' := by
  have HP := Lib.hid h; clear h
  have HV := Lib.hid hv; clear hv
  have HB : ∀ o1 o2, Hid (Below w.heap.size w ((w.alloc o1).alloc o2)) := fun _ _ => Lib.hid (((Below.refl _ _).alloc (Nat.le_refl _) _).alloc (by simp) _)
  have K0 : ∀ t o, Hid (BlkL ((w.alloc (.cells #[.slice X fx.length cx, .slice Y fy.length cy, .float .f32 fr, .float .f32 fd, .float .f32 fs] t)).alloc o) w.heap.size [.slice X fx.length cx, .slice Y fy.length cy, .float .f32 fr, .float .f32 fd, .float .f32 fs]) := fun t o => Lib.hid ((blkL_at w #[.slice X fx.length cx, .slice Y fy.length cy, .float .f32 fr, .float .f32 fd, .float .f32 fs] t rfl).alloc o)
  have K1 : ∀ t o, Hid (BlkL ((w.alloc o).alloc (.cells #[.slice none 0 0, .slice none 0 0, .float .f32 0, .float .f32 0, .float .f32 0] t)) (w.heap.size + 1) [.slice none 0 0, .slice none 0 0, .float .f32 0, .float .f32 0, .float .f32 0]) := fun t o => Lib.hid (blkL_at (w.alloc o) #[.slice none 0 0, .slice none 0 0, .float .f32 0, .float .f32 0, .float .f32 0] t (by simp))
  go_enter Try.func175, Try.ntmps175
  go_wp2_with fail
  refine (i_ValidFarm X Y cx cy fx fy fr fd fs _ (HP.out.below (HB _ _).out) hn).mono ?_
  rintro e w1 ⟨rfl, b1⟩
  have L0 : Hid (BlkL w1 w.heap.size [.slice X fx.length cx, .slice Y fy.length cy, .float .f32 fr, .float .f32 fd, .float .f32 fs]) := Lib.hid ((K0 _ _).out.below b1)
  have L1 : Hid (BlkL w1 (w.heap.size + 1) [.slice none 0 0, .slice none 0 0, .float .f32 0, .float .f32 0, .float .f32 0]) := Lib.hid ((K1 _ _).out.below b1)
  have B1 : Hid (Below w.heap.size w w1) := Lib.hid (below_of (HB _ _).out (HB _ _).out.size b1)
  clear b1 K0 K1 HB
  rw [HV.out]
  obtain ⟨k0, k1, k2, k3, k4⟩ := L0.out.five
  have p0 := (L1.out.2 0 _ rfl).1
  have q0 := (L1.out.2 0 _ rfl).2
  have p1 := (L1.out.2 1 _ rfl).1
  have q1 := (L1.out.2 1 _ rfl).2
  have p2 := (L1.out.2 2 _ rfl).1
  have q2 := (L1.out.2 2 _ rfl).2
  have p3 := (L1.out.2 3 _ rfl).1
  have q3 := (L1.out.2 3 _ rfl).2
  have p4 := (L1.out.2 4 _ rfl).1
  have q4 := (L1.out.2 4 _ rfl).2
  go_wp2
  refine bodyPost_ret (v := .tuple #[.agg #[.slice none 0 0, .slice none 0 0, .float .f32 0, .float .f32 0, .float .f32 0], .bool false]) ?_ rfl ⟨rfl, ?_⟩
  · simp [results, Try.results175, go_sem, p0, p1, p2, p3, p4]
  · exact (((((B1.out).setCell (p := ⟨w.heap.size + 1, 0, none⟩) (by show w.heap.size ≤ w.heap.size + 1; omega) _).setCell (p := ⟨w.heap.size + 1, 1, none⟩) (by show w.heap.size ≤ w.heap.size + 1; omega) _).setCell (p := ⟨w.heap.size + 1, 2, none⟩) (by show w.heap.size ≤ w.heap.size + 1; omega) _).setCell (p := ⟨w.heap.size + 1, 3, none⟩) (by show w.heap.size ≤ w.heap.size + 1; omega) _).setCell (p := ⟨w.heap.size + 1, 4, none⟩) (by show w.heap.size ≤ w.heap.size + 1; omega) _
end Go.Proofs.Ytmadlabnhjhfiaa
