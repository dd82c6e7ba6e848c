/- Farms with other places: a copy in the program. No statement is proved here. -/
import Derived.Test.YtiiiigldpbomkaaPlaI
namespace Go.Proofs.Ytiiiigldpbomkaa
open Go Go.RowKit
set_option maxHeartbeats 16000000 in
set_option maxRecDepth 100000 in
theorem i_copyF (X Y : Option Addr) (cx cy : Nat) (fx fy : List Nat) (fr fd fs : Nat) (w : World) (h : Rs w X Y fx fy) (hn : FewS fx fy) (hx : 1 ≤ fx.length) (hy : 1 ≤ fy.length) :
    Calls Try.prog 135 #[.agg #[.slice X fx.length cx, .slice Y fy.length cy, .float .f32 fr, .float .f32 fd, .float .f32 fs]] w fun e w' => ∃ bx cp1 by' cp2, e = .returned (.agg #[.slice (some ⟨bx, 0, none⟩) fx.length cp1, .slice (some ⟨by', 0, none⟩) fy.length cp2, .float .f32 fr, .float .f32 fd, .float .f32 fs]) ∧ Own w' bx fx ∧ Own w' by' fy ∧ bx ≠ by' ∧ w.heap.size ≤ bx ∧ w.heap.size ≤ by' ∧ Below w.heap.size w w' := by
  unfold FewS at hn
  have HP := Lib.hid h; clear h
  obtain ⟨w1, hw1⟩ : ∃ x, x = (w.alloc (.cells #[.slice X fx.length cx, .slice Y fy.length cy, .float .f32 fr, .float .f32 fd, .float .f32 fs] 79)).alloc (.cells #[.slice none 0 0, .slice none 0 0, .float .f32 0, .float .f32 0, .float .f32 0] 79) := ⟨_, rfl⟩
  have L1 : Hid (BlkL w1 w.heap.size [.slice X fx.length cx, .slice Y fy.length cy, .float .f32 fr, .float .f32 fd, .float .f32 fs]) := Lib.hid (by rw [hw1]; exact (blkL_at w #[.slice X fx.length cx, .slice Y fy.length cy, .float .f32 fr, .float .f32 fd, .float .f32 fs] _ rfl).alloc _)
  have R1 : Hid (BlkL w1 (w.heap.size + 1) [.slice none 0 0, .slice none 0 0, .float .f32 0, .float .f32 0, .float .f32 0]) := Lib.hid (by rw [hw1]; exact blkL_at (w.alloc _) #[.slice none 0 0, .slice none 0 0, .float .f32 0, .float .f32 0, .float .f32 0] _ (by simp))
  have B1 : Hid (Below w.heap.size w w1) := Lib.hid (by rw [hw1]; exact ((Below.refl _ _).alloc (Nat.le_refl _) _).alloc (by simp) _)
  have Z1 : Hid (w1.heap.size = w.heap.size + 2) := Lib.hid (by rw [hw1]; simp)
  have HCX : ∀ W, Below w1.heap.size w1 W → Hid (Calls Try.prog 154 #[.slice X fx.length cx] W fun e w' => ∃ cp g, e = .returned (.slice (some ⟨g, 0, none⟩) fx.length cp) ∧ Own w' g fx ∧ W.heap.size ≤ g ∧ Below W.heap.size W w') := fun W hb => Lib.hid (lib_CloneF X cx fx W (HP.out.1.below (below_of B1.out B1.out.size hb)) (by omega) hx)
  have HCY : ∀ W, Below w1.heap.size w1 W → Hid (Calls Try.prog 154 #[.slice Y fy.length cy] W fun e w' => ∃ cp g, e = .returned (.slice (some ⟨g, 0, none⟩) fy.length cp) ∧ Own w' g fy ∧ W.heap.size ≤ g ∧ Below W.heap.size W w') := fun W hb => Lib.hid (lib_CloneF Y cy fy W (HP.out.2.below (below_of B1.out B1.out.size hb)) (by omega) hy)
  have k0 := (L1.out.2 0 _ rfl).1
  have k1 := (L1.out.2 1 _ rfl).1
  have f0 := (L1.out.2 0 _ rfl).2
  have f1 := (L1.out.2 1 _ rfl).2
  go_enter Try.func135, Try.ntmps135
  go_wp2_with fail
  rw [← hw1]
  clear hw1
  go_region_with (first
    | (refine (HCX wA BA.out).out.mono ?_; rintro e wB ⟨cX, gX, rfl, ho, hlo, hb⟩; have HOX := Lib.hid ho; have HO2Y := Lib.hid (HOY.out.below hb); have HNE : Hid (gX ≠ gY ∧ gX ≠ w.heap.size ∧ gY ≠ w.heap.size ∧ w.heap.size ≤ gX ∧ w.heap.size ≤ gY) := Lib.hid (by have := HLY.out; have := Z1.out; omega); have HNZ : Hid (w.heap.size + 2 ≤ gX ∧ w.heap.size + 2 ≤ gY) := Lib.hid (by have := HLY.out; have := Z1.out; omega); have BB : Hid (Below w.heap.size w wB) := Lib.hid (below_of (below_of B1.out B1.out.size BA.out) (below_of B1.out B1.out.size BA.out).size hb); have LB : Hid (BlkL wB w.heap.size [.slice X fx.length cx, .slice Y fy.length cy, .float .f32 fr, .float .f32 fd, .float .f32 fs]) := Lib.hid (LA.out.below hb); have RB : Hid (BlkL wB (w.heap.size + 1) [.slice none 0 0, .slice none 0 0, .float .f32 0, .float .f32 0, .float .f32 0]) := Lib.hid ((R1.out.below BA.out).below hb); clear ho hlo hb k0 k1 f0 f1 HOY; have HOY := HO2Y; clear HO2Y BA LA HLY; have k0 := (LB.out.2 0 _ rfl).1; have k1 := (LB.out.2 1 _ rfl).1; have f0 := (LB.out.2 0 _ rfl).2; have f1 := (LB.out.2 1 _ rfl).2)
    | (refine (HCY wA BA.out).out.mono ?_; rintro e wB ⟨cY, gY, rfl, ho, hlo, hb⟩; have HOY := Lib.hid ho; have HO2X := Lib.hid (HOX.out.below hb); have HNE : Hid (gY ≠ gX ∧ gY ≠ w.heap.size ∧ gX ≠ w.heap.size ∧ w.heap.size ≤ gY ∧ w.heap.size ≤ gX) := Lib.hid (by have := HLX.out; have := Z1.out; omega); have HNZ : Hid (w.heap.size + 2 ≤ gY ∧ w.heap.size + 2 ≤ gX) := Lib.hid (by have := HLX.out; have := Z1.out; omega); have BB : Hid (Below w.heap.size w wB) := Lib.hid (below_of (below_of B1.out B1.out.size BA.out) (below_of B1.out B1.out.size BA.out).size hb); have LB : Hid (BlkL wB w.heap.size [.slice X fx.length cx, .slice Y fy.length cy, .float .f32 fr, .float .f32 fd, .float .f32 fs]) := Lib.hid (LA.out.below hb); have RB : Hid (BlkL wB (w.heap.size + 1) [.slice none 0 0, .slice none 0 0, .float .f32 0, .float .f32 0, .float .f32 0]) := Lib.hid ((R1.out.below BA.out).below hb); clear ho hlo hb k0 k1 f0 f1 HOX; have HOX := HO2X; clear HO2X BA LA HLX; have k0 := (LB.out.2 0 _ rfl).1; have k1 := (LB.out.2 1 _ rfl).1; have f0 := (LB.out.2 0 _ rfl).2; have f1 := (LB.out.2 1 _ rfl).2)
    | (refine (HCX _ (below_draws (Below.refl _ _) 1)).out.mono ?_; rintro e wA ⟨cX, gX, rfl, ho, hlo, hb⟩; have HOX := Lib.hid ho; have HLX : Hid (w1.heap.size ≤ gX ∧ gX < wA.heap.size) := Lib.hid ⟨hlo, ho.1⟩; have BA : Hid (Below w1.heap.size w1 wA) := Lib.hid (below_of (below_draws (Below.refl _ _) 1) (Nat.le_refl _) hb); have LA : Hid (BlkL wA w.heap.size [.slice X fx.length cx, .slice Y fy.length cy, .float .f32 fr, .float .f32 fd, .float .f32 fs]) := Lib.hid ((L1.out.draws 1).below hb); clear ho hlo hb k0 k1 f0 f1; have k0 := (LA.out.2 0 _ rfl).1; have k1 := (LA.out.2 1 _ rfl).1; have f0 := (LA.out.2 0 _ rfl).2; have f1 := (LA.out.2 1 _ rfl).2)
    | (refine (HCY _ (below_draws (Below.refl _ _) 1)).out.mono ?_; rintro e wA ⟨cY, gY, rfl, ho, hlo, hb⟩; have HOY := Lib.hid ho; have HLY : Hid (w1.heap.size ≤ gY ∧ gY < wA.heap.size) := Lib.hid ⟨hlo, ho.1⟩; have BA : Hid (Below w1.heap.size w1 wA) := Lib.hid (below_of (below_draws (Below.refl _ _) 1) (Nat.le_refl _) hb); have LA : Hid (BlkL wA w.heap.size [.slice X fx.length cx, .slice Y fy.length cy, .float .f32 fr, .float .f32 fd, .float .f32 fs]) := Lib.hid ((L1.out.draws 1).below hb); clear ho hlo hb k0 k1 f0 f1; have k0 := (LA.out.2 0 _ rfl).1; have k1 := (LA.out.2 1 _ rfl).1; have f0 := (LA.out.2 0 _ rfl).2; have f1 := (LA.out.2 1 _ rfl).2))
  all_goals
    clear k0 k1 f0 f1 HCX HCY L1 R1 B1 Z1
    obtain ⟨w5, hw5⟩ : ∃ z, z = (wB.setCell ⟨w.heap.size, 0, none⟩ (.slice (some ⟨gX, 0, none⟩) fx.length cX)).setCell ⟨w.heap.size, 1, none⟩ (.slice (some ⟨gY, 0, none⟩) fy.length cY) := ⟨_, rfl⟩
    have L5 : Hid (BlkL w5 w.heap.size [.slice (some ⟨gX, 0, none⟩) fx.length cX, .slice (some ⟨gY, 0, none⟩) fy.length cY, .float .f32 fr, .float .f32 fd, .float .f32 fs]) := Lib.hid (by rw [hw5]; exact (LB.out.set (i := 0) (by simp) _).set (i := 1) (by simp) _)
    have R5 : Hid (BlkL w5 (w.heap.size + 1) [.slice none 0 0, .slice none 0 0, .float .f32 0, .float .f32 0, .float .f32 0]) := Lib.hid (by rw [hw5]; exact (RB.out.other (by show w.heap.size ≠ w.heap.size + 1; omega) _).other (by show w.heap.size ≠ w.heap.size + 1; omega) _)
    have X5 : Hid (Own w5 gX fx) := Lib.hid (by rw [hw5]; exact (HOX.out.setCell (by have := HNE.out; show w.heap.size ≠ gX; omega) _).setCell (by have := HNE.out; show w.heap.size ≠ gX; omega) _)
    have Y5 : Hid (Own w5 gY fy) := Lib.hid (by rw [hw5]; exact (HOY.out.setCell (by have := HNE.out; show w.heap.size ≠ gY; omega) _).setCell (by have := HNE.out; show w.heap.size ≠ gY; omega) _)
    have B5 : Hid (Below w.heap.size w w5) := Lib.hid (by rw [hw5]; exact (BB.out.setCell (by show w.heap.size ≤ w.heap.size; omega) _).setCell (by show w.heap.size ≤ w.heap.size; omega) _)
    have HN5 : Hid (gX ≠ gY ∧ gX ≠ w.heap.size + 1 ∧ gY ≠ w.heap.size + 1 ∧ w.heap.size ≤ gX ∧ w.heap.size ≤ gY) := Lib.hid (by have := HNE.out; have := HNZ.out; omega)
    rw [← hw5]
    clear hw5 LB RB HOX HOY HNE BB HNZ
    obtain ⟨k0, k1, k2, k3, k4⟩ := L5.out.five
    have p0 := (R5.out.2 0 _ rfl).1
    have q0 := (R5.out.2 0 _ rfl).2
    have p1 := (R5.out.2 1 _ rfl).1
    have q1 := (R5.out.2 1 _ rfl).2
    have p2 := (R5.out.2 2 _ rfl).1
    have q2 := (R5.out.2 2 _ rfl).2
    have p3 := (R5.out.2 3 _ rfl).1
    have q3 := (R5.out.2 3 _ rfl).2
    have p4 := (R5.out.2 4 _ rfl).1
    have q4 := (R5.out.2 4 _ rfl).2
    go_wp2
    refine bodyPost_ret (v := .agg #[.slice (some ⟨gX, 0, none⟩) fx.length cX, .slice (some ⟨gY, 0, none⟩) fy.length cY, .float .f32 fr, .float .f32 fd, .float .f32 fs]) ?_ rfl ?_
    · simp [results, Try.results135, go_sem, p0, p1, p2, p3, p4]
    · obtain ⟨e1, e2, e3, e4, e5⟩ := HN5.out
      exact ⟨gX, cX, gY, cY, rfl, (((((X5.out).setCell (p := ⟨w.heap.size + 1, 0, none⟩) (by show w.heap.size + 1 ≠ _; omega) _).setCell (p := ⟨w.heap.size + 1, 1, none⟩) (by show w.heap.size + 1 ≠ _; omega) _).setCell (p := ⟨w.heap.size + 1, 2, none⟩) (by show w.heap.size + 1 ≠ _; omega) _).setCell (p := ⟨w.heap.size + 1, 3, none⟩) (by show w.heap.size + 1 ≠ _; omega) _).setCell (p := ⟨w.heap.size + 1, 4, none⟩) (by show w.heap.size + 1 ≠ _; omega) _, (((((Y5.out).setCell (p := ⟨w.heap.size + 1, 0, none⟩) (by show w.heap.size + 1 ≠ _; omega) _).setCell (p := ⟨w.heap.size + 1, 1, none⟩) (by show w.heap.size + 1 ≠ _; omega) _).setCell (p := ⟨w.heap.size + 1, 2, none⟩) (by show w.heap.size + 1 ≠ _; omega) _).setCell (p := ⟨w.heap.size + 1, 3, none⟩) (by show w.heap.size + 1 ≠ _; omega) _).setCell (p := ⟨w.heap.size + 1, 4, none⟩) (by show w.heap.size + 1 ≠ _; omega) _, e1, e4, e5, (((((B5.out).setCell (p := ⟨w.heap.size + 1, 0, none⟩) (by show w.heap.size ≤ w.heap.size + 1; omega) _).setCell (p := ⟨w.heap.size + 1, 1, none⟩) (by show w.heap.size ≤ w.heap.size + 1; omega) _).setCell (p := ⟨w.heap.size + 1, 2, none⟩) (by show w.heap.size ≤ w.heap.size + 1; omega) _).setCell (p := ⟨w.heap.size + 1, 3, none⟩) (by show w.heap.size ≤ w.heap.size + 1; omega) _).setCell (p := ⟨w.heap.size + 1, 4, none⟩) (by show w.heap.size ≤ w.heap.size + 1; omega) _⟩
end Go.Proofs.Ytiiiigldpbomkaa
