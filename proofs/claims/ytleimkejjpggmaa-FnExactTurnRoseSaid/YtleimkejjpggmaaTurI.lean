/- TurnRose: the program's side. No statement is proved here. -/
import Derived.Test.YtleimkejjpggmaaTurM
namespace Go.Proofs.Ytleimkejjpggmaa
open Go Go.RowKit
set_option maxHeartbeats 8000000 in
set_option maxRecDepth 20000 in
theorem i_TurnRose (A L : Option Addr) (ca cl : Nat) (a l : List Nat) (y : Int) (w : World) (h : Rs w A L a l) (hn : FewS a l) :
    Calls Try.prog 31 #[.agg #[.slice A a.length ca, .slice L l.length cl], .int .i64 y] w fun e w' => ∃ (R1 R2 : Option Addr) (c1 c2 g1 g2 : Nat), e = .returned (.tuple #[.agg #[.slice R1 (gLn (trnO a l y) (trnL a y)).length c1, .slice R2 (gLn (trnO a l y) (trnL l y)).length c2], .bool (trnO a l y)]) ∧ OwnR2 w' w.heap.size R1 R2 g1 g2 (gLn (trnO a l y) (trnL a y)) (gLn (trnO a l y) (trnL l y)) ∧ Below w.heap.size w w' := by
  have HP := Lib.hid h; clear h
  have HNF := Lib.hid hn
  obtain ⟨w0, hw0⟩ : ∃ x, x = ((w.alloc (.cells #[.slice A a.length ca, .slice L l.length cl] 47)).alloc (.cells #[.int .i64 y] 2)).alloc (.cells #[.slice none 0 0, .slice none 0 0] 47) := ⟨_, rfl⟩
  have K0 : Hid (BlkL w0 w.heap.size [.slice A a.length ca, .slice L l.length cl]) := Lib.hid (by rw [hw0]; exact ((blkL_at w #[.slice A a.length ca, .slice L l.length cl] _ rfl).alloc _).alloc _)
  have KY : Hid (BlkL w0 (w.heap.size + 1) [.int .i64 y]) := Lib.hid (by rw [hw0]; exact (blkL_at (w.alloc _) #[.int .i64 y] _ (by simp)).alloc _)
  have KR : Hid (BlkL w0 (w.heap.size + 2) [.slice none 0 0, .slice none 0 0]) := Lib.hid (by rw [hw0]; exact blkL_at ((w.alloc _).alloc _) #[.slice none 0 0, .slice none 0 0] _ (by simp))
  have B0 : Hid (Below w.heap.size w w0) := Lib.hid (by rw [hw0]; exact (((Below.refl _ _).alloc (Nat.le_refl _) _).alloc (by simp) _).alloc (by simp; omega) _)
  have Z0 : Hid (w0.heap.size = w.heap.size + 3) := Lib.hid (by rw [hw0]; simp)
  obtain ⟨k0, k1⟩ := K0.out.two
  go_enter Try.func31, Try.ntmps31
  go_wp2_with fail
  rw [← hw0]
  clear hw0
  refine (i_ValidRose A L ca cl a l _ (HP.out.below B0.out) hn).mono ?_
  rintro e w1 ⟨rfl, b1⟩
  clear k0 k1
  have L0 : Hid (BlkL w1 w.heap.size [.slice A a.length ca, .slice L l.length cl]) := Lib.hid (K0.out.below b1)
  have LY : Hid (BlkL w1 (w.heap.size + 1) [.int .i64 y]) := Lib.hid (KY.out.below b1)
  have LR : Hid (BlkL w1 (w.heap.size + 2) [.slice none 0 0, .slice none 0 0]) := Lib.hid (KR.out.below b1)
  have B1 : Hid (Below w.heap.size w w1) := Lib.hid (below_of B0.out B0.out.size b1)
  have Z1 : Hid (w.heap.size + 3 ≤ w1.heap.size) := Lib.hid (by have := b1.size; have := Z0.out; omega)
  clear b1
  have k0 := (L0.out.2 0 _ rfl).1
  have ky := (LY.out.2 0 _ rfl).1
  cases v : rosV a l
  · have HN := Lib.hid (trnO_v (y := y) v); clear v
    have p0 := (LR.out.2 0 _ rfl).1
    have q0 := (LR.out.2 0 _ rfl).2
    have p1 := (LR.out.2 1 _ rfl).1
    have q1 := (LR.out.2 1 _ rfl).2
    go_wp2
    refine bodyPost_ret (v := .tuple #[.agg #[.slice none 0 0, .slice none 0 0], .bool false]) ?_ rfl ?_
    · simp [results, Try.results31, go_sem, p0, p1]
    · rw [HN.out]
      exact ⟨none, none, 0, 0, 0, 1, rfl, ⟨.inl rfl, .inl rfl, by decide⟩, ((B1.out).setCell (p := ⟨w.heap.size + 2, 0, none⟩) (by show w.heap.size ≤ w.heap.size + 2; omega) _).setCell (p := ⟨w.heap.size + 2, 1, none⟩) (by show w.heap.size ≤ w.heap.size + 2; omega) _⟩
  · have V := Lib.hid v
    obtain ⟨s1, s2, s3⟩ := rosV_sized v
    have S3 := Lib.hid s3
    clear v s3
    by_cases y1 : -16 ≤ y
    · by_cases y2 : y ≤ 16
      · have HN := Lib.hid (trnO_yes V.out ⟨y1, y2⟩)
        obtain ⟨w3, hw3⟩ : ∃ x, x = w1.alloc (.cells #[.int .i64 a.length] 3) := ⟨_, rfl⟩
        have b3 : Below w1.heap.size w1 w3 := by rw [hw3]; exact (Below.refl _ _).alloc (Nat.le_refl _) _
        have L3 : Hid (BlkL w3 w.heap.size [.slice A a.length ca, .slice L l.length cl]) := Lib.hid (L0.out.below b3)
        have LY3 : Hid (BlkL w3 (w.heap.size + 1) [.int .i64 y]) := Lib.hid (LY.out.below b3)
        have LR3 : Hid (BlkL w3 (w.heap.size + 2) [.slice none 0 0, .slice none 0 0]) := Lib.hid (LR.out.below b3)
        have LC3 : Hid (BlkL w3 w1.heap.size [.int .i64 a.length]) := Lib.hid (by rw [hw3]; exact blkL_at w1 #[.int .i64 a.length] _ rfl)
        have B3 : Hid (Below w.heap.size w w3) := Lib.hid (below_of B1.out B1.out.size b3)
        have Z3 : Hid (w.heap.size + 3 ≤ w3.heap.size) := Lib.hid (by have := b3.size; have := Z1.out; omega)
        have r0 : w3.cell? ⟨w.heap.size, 0, none⟩ = some (.slice A a.length ca) := (L3.out.2 0 _ rfl).1
        have r1 : w3.cell? ⟨w.heap.size, 1, none⟩ = some (.slice L l.length cl) := (L3.out.2 1 _ rfl).1
        rw [hw3] at r0 r1
        clear b3
        have HTA : Hid (∀ W, Below w3.heap.size w3 W → Calls Try.prog 64 #[.slice A a.length ca, .pointer (some ⟨w1.heap.size, 0, none⟩), .pointer (some ⟨w.heap.size + 1, 0, none⟩)] W fun e w' => ∃ g, e = .returned (.slice (some ⟨g, 0, none⟩) a.length a.length) ∧ W.heap.size ≤ g ∧ Own w' g (trnL a y) ∧ Below W.heap.size W w') := Lib.hid (fun W hb => i_turned _ _ a.length y A ca a W (HP.out.1.below (below_of B3.out B3.out.size hb)) (LC3.out.below hb) (LY3.out.below hb) s1 s2 y1 y2 rfl)
        have HTL : Hid (∀ W, Below w3.heap.size w3 W → Calls Try.prog 64 #[.slice L l.length cl, .pointer (some ⟨w1.heap.size, 0, none⟩), .pointer (some ⟨w.heap.size + 1, 0, none⟩)] W fun e w' => ∃ g, e = .returned (.slice (some ⟨g, 0, none⟩) l.length l.length) ∧ W.heap.size ≤ g ∧ Own w' g (trnL l y) ∧ Below W.heap.size W w') := Lib.hid (fun W hb => i_turned _ _ l.length y L cl l W (HP.out.2.below (below_of B3.out B3.out.size hb)) (by have := LC3.out.below hb; rw [S3.out]; exact this) (LY3.out.below hb) (by have := S3.out; omega) (by have := S3.out; omega) y1 y2 rfl)
        have HB3 := Lib.hid (fun W (hb : Below w3.heap.size w3 W) => ((L3.out.below hb).2 0 _ rfl).1)
        have HB4 := Lib.hid (fun W (hb : Below w3.heap.size w3 W) => ((L3.out.below hb).2 1 _ rfl).1)
        go_wp2
        rw [← hw3]
        rw [← hw3] at r0 r1
        clear hw3
        have HLP := Lib.hid (fun W (hb : Below w3.heap.size w3 W) => LR3.out.below hb)
        go_region_with (go_at_call 64; first | (refine (HTA.out _ (below_draws (Below.refl _ _) 1)).mono ?_; rintro e wA ⟨gA, rfl, hgA, hoA, bA⟩; have BA : Hid (Below w3.heap.size w3 wA) := Lib.hid (below_of (below_draws (Below.refl _ _) 1) (Nat.le_refl _) bA); have OA := Lib.hid hoA; have GA := Lib.hid hgA; clear hoA bA hgA; have t1 := HB4.out wA BA.out) | (refine (HTL.out _ BA.out).mono ?_; rintro e wL ⟨gL, rfl, hgL, hoL, bL⟩; have OA2 := Lib.hid (OA.out.below bL); have OL := Lib.hid hoL; have BL : Hid (Below w3.heap.size w3 wL) := Lib.hid (below_of BA.out BA.out.size bL); have GL : Hid (gA < gL) := Lib.hid (Nat.lt_of_lt_of_le OA.out.1 hgL); clear hoL bL hgL; have p0 := ((HLP.out wL BL.out).2 0 _ rfl).1; have q0 := ((HLP.out wL BL.out).2 0 _ rfl).2; have p1 := ((HLP.out wL BL.out).2 1 _ rfl).1; have q1 := ((HLP.out wL BL.out).2 1 _ rfl).2))
        all_goals
          clear t1 HTA HTL HB3 HB4
          go_wp2
          refine bodyPost_ret (v := .tuple #[.agg #[.slice (some ⟨gA, 0, none⟩) a.length a.length, .slice (some ⟨gL, 0, none⟩) l.length l.length], .bool true]) ?_ rfl ?_
          · simp [results, Try.results31, go_sem, p0, p1]
          · rw [HN.out]
            have z3 := Z3.out
            have ga : w3.heap.size ≤ gA := GA.out
            have gl := GL.out
            refine ⟨some ⟨gA, 0, none⟩, some ⟨gL, 0, none⟩, a.length, l.length, gA, gL, ?_, ?_, (((below_of B3.out B3.out.size BL.out)).setCell (p := ⟨w.heap.size + 2, 0, none⟩) (by show w.heap.size ≤ w.heap.size + 2; omega) _).setCell (p := ⟨w.heap.size + 2, 1, none⟩) (by show w.heap.size ≤ w.heap.size + 2; omega) _⟩
            · show Ending.returned _ = Ending.returned (.tuple #[.agg #[.slice _ (trnL a y).length _, .slice _ (trnL l y).length _], _])
              rw [trnL_length, trnL_length]
            · exact OwnR2.of (((OA2.out).setCell (p := ⟨w.heap.size + 2, 0, none⟩) (by show w.heap.size + 2 ≠ _; omega) _).setCell (p := ⟨w.heap.size + 2, 1, none⟩) (by show w.heap.size + 2 ≠ _; omega) _) (((OL.out).setCell (p := ⟨w.heap.size + 2, 0, none⟩) (by show w.heap.size + 2 ≠ _; omega) _).setCell (p := ⟨w.heap.size + 2, 1, none⟩) (by show w.heap.size + 2 ≠ _; omega) _) (by omega) (by omega)
      · have HN := Lib.hid (trnO_y (a := a) (l := l) (y := y) (by omega))
        have p0 := (LR.out.2 0 _ rfl).1
        have q0 := (LR.out.2 0 _ rfl).2
        have p1 := (LR.out.2 1 _ rfl).1
        have q1 := (LR.out.2 1 _ rfl).2
        go_wp2
        refine bodyPost_ret (v := .tuple #[.agg #[.slice none 0 0, .slice none 0 0], .bool false]) ?_ rfl ?_
        · simp [results, Try.results31, go_sem, p0, p1]
        · rw [HN.out]
          exact ⟨none, none, 0, 0, 0, 1, rfl, ⟨.inl rfl, .inl rfl, by decide⟩, ((B1.out).setCell (p := ⟨w.heap.size + 2, 0, none⟩) (by show w.heap.size ≤ w.heap.size + 2; omega) _).setCell (p := ⟨w.heap.size + 2, 1, none⟩) (by show w.heap.size ≤ w.heap.size + 2; omega) _⟩
    · have HN := Lib.hid (trnO_y (a := a) (l := l) (y := y) (by omega))
      have p0 := (LR.out.2 0 _ rfl).1
      have q0 := (LR.out.2 0 _ rfl).2
      have p1 := (LR.out.2 1 _ rfl).1
      have q1 := (LR.out.2 1 _ rfl).2
      go_wp2
      refine bodyPost_ret (v := .tuple #[.agg #[.slice none 0 0, .slice none 0 0], .bool false]) ?_ rfl ?_
      · simp [results, Try.results31, go_sem, p0, p1]
      · rw [HN.out]
        exact ⟨none, none, 0, 0, 0, 1, rfl, ⟨.inl rfl, .inl rfl, by decide⟩, ((B1.out).setCell (p := ⟨w.heap.size + 2, 0, none⟩) (by show w.heap.size ≤ w.heap.size + 2; omega) _).setCell (p := ⟨w.heap.size + 2, 1, none⟩) (by show w.heap.size ≤ w.heap.size + 2; omega) _⟩
end Go.Proofs.Ytleimkejjpggmaa
