/- A drive out of a text: the document and the law No statement is proved here. -/
import Derived.Test.YtknabmknboffgaaGreatDoorStC
import Derived.Test.YtknabmknboffgaaGreatDoorInv4
import Derived.Test.YtknabmknboffgaaGreatDoorDvR
import Derived.Test.YtknabmknboffgaaGreatDoorDvI
import Derived.Test.YtknabmknboffgaaGreatDoorNumS
import Derived.Test.YtknabmknboffgaaGreatDoorCutS
import Derived.RegionTactic
import Derived.BigRegion
import Derived.Test.YtknabmknboffgaaGreatDoorMarkR
namespace Go.Proofs.YtknabmknboffgaaGreatDoor
open Go Go.RowKit
/-- D: nothing is made yet; A: the block is made; F: it is written -/
def W3 (D A : World) (F : World → Prop) (al st : Nat) (l : Array Bool) (ww : World) : Prop :=
  if l.getD st false = true then F ww else if l.getD al false = true then ww = A else ww = D
theorem W3.keep {D A : World} {F : World → Prop} {al st k : Nat} {l : Array Bool} {ww : World} (h : W3 D A F al st l ww) (h1 : k ≠ al) (h2 : k ≠ st) (hk : k < l.size) : W3 D A F al st (l.setIfInBounds k true) ww := by
  unfold W3 at *
  rw [getD_set hk, getD_set hk, if_neg h1, if_neg h2]
  exact h
theorem W3.start {D A : World} {F : World → Prop} {al st m : Nat} : W3 D A F al st (Array.replicate m false) D := by
  unfold W3
  have e : ∀ j, (Array.replicate m false).getD j false = false := by intro j; simp [Array.getD]
  rw [e, e, if_neg (by decide), if_neg (by decide)]
theorem W3.atD {D A : World} {F : World → Prop} {al st : Nat} {l : Array Bool} {ww : World} (h : W3 D A F al st l ww) (h1 : l.getD st false = false) (h2 : l.getD al false = false) : ww = D := by
  unfold W3 at h
  rwa [h1, h2, if_neg (by decide), if_neg (by decide)] at h
theorem W3.atA {D A : World} {F : World → Prop} {al st : Nat} {l : Array Bool} {ww : World} (h : W3 D A F al st l ww) (h1 : l.getD st false = false) (h2 : l.getD al false = true) : ww = A := by
  unfold W3 at h
  rwa [h1, h2, if_neg (by decide), if_pos rfl] at h
theorem W3.made {D A : World} {F : World → Prop} {al st : Nat} {l : Array Bool} (h1 : l.getD st false = false) (hk : al < l.size) (hne : al ≠ st) : W3 D A F al st (l.setIfInBounds al true) A := by
  unfold W3
  rw [getD_set hk, getD_set hk, if_neg hne, h1, if_pos rfl, if_neg (by decide), if_pos rfl]
theorem W3.stored {D A ww : World} {F : World → Prop} {al st : Nat} {l : Array Bool} (hf : F ww) (hk : st < l.size) : W3 D A F al st (l.setIfInBounds st true) ww := by
  unfold W3
  rw [getD_set hk, if_pos rfl, if_pos rfl]
  exact hf
theorem W3.fin {D A : World} {F : World → Prop} {al st : Nat} {l : Array Bool} {ww : World} (h : W3 D A F al st l ww) (h1 : l.getD st false = true) : F ww := by
  unfold W3 at h
  rwa [h1, if_pos rfl] at h
theorem W3.below {w D A : World} {F : World → Prop} {al st : Nat} {l : Array Bool} {ww : World} (h : W3 D A F al st l ww) (hD : Below w.heap.size w D) (hA : Below w.heap.size w A) (hF : ∀ x, F x → Below w.heap.size w x) : Below w.heap.size w ww := by
  unfold W3 at h
  split at h
  · exact hF _ h
  · split at h
    · rw [h]; exact hA
    · rw [h]; exact hD
end Go.Proofs.YtknabmknboffgaaGreatDoor
namespace Go.Proofs.YtknabmknboffgaaGreatDoor
open Go Go.RowKit
theorem eight {w : World} {B : Nat} {v0 v1 v2 v3 v4 v5 v6 v7 : Value} (h : BlkL w B [v0, v1, v2, v3, v4, v5, v6, v7]) : w.cell? ⟨B, 0, none⟩ = some v0 ∧ w.cell? ⟨B, 1, none⟩ = some v1 ∧ w.cell? ⟨B, 2, none⟩ = some v2 ∧ w.cell? ⟨B, 3, none⟩ = some v3 ∧ w.cell? ⟨B, 4, none⟩ = some v4 ∧ w.cell? ⟨B, 5, none⟩ = some v5 ∧ w.cell? ⟨B, 6, none⟩ = some v6 ∧ w.cell? ⟨B, 7, none⟩ = some v7 :=
  ⟨(h.2 0 _ rfl).1, (h.2 1 _ rfl).1, (h.2 2 _ rfl).1, (h.2 3 _ rfl).1, (h.2 4 _ rfl).1, (h.2 5 _ rfl).1, (h.2 6 _ rfl).1, (h.2 7 _ rfl).1⟩
set_option maxHeartbeats 8000000 in
set_option maxRecDepth 100000 in
theorem s_l08ReadDrive_cut (s : ByteArray) (w : World) (hs : s.size ≤ 1048576) (hl : (cutS 59 s).length ≠ 3) :
    Calls Tryz.prog 25 #[.string s] w fun e w' => e = .returned (.tuple #[.agg #[.float .f32 0, .float .f32 0, .float .f32 0, .float .f32 0, .float .f32 0, .float .f32 0, .float .f32 0, .float .f32 0, .int .i64 0, .float .f32 0, .float .f32 0, .float .f32 0], .bool false]) ∧ Below w.heap.size w w' := by
  obtain ⟨w0, hw0⟩ : ∃ z, z = w.alloc (.cells #[.float .f32 0, .float .f32 0, .float .f32 0, .float .f32 0, .float .f32 0, .float .f32 0, .float .f32 0, .float .f32 0, .int .i64 0, .float .f32 0, .float .f32 0, .float .f32 0] 26) := ⟨_, rfl⟩
  have b0 : Below w.heap.size w w0 := by rw [hw0]; exact (Below.refl _ _).alloc (Nat.le_refl _) _
  have K0 : Hid (BlkL w0 w.heap.size [.float .f32 0, .float .f32 0, .float .f32 0, .float .f32 0, .float .f32 0, .float .f32 0, .float .f32 0, .float .f32 0, .int .i64 0, .float .f32 0, .float .f32 0, .float .f32 0]) := Lib.hid (by rw [hw0]; exact blkL_at w #[.float .f32 0, .float .f32 0, .float .f32 0, .float .f32 0, .float .f32 0, .float .f32 0, .float .f32 0, .float .f32 0, .int .i64 0, .float .f32 0, .float .f32 0, .float .f32 0] _ rfl)
  have B0 := Lib.hid b0
  have HC : Hid (Calls Tryz.prog 49 #[.string s, .int .u8 59] w0 fun e w' => ∃ v, e = .returned v ∧ GrS w' w0.heap.size v (cutS 59 s) ∧ Below w0.heap.size w0 w') := Lib.hid (s_l01Cut 59 s w0 hs)
  clear b0
  have heq : (((cutS 59 s).length : Int) == 3) = false := beq_eq_false_iff_ne.2 (by omega)
  go_enter Tryz.func25, Tryz.ntmps25
  go_upto_region 1 with fail
  rw [← hw0]
  clear hw0
  go_wp2_with fail
  refine HC.out.mono ?_
  rintro e w1 ⟨v, rfl, hg, b1⟩
  obtain ⟨pb, pc, rfl, hlo, hlt1, -, -, hcell⟩ := hg.own (by intro e; have := cutS_pos 59 s; rw [e] at this; simp at this)
  have K1 := Lib.hid (K0.out.below b1)
  have BB := Lib.hid (below_of B0.out B0.out.size b1)
  clear hg hcell b1 HC B0 K0 hlt1 hlo hs hl
  generalize (cutS 59 s).length = pl at *
  obtain ⟨⟨f0, g0⟩, ⟨f1, g1⟩, ⟨f2, g2⟩, ⟨f3, g3⟩, ⟨f4, g4⟩, ⟨f5, g5⟩, ⟨f6, g6⟩, ⟨f7, g7⟩, ⟨f8, g8⟩, ⟨f9, g9⟩, ⟨f10, g10⟩, ⟨f11, g11⟩⟩ : (_ ∧ _) ∧ (_ ∧ _) ∧ (_ ∧ _) ∧ (_ ∧ _) ∧ (_ ∧ _) ∧ (_ ∧ _) ∧ (_ ∧ _) ∧ (_ ∧ _) ∧ (_ ∧ _) ∧ (_ ∧ _) ∧ (_ ∧ _) ∧ (_ ∧ _) := ⟨K1.out.2 0 _ rfl, K1.out.2 1 _ rfl, K1.out.2 2 _ rfl, K1.out.2 3 _ rfl, K1.out.2 4 _ rfl, K1.out.2 5 _ rfl, K1.out.2 6 _ rfl, K1.out.2 7 _ rfl, K1.out.2 8 _ rfl, K1.out.2 9 _ rfl, K1.out.2 10 _ rfl, K1.out.2 11 _ rfl⟩
  go_wp2
  have R := Lib.hid (((((((((((((BB.out.setCell (p := ⟨w.heap.size, 0, none⟩) (by simp) (.float .f32 0)).setCell (p := ⟨w.heap.size, 1, none⟩) (by simp) (.float .f32 0)).setCell (p := ⟨w.heap.size, 2, none⟩) (by simp) (.float .f32 0)).setCell (p := ⟨w.heap.size, 3, none⟩) (by simp) (.float .f32 0)).setCell (p := ⟨w.heap.size, 4, none⟩) (by simp) (.float .f32 0)).setCell (p := ⟨w.heap.size, 5, none⟩) (by simp) (.float .f32 0)).setCell (p := ⟨w.heap.size, 6, none⟩) (by simp) (.float .f32 0)).setCell (p := ⟨w.heap.size, 7, none⟩) (by simp) (.float .f32 0)).setCell (p := ⟨w.heap.size, 8, none⟩) (by simp) (.int .i64 0)).setCell (p := ⟨w.heap.size, 9, none⟩) (by simp) (.float .f32 0)).setCell (p := ⟨w.heap.size, 10, none⟩) (by simp) (.float .f32 0)).setCell (p := ⟨w.heap.size, 11, none⟩) (by simp) (.float .f32 0)))
  have Q := Lib.hid (((((((((((((K1.out.set (i := 0) (by simp) (.float .f32 0)).set (i := 1) (by simp) (.float .f32 0)).set (i := 2) (by simp) (.float .f32 0)).set (i := 3) (by simp) (.float .f32 0)).set (i := 4) (by simp) (.float .f32 0)).set (i := 5) (by simp) (.float .f32 0)).set (i := 6) (by simp) (.float .f32 0)).set (i := 7) (by simp) (.float .f32 0)).set (i := 8) (by simp) (.int .i64 0)).set (i := 9) (by simp) (.float .f32 0)).set (i := 10) (by simp) (.float .f32 0)).set (i := 11) (by simp) (.float .f32 0)))
  obtain ⟨c0, c1, c2, c3, c4, c5, c6, c7, c8, c9, c10, c11⟩ : _ ∧ _ ∧ _ ∧ _ ∧ _ ∧ _ ∧ _ ∧ _ ∧ _ ∧ _ ∧ _ ∧ _ := ⟨(Q.out.2 0 _ rfl).1, (Q.out.2 1 _ rfl).1, (Q.out.2 2 _ rfl).1, (Q.out.2 3 _ rfl).1, (Q.out.2 4 _ rfl).1, (Q.out.2 5 _ rfl).1, (Q.out.2 6 _ rfl).1, (Q.out.2 7 _ rfl).1, (Q.out.2 8 _ rfl).1, (Q.out.2 9 _ rfl).1, (Q.out.2 10 _ rfl).1, (Q.out.2 11 _ rfl).1⟩
  refine bodyPost_ret (v := .tuple #[.agg #[.float .f32 0, .float .f32 0, .float .f32 0, .float .f32 0, .float .f32 0, .float .f32 0, .float .f32 0, .float .f32 0, .int .i64 0, .float .f32 0, .float .f32 0, .float .f32 0], .bool false]) ?_ rfl ⟨rfl, R.out⟩
  simp [results, Tryz.results25, go_sem, c0, c1, c2, c3, c4, c5, c6, c7, c8, c9, c10, c11]
set_option maxHeartbeats 8000000 in
set_option maxRecDepth 100000 in
theorem s_l08ReadDrive_one (s : ByteArray) (w : World) (hs : s.size ≤ 1048576) (hl : (cutS 59 s).length = 3) (hoa : nmO (pcs 59 s 0) = false) :
    Calls Tryz.prog 25 #[.string s] w fun e w' => e = .returned (.tuple #[.agg #[.float .f32 0, .float .f32 0, .float .f32 0, .float .f32 0, .float .f32 0, .float .f32 0, .float .f32 0, .float .f32 0, .int .i64 0, .float .f32 0, .float .f32 0, .float .f32 0], .bool false]) ∧ Below w.heap.size w w' := by
  obtain ⟨w0, hw0⟩ : ∃ z, z = w.alloc (.cells #[.float .f32 0, .float .f32 0, .float .f32 0, .float .f32 0, .float .f32 0, .float .f32 0, .float .f32 0, .float .f32 0, .int .i64 0, .float .f32 0, .float .f32 0, .float .f32 0] 26) := ⟨_, rfl⟩
  have b0 : Below w.heap.size w w0 := by rw [hw0]; exact (Below.refl _ _).alloc (Nat.le_refl _) _
  have K0 : Hid (BlkL w0 w.heap.size [.float .f32 0, .float .f32 0, .float .f32 0, .float .f32 0, .float .f32 0, .float .f32 0, .float .f32 0, .float .f32 0, .int .i64 0, .float .f32 0, .float .f32 0, .float .f32 0]) := Lib.hid (by rw [hw0]; exact blkL_at w #[.float .f32 0, .float .f32 0, .float .f32 0, .float .f32 0, .float .f32 0, .float .f32 0, .float .f32 0, .float .f32 0, .int .i64 0, .float .f32 0, .float .f32 0, .float .f32 0] _ rfl)
  have B0 := Lib.hid b0
  have HC : Hid (Calls Tryz.prog 49 #[.string s, .int .u8 59] w0 fun e w' => ∃ v, e = .returned v ∧ GrS w' w0.heap.size v (cutS 59 s) ∧ Below w0.heap.size w0 w') := Lib.hid (s_l01Cut 59 s w0 hs)
  clear b0
  have HPS : Hid ((cutS 59 s)[0]? = some (pcs 59 s 0) ∧ (cutS 59 s)[1]? = some (pcs 59 s 1) ∧ (cutS 59 s)[2]? = some (pcs 59 s 2)) := Lib.hid ⟨pcs_at hl (by decide), pcs_at hl (by decide), pcs_at hl (by decide)⟩
  have HL3 := Lib.hid hl
  have HCA : Hid (∀ W, Calls Tryz.prog 50 #[.string (pcs 59 s 0)] W fun e w' => ∃ R1 c1 g1, e = .returned (.tuple #[.slice R1 (nmL (pcs 59 s 0)).length c1, .bool false]) ∧ OwnO w' W.heap.size R1 g1 (nmL (pcs 59 s 0)) ∧ Below W.heap.size W w') := Lib.hid (fun W => by have h := s_l01NRead (pcs 59 s 0) W (Nat.le_trans (pcs_size _ _ _) hs); rw [hoa] at h; exact h)
  have HCD : Hid (∀ W, Calls Tryz.prog 51 #[.string (pcs 59 s 1)] W fun e w' => e = .returned (.tuple #[.int .i64 (vlR (pcs 59 s 1)), .bool (vlO (pcs 59 s 1))]) ∧ Below W.heap.size W w') := Lib.hid (fun W => by have h := s_l01Value (pcs 59 s 1) W; exact h)
  have HCB : Hid (∀ W, Calls Tryz.prog 50 #[.string (pcs 59 s 2)] W fun e w' => ∃ R1 c1 g1, e = .returned (.tuple #[.slice R1 (nmL (pcs 59 s 2)).length c1, .bool (nmO (pcs 59 s 2))]) ∧ OwnO w' W.heap.size R1 g1 (nmL (pcs 59 s 2)) ∧ Below W.heap.size W w') := Lib.hid (fun W => by have h := s_l01NRead (pcs 59 s 2) W (Nat.le_trans (pcs_size _ _ _) hs); exact h)
  clear hs hl hoa
  go_enter Tryz.func25, Tryz.ntmps25
  go_upto_region 1 with fail
  rw [← hw0]
  clear hw0
  go_wp2_with fail
  refine HC.out.mono ?_
  rintro e w1 ⟨v, rfl, hg, b1⟩
  obtain ⟨pb, pc, rfl, hlo, hlt1, -, -, hcell⟩ := hg.own (by intro e; have := cutS_pos 59 s; rw [e] at this; simp at this)
  have K1 := Lib.hid (K0.out.below b1)
  have BB := Lib.hid (below_of B0.out B0.out.size b1)
  have HP : Hid (∀ W, Below w1.heap.size w1 W → W.cell? ⟨pb, 0, none⟩ = some (.string (pcs 59 s 0)) ∧ W.cell? ⟨pb, 1, none⟩ = some (.string (pcs 59 s 1)) ∧ W.cell? ⟨pb, 2, none⟩ = some (.string (pcs 59 s 2))) := Lib.hid (fun W hb => ⟨(hb.cell (p := ⟨pb, 0, none⟩) hlt1).trans (hcell 0 _ HPS.out.1), (hb.cell (p := ⟨pb, 1, none⟩) hlt1).trans (hcell 1 _ HPS.out.2.1), (hb.cell (p := ⟨pb, 2, none⟩) hlt1).trans (hcell 2 _ HPS.out.2.2)⟩)
  rw [HL3.out]
  clear hg hcell b1 HC B0 K0 HPS hlt1 hlo HL3
  obtain ⟨m0, m1, m2⟩ := HP.out _ (Below.refl _ _)
  generalize pcs 59 s 0 = a0 at *
  generalize pcs 59 s 1 = a1 at *
  generalize pcs 59 s 2 = a2 at *
  go_wp2_with fail
  refine (HCA.out _).mono ?_
  rintro e w2 ⟨RA, cA, gA, rfl, hoA, b2⟩
  have B2 := Lib.hid b2
  have OA := Lib.hid hoA
  clear hoA b2 m0 m1 m2 HCA
  obtain ⟨m0, m1, m2⟩ := HP.out _ B2.out
  go_wp2_with fail
  refine (HCD.out _).mono ?_
  rintro e w3 ⟨rfl, b3⟩
  have OA := Lib.hid (OA.out.below b3)
  have B3 := Lib.hid (below_of B2.out B2.out.size b3)
  clear b3 B2 m0 m1 m2 HCD
  obtain ⟨m0, m1, m2⟩ := HP.out _ B3.out
  go_wp2_with fail
  refine (HCB.out _).mono ?_
  rintro e w4 ⟨RB, cB, gB, rfl, hoB, b4⟩
  have OA := Lib.hid (OA.out.below b4)
  have OB := Lib.hid hoB
  have B4 := Lib.hid (below_of B3.out B3.out.size b4)
  have K4 := Lib.hid (K1.out.below B4.out)
  have BC := Lib.hid (below_of BB.out BB.out.size B4.out)
  clear hoB b4 B3 m0 m1 m2 HCB HP K1 BB B4
  clear OA OB
  obtain ⟨⟨f0, g0⟩, ⟨f1, g1⟩, ⟨f2, g2⟩, ⟨f3, g3⟩, ⟨f4, g4⟩, ⟨f5, g5⟩, ⟨f6, g6⟩, ⟨f7, g7⟩, ⟨f8, g8⟩, ⟨f9, g9⟩, ⟨f10, g10⟩, ⟨f11, g11⟩⟩ : (_ ∧ _) ∧ (_ ∧ _) ∧ (_ ∧ _) ∧ (_ ∧ _) ∧ (_ ∧ _) ∧ (_ ∧ _) ∧ (_ ∧ _) ∧ (_ ∧ _) ∧ (_ ∧ _) ∧ (_ ∧ _) ∧ (_ ∧ _) ∧ (_ ∧ _) := ⟨K4.out.2 0 _ rfl, K4.out.2 1 _ rfl, K4.out.2 2 _ rfl, K4.out.2 3 _ rfl, K4.out.2 4 _ rfl, K4.out.2 5 _ rfl, K4.out.2 6 _ rfl, K4.out.2 7 _ rfl, K4.out.2 8 _ rfl, K4.out.2 9 _ rfl, K4.out.2 10 _ rfl, K4.out.2 11 _ rfl⟩
  go_wp2
  have R := Lib.hid (((((((((((((BC.out.setCell (p := ⟨w.heap.size, 0, none⟩) (by simp) (.float .f32 0)).setCell (p := ⟨w.heap.size, 1, none⟩) (by simp) (.float .f32 0)).setCell (p := ⟨w.heap.size, 2, none⟩) (by simp) (.float .f32 0)).setCell (p := ⟨w.heap.size, 3, none⟩) (by simp) (.float .f32 0)).setCell (p := ⟨w.heap.size, 4, none⟩) (by simp) (.float .f32 0)).setCell (p := ⟨w.heap.size, 5, none⟩) (by simp) (.float .f32 0)).setCell (p := ⟨w.heap.size, 6, none⟩) (by simp) (.float .f32 0)).setCell (p := ⟨w.heap.size, 7, none⟩) (by simp) (.float .f32 0)).setCell (p := ⟨w.heap.size, 8, none⟩) (by simp) (.int .i64 0)).setCell (p := ⟨w.heap.size, 9, none⟩) (by simp) (.float .f32 0)).setCell (p := ⟨w.heap.size, 10, none⟩) (by simp) (.float .f32 0)).setCell (p := ⟨w.heap.size, 11, none⟩) (by simp) (.float .f32 0)))
  have Q := Lib.hid (((((((((((((K4.out.set (i := 0) (by simp) (.float .f32 0)).set (i := 1) (by simp) (.float .f32 0)).set (i := 2) (by simp) (.float .f32 0)).set (i := 3) (by simp) (.float .f32 0)).set (i := 4) (by simp) (.float .f32 0)).set (i := 5) (by simp) (.float .f32 0)).set (i := 6) (by simp) (.float .f32 0)).set (i := 7) (by simp) (.float .f32 0)).set (i := 8) (by simp) (.int .i64 0)).set (i := 9) (by simp) (.float .f32 0)).set (i := 10) (by simp) (.float .f32 0)).set (i := 11) (by simp) (.float .f32 0)))
  obtain ⟨c0, c1, c2, c3, c4, c5, c6, c7, c8, c9, c10, c11⟩ : _ ∧ _ ∧ _ ∧ _ ∧ _ ∧ _ ∧ _ ∧ _ ∧ _ ∧ _ ∧ _ ∧ _ := ⟨(Q.out.2 0 _ rfl).1, (Q.out.2 1 _ rfl).1, (Q.out.2 2 _ rfl).1, (Q.out.2 3 _ rfl).1, (Q.out.2 4 _ rfl).1, (Q.out.2 5 _ rfl).1, (Q.out.2 6 _ rfl).1, (Q.out.2 7 _ rfl).1, (Q.out.2 8 _ rfl).1, (Q.out.2 9 _ rfl).1, (Q.out.2 10 _ rfl).1, (Q.out.2 11 _ rfl).1⟩
  refine bodyPost_ret (v := .tuple #[.agg #[.float .f32 0, .float .f32 0, .float .f32 0, .float .f32 0, .float .f32 0, .float .f32 0, .float .f32 0, .float .f32 0, .int .i64 0, .float .f32 0, .float .f32 0, .float .f32 0], .bool false]) ?_ rfl ⟨rfl, R.out⟩
  simp [results, Tryz.results25, go_sem, c0, c1, c2, c3, c4, c5, c6, c7, c8, c9, c10, c11]
set_option maxHeartbeats 8000000 in
set_option maxRecDepth 100000 in
theorem s_l08ReadDrive_two (s : ByteArray) (w : World) (hs : s.size ≤ 1048576) (hl : (cutS 59 s).length = 3) (hoa : nmO (pcs 59 s 0) = true) (hod : vlO (pcs 59 s 1) = false) :
    Calls Tryz.prog 25 #[.string s] w fun e w' => e = .returned (.tuple #[.agg #[.float .f32 0, .float .f32 0, .float .f32 0, .float .f32 0, .float .f32 0, .float .f32 0, .float .f32 0, .float .f32 0, .int .i64 0, .float .f32 0, .float .f32 0, .float .f32 0], .bool false]) ∧ Below w.heap.size w w' := by
  obtain ⟨w0, hw0⟩ : ∃ z, z = w.alloc (.cells #[.float .f32 0, .float .f32 0, .float .f32 0, .float .f32 0, .float .f32 0, .float .f32 0, .float .f32 0, .float .f32 0, .int .i64 0, .float .f32 0, .float .f32 0, .float .f32 0] 26) := ⟨_, rfl⟩
  have b0 : Below w.heap.size w w0 := by rw [hw0]; exact (Below.refl _ _).alloc (Nat.le_refl _) _
  have K0 : Hid (BlkL w0 w.heap.size [.float .f32 0, .float .f32 0, .float .f32 0, .float .f32 0, .float .f32 0, .float .f32 0, .float .f32 0, .float .f32 0, .int .i64 0, .float .f32 0, .float .f32 0, .float .f32 0]) := Lib.hid (by rw [hw0]; exact blkL_at w #[.float .f32 0, .float .f32 0, .float .f32 0, .float .f32 0, .float .f32 0, .float .f32 0, .float .f32 0, .float .f32 0, .int .i64 0, .float .f32 0, .float .f32 0, .float .f32 0] _ rfl)
  have B0 := Lib.hid b0
  have HC : Hid (Calls Tryz.prog 49 #[.string s, .int .u8 59] w0 fun e w' => ∃ v, e = .returned v ∧ GrS w' w0.heap.size v (cutS 59 s) ∧ Below w0.heap.size w0 w') := Lib.hid (s_l01Cut 59 s w0 hs)
  clear b0
  have HPS : Hid ((cutS 59 s)[0]? = some (pcs 59 s 0) ∧ (cutS 59 s)[1]? = some (pcs 59 s 1) ∧ (cutS 59 s)[2]? = some (pcs 59 s 2)) := Lib.hid ⟨pcs_at hl (by decide), pcs_at hl (by decide), pcs_at hl (by decide)⟩
  have HL3 := Lib.hid hl
  have HCA : Hid (∀ W, Calls Tryz.prog 50 #[.string (pcs 59 s 0)] W fun e w' => ∃ R1 c1 g1, e = .returned (.tuple #[.slice R1 (nmL (pcs 59 s 0)).length c1, .bool true]) ∧ OwnO w' W.heap.size R1 g1 (nmL (pcs 59 s 0)) ∧ Below W.heap.size W w') := Lib.hid (fun W => by have h := s_l01NRead (pcs 59 s 0) W (Nat.le_trans (pcs_size _ _ _) hs); rw [hoa] at h; exact h)
  have HCD : Hid (∀ W, Calls Tryz.prog 51 #[.string (pcs 59 s 1)] W fun e w' => e = .returned (.tuple #[.int .i64 (vlR (pcs 59 s 1)), .bool false]) ∧ Below W.heap.size W w') := Lib.hid (fun W => by have h := s_l01Value (pcs 59 s 1) W; rw [hod] at h; exact h)
  have HCB : Hid (∀ W, Calls Tryz.prog 50 #[.string (pcs 59 s 2)] W fun e w' => ∃ R1 c1 g1, e = .returned (.tuple #[.slice R1 (nmL (pcs 59 s 2)).length c1, .bool (nmO (pcs 59 s 2))]) ∧ OwnO w' W.heap.size R1 g1 (nmL (pcs 59 s 2)) ∧ Below W.heap.size W w') := Lib.hid (fun W => by have h := s_l01NRead (pcs 59 s 2) W (Nat.le_trans (pcs_size _ _ _) hs); exact h)
  clear hs hl hoa hod
  go_enter Tryz.func25, Tryz.ntmps25
  go_upto_region 1 with fail
  rw [← hw0]
  clear hw0
  go_wp2_with fail
  refine HC.out.mono ?_
  rintro e w1 ⟨v, rfl, hg, b1⟩
  obtain ⟨pb, pc, rfl, hlo, hlt1, -, -, hcell⟩ := hg.own (by intro e; have := cutS_pos 59 s; rw [e] at this; simp at this)
  have K1 := Lib.hid (K0.out.below b1)
  have BB := Lib.hid (below_of B0.out B0.out.size b1)
  have HP : Hid (∀ W, Below w1.heap.size w1 W → W.cell? ⟨pb, 0, none⟩ = some (.string (pcs 59 s 0)) ∧ W.cell? ⟨pb, 1, none⟩ = some (.string (pcs 59 s 1)) ∧ W.cell? ⟨pb, 2, none⟩ = some (.string (pcs 59 s 2))) := Lib.hid (fun W hb => ⟨(hb.cell (p := ⟨pb, 0, none⟩) hlt1).trans (hcell 0 _ HPS.out.1), (hb.cell (p := ⟨pb, 1, none⟩) hlt1).trans (hcell 1 _ HPS.out.2.1), (hb.cell (p := ⟨pb, 2, none⟩) hlt1).trans (hcell 2 _ HPS.out.2.2)⟩)
  rw [HL3.out]
  clear hg hcell b1 HC B0 K0 HPS hlt1 hlo HL3
  obtain ⟨m0, m1, m2⟩ := HP.out _ (Below.refl _ _)
  generalize pcs 59 s 0 = a0 at *
  generalize pcs 59 s 1 = a1 at *
  generalize pcs 59 s 2 = a2 at *
  go_wp2_with fail
  refine (HCA.out _).mono ?_
  rintro e w2 ⟨RA, cA, gA, rfl, hoA, b2⟩
  have B2 := Lib.hid b2
  have OA := Lib.hid hoA
  clear hoA b2 m0 m1 m2 HCA
  obtain ⟨m0, m1, m2⟩ := HP.out _ B2.out
  go_wp2_with fail
  refine (HCD.out _).mono ?_
  rintro e w3 ⟨rfl, b3⟩
  have OA := Lib.hid (OA.out.below b3)
  have B3 := Lib.hid (below_of B2.out B2.out.size b3)
  clear b3 B2 m0 m1 m2 HCD
  obtain ⟨m0, m1, m2⟩ := HP.out _ B3.out
  go_wp2_with fail
  refine (HCB.out _).mono ?_
  rintro e w4 ⟨RB, cB, gB, rfl, hoB, b4⟩
  have OA := Lib.hid (OA.out.below b4)
  have OB := Lib.hid hoB
  have B4 := Lib.hid (below_of B3.out B3.out.size b4)
  have K4 := Lib.hid (K1.out.below B4.out)
  have BC := Lib.hid (below_of BB.out BB.out.size B4.out)
  clear hoB b4 B3 m0 m1 m2 HCB HP K1 BB B4
  clear OA OB
  obtain ⟨⟨f0, g0⟩, ⟨f1, g1⟩, ⟨f2, g2⟩, ⟨f3, g3⟩, ⟨f4, g4⟩, ⟨f5, g5⟩, ⟨f6, g6⟩, ⟨f7, g7⟩, ⟨f8, g8⟩, ⟨f9, g9⟩, ⟨f10, g10⟩, ⟨f11, g11⟩⟩ : (_ ∧ _) ∧ (_ ∧ _) ∧ (_ ∧ _) ∧ (_ ∧ _) ∧ (_ ∧ _) ∧ (_ ∧ _) ∧ (_ ∧ _) ∧ (_ ∧ _) ∧ (_ ∧ _) ∧ (_ ∧ _) ∧ (_ ∧ _) ∧ (_ ∧ _) := ⟨K4.out.2 0 _ rfl, K4.out.2 1 _ rfl, K4.out.2 2 _ rfl, K4.out.2 3 _ rfl, K4.out.2 4 _ rfl, K4.out.2 5 _ rfl, K4.out.2 6 _ rfl, K4.out.2 7 _ rfl, K4.out.2 8 _ rfl, K4.out.2 9 _ rfl, K4.out.2 10 _ rfl, K4.out.2 11 _ rfl⟩
  go_wp2
  have R := Lib.hid (((((((((((((BC.out.setCell (p := ⟨w.heap.size, 0, none⟩) (by simp) (.float .f32 0)).setCell (p := ⟨w.heap.size, 1, none⟩) (by simp) (.float .f32 0)).setCell (p := ⟨w.heap.size, 2, none⟩) (by simp) (.float .f32 0)).setCell (p := ⟨w.heap.size, 3, none⟩) (by simp) (.float .f32 0)).setCell (p := ⟨w.heap.size, 4, none⟩) (by simp) (.float .f32 0)).setCell (p := ⟨w.heap.size, 5, none⟩) (by simp) (.float .f32 0)).setCell (p := ⟨w.heap.size, 6, none⟩) (by simp) (.float .f32 0)).setCell (p := ⟨w.heap.size, 7, none⟩) (by simp) (.float .f32 0)).setCell (p := ⟨w.heap.size, 8, none⟩) (by simp) (.int .i64 0)).setCell (p := ⟨w.heap.size, 9, none⟩) (by simp) (.float .f32 0)).setCell (p := ⟨w.heap.size, 10, none⟩) (by simp) (.float .f32 0)).setCell (p := ⟨w.heap.size, 11, none⟩) (by simp) (.float .f32 0)))
  have Q := Lib.hid (((((((((((((K4.out.set (i := 0) (by simp) (.float .f32 0)).set (i := 1) (by simp) (.float .f32 0)).set (i := 2) (by simp) (.float .f32 0)).set (i := 3) (by simp) (.float .f32 0)).set (i := 4) (by simp) (.float .f32 0)).set (i := 5) (by simp) (.float .f32 0)).set (i := 6) (by simp) (.float .f32 0)).set (i := 7) (by simp) (.float .f32 0)).set (i := 8) (by simp) (.int .i64 0)).set (i := 9) (by simp) (.float .f32 0)).set (i := 10) (by simp) (.float .f32 0)).set (i := 11) (by simp) (.float .f32 0)))
  obtain ⟨c0, c1, c2, c3, c4, c5, c6, c7, c8, c9, c10, c11⟩ : _ ∧ _ ∧ _ ∧ _ ∧ _ ∧ _ ∧ _ ∧ _ ∧ _ ∧ _ ∧ _ ∧ _ := ⟨(Q.out.2 0 _ rfl).1, (Q.out.2 1 _ rfl).1, (Q.out.2 2 _ rfl).1, (Q.out.2 3 _ rfl).1, (Q.out.2 4 _ rfl).1, (Q.out.2 5 _ rfl).1, (Q.out.2 6 _ rfl).1, (Q.out.2 7 _ rfl).1, (Q.out.2 8 _ rfl).1, (Q.out.2 9 _ rfl).1, (Q.out.2 10 _ rfl).1, (Q.out.2 11 _ rfl).1⟩
  refine bodyPost_ret (v := .tuple #[.agg #[.float .f32 0, .float .f32 0, .float .f32 0, .float .f32 0, .float .f32 0, .float .f32 0, .float .f32 0, .float .f32 0, .int .i64 0, .float .f32 0, .float .f32 0, .float .f32 0], .bool false]) ?_ rfl ⟨rfl, R.out⟩
  simp [results, Tryz.results25, go_sem, c0, c1, c2, c3, c4, c5, c6, c7, c8, c9, c10, c11]
set_option maxHeartbeats 8000000 in
set_option maxRecDepth 100000 in
theorem s_l08ReadDrive_three (s : ByteArray) (w : World) (hs : s.size ≤ 1048576) (hl : (cutS 59 s).length = 3) (hoa : nmO (pcs 59 s 0) = true) (hod : vlO (pcs 59 s 1) = true) (hob : nmO (pcs 59 s 2) = false) :
    Calls Tryz.prog 25 #[.string s] w fun e w' => e = .returned (.tuple #[.agg #[.float .f32 0, .float .f32 0, .float .f32 0, .float .f32 0, .float .f32 0, .float .f32 0, .float .f32 0, .float .f32 0, .int .i64 0, .float .f32 0, .float .f32 0, .float .f32 0], .bool false]) ∧ Below w.heap.size w w' := by
  obtain ⟨w0, hw0⟩ : ∃ z, z = w.alloc (.cells #[.float .f32 0, .float .f32 0, .float .f32 0, .float .f32 0, .float .f32 0, .float .f32 0, .float .f32 0, .float .f32 0, .int .i64 0, .float .f32 0, .float .f32 0, .float .f32 0] 26) := ⟨_, rfl⟩
  have b0 : Below w.heap.size w w0 := by rw [hw0]; exact (Below.refl _ _).alloc (Nat.le_refl _) _
  have K0 : Hid (BlkL w0 w.heap.size [.float .f32 0, .float .f32 0, .float .f32 0, .float .f32 0, .float .f32 0, .float .f32 0, .float .f32 0, .float .f32 0, .int .i64 0, .float .f32 0, .float .f32 0, .float .f32 0]) := Lib.hid (by rw [hw0]; exact blkL_at w #[.float .f32 0, .float .f32 0, .float .f32 0, .float .f32 0, .float .f32 0, .float .f32 0, .float .f32 0, .float .f32 0, .int .i64 0, .float .f32 0, .float .f32 0, .float .f32 0] _ rfl)
  have B0 := Lib.hid b0
  have HC : Hid (Calls Tryz.prog 49 #[.string s, .int .u8 59] w0 fun e w' => ∃ v, e = .returned v ∧ GrS w' w0.heap.size v (cutS 59 s) ∧ Below w0.heap.size w0 w') := Lib.hid (s_l01Cut 59 s w0 hs)
  clear b0
  have HPS : Hid ((cutS 59 s)[0]? = some (pcs 59 s 0) ∧ (cutS 59 s)[1]? = some (pcs 59 s 1) ∧ (cutS 59 s)[2]? = some (pcs 59 s 2)) := Lib.hid ⟨pcs_at hl (by decide), pcs_at hl (by decide), pcs_at hl (by decide)⟩
  have HL3 := Lib.hid hl
  have HCA : Hid (∀ W, Calls Tryz.prog 50 #[.string (pcs 59 s 0)] W fun e w' => ∃ R1 c1 g1, e = .returned (.tuple #[.slice R1 (nmL (pcs 59 s 0)).length c1, .bool true]) ∧ OwnO w' W.heap.size R1 g1 (nmL (pcs 59 s 0)) ∧ Below W.heap.size W w') := Lib.hid (fun W => by have h := s_l01NRead (pcs 59 s 0) W (Nat.le_trans (pcs_size _ _ _) hs); rw [hoa] at h; exact h)
  have HCD : Hid (∀ W, Calls Tryz.prog 51 #[.string (pcs 59 s 1)] W fun e w' => e = .returned (.tuple #[.int .i64 (vlR (pcs 59 s 1)), .bool true]) ∧ Below W.heap.size W w') := Lib.hid (fun W => by have h := s_l01Value (pcs 59 s 1) W; rw [hod] at h; exact h)
  have HCB : Hid (∀ W, Calls Tryz.prog 50 #[.string (pcs 59 s 2)] W fun e w' => ∃ R1 c1 g1, e = .returned (.tuple #[.slice R1 (nmL (pcs 59 s 2)).length c1, .bool false]) ∧ OwnO w' W.heap.size R1 g1 (nmL (pcs 59 s 2)) ∧ Below W.heap.size W w') := Lib.hid (fun W => by have h := s_l01NRead (pcs 59 s 2) W (Nat.le_trans (pcs_size _ _ _) hs); rw [hob] at h; exact h)
  clear hs hl hoa hod hob
  go_enter Tryz.func25, Tryz.ntmps25
  go_upto_region 1 with fail
  rw [← hw0]
  clear hw0
  go_wp2_with fail
  refine HC.out.mono ?_
  rintro e w1 ⟨v, rfl, hg, b1⟩
  obtain ⟨pb, pc, rfl, hlo, hlt1, -, -, hcell⟩ := hg.own (by intro e; have := cutS_pos 59 s; rw [e] at this; simp at this)
  have K1 := Lib.hid (K0.out.below b1)
  have BB := Lib.hid (below_of B0.out B0.out.size b1)
  have HP : Hid (∀ W, Below w1.heap.size w1 W → W.cell? ⟨pb, 0, none⟩ = some (.string (pcs 59 s 0)) ∧ W.cell? ⟨pb, 1, none⟩ = some (.string (pcs 59 s 1)) ∧ W.cell? ⟨pb, 2, none⟩ = some (.string (pcs 59 s 2))) := Lib.hid (fun W hb => ⟨(hb.cell (p := ⟨pb, 0, none⟩) hlt1).trans (hcell 0 _ HPS.out.1), (hb.cell (p := ⟨pb, 1, none⟩) hlt1).trans (hcell 1 _ HPS.out.2.1), (hb.cell (p := ⟨pb, 2, none⟩) hlt1).trans (hcell 2 _ HPS.out.2.2)⟩)
  rw [HL3.out]
  clear hg hcell b1 HC B0 K0 HPS hlt1 hlo HL3
  obtain ⟨m0, m1, m2⟩ := HP.out _ (Below.refl _ _)
  generalize pcs 59 s 0 = a0 at *
  generalize pcs 59 s 1 = a1 at *
  generalize pcs 59 s 2 = a2 at *
  go_wp2_with fail
  refine (HCA.out _).mono ?_
  rintro e w2 ⟨RA, cA, gA, rfl, hoA, b2⟩
  have B2 := Lib.hid b2
  have OA := Lib.hid hoA
  clear hoA b2 m0 m1 m2 HCA
  obtain ⟨m0, m1, m2⟩ := HP.out _ B2.out
  go_wp2_with fail
  refine (HCD.out _).mono ?_
  rintro e w3 ⟨rfl, b3⟩
  have OA := Lib.hid (OA.out.below b3)
  have B3 := Lib.hid (below_of B2.out B2.out.size b3)
  clear b3 B2 m0 m1 m2 HCD
  obtain ⟨m0, m1, m2⟩ := HP.out _ B3.out
  go_wp2_with fail
  refine (HCB.out _).mono ?_
  rintro e w4 ⟨RB, cB, gB, rfl, hoB, b4⟩
  have OA := Lib.hid (OA.out.below b4)
  have OB := Lib.hid hoB
  have B4 := Lib.hid (below_of B3.out B3.out.size b4)
  have K4 := Lib.hid (K1.out.below B4.out)
  have BC := Lib.hid (below_of BB.out BB.out.size B4.out)
  clear hoB b4 B3 m0 m1 m2 HCB HP K1 BB B4
  clear OA OB
  obtain ⟨⟨f0, g0⟩, ⟨f1, g1⟩, ⟨f2, g2⟩, ⟨f3, g3⟩, ⟨f4, g4⟩, ⟨f5, g5⟩, ⟨f6, g6⟩, ⟨f7, g7⟩, ⟨f8, g8⟩, ⟨f9, g9⟩, ⟨f10, g10⟩, ⟨f11, g11⟩⟩ : (_ ∧ _) ∧ (_ ∧ _) ∧ (_ ∧ _) ∧ (_ ∧ _) ∧ (_ ∧ _) ∧ (_ ∧ _) ∧ (_ ∧ _) ∧ (_ ∧ _) ∧ (_ ∧ _) ∧ (_ ∧ _) ∧ (_ ∧ _) ∧ (_ ∧ _) := ⟨K4.out.2 0 _ rfl, K4.out.2 1 _ rfl, K4.out.2 2 _ rfl, K4.out.2 3 _ rfl, K4.out.2 4 _ rfl, K4.out.2 5 _ rfl, K4.out.2 6 _ rfl, K4.out.2 7 _ rfl, K4.out.2 8 _ rfl, K4.out.2 9 _ rfl, K4.out.2 10 _ rfl, K4.out.2 11 _ rfl⟩
  go_wp2
  have R := Lib.hid (((((((((((((BC.out.setCell (p := ⟨w.heap.size, 0, none⟩) (by simp) (.float .f32 0)).setCell (p := ⟨w.heap.size, 1, none⟩) (by simp) (.float .f32 0)).setCell (p := ⟨w.heap.size, 2, none⟩) (by simp) (.float .f32 0)).setCell (p := ⟨w.heap.size, 3, none⟩) (by simp) (.float .f32 0)).setCell (p := ⟨w.heap.size, 4, none⟩) (by simp) (.float .f32 0)).setCell (p := ⟨w.heap.size, 5, none⟩) (by simp) (.float .f32 0)).setCell (p := ⟨w.heap.size, 6, none⟩) (by simp) (.float .f32 0)).setCell (p := ⟨w.heap.size, 7, none⟩) (by simp) (.float .f32 0)).setCell (p := ⟨w.heap.size, 8, none⟩) (by simp) (.int .i64 0)).setCell (p := ⟨w.heap.size, 9, none⟩) (by simp) (.float .f32 0)).setCell (p := ⟨w.heap.size, 10, none⟩) (by simp) (.float .f32 0)).setCell (p := ⟨w.heap.size, 11, none⟩) (by simp) (.float .f32 0)))
  have Q := Lib.hid (((((((((((((K4.out.set (i := 0) (by simp) (.float .f32 0)).set (i := 1) (by simp) (.float .f32 0)).set (i := 2) (by simp) (.float .f32 0)).set (i := 3) (by simp) (.float .f32 0)).set (i := 4) (by simp) (.float .f32 0)).set (i := 5) (by simp) (.float .f32 0)).set (i := 6) (by simp) (.float .f32 0)).set (i := 7) (by simp) (.float .f32 0)).set (i := 8) (by simp) (.int .i64 0)).set (i := 9) (by simp) (.float .f32 0)).set (i := 10) (by simp) (.float .f32 0)).set (i := 11) (by simp) (.float .f32 0)))
  obtain ⟨c0, c1, c2, c3, c4, c5, c6, c7, c8, c9, c10, c11⟩ : _ ∧ _ ∧ _ ∧ _ ∧ _ ∧ _ ∧ _ ∧ _ ∧ _ ∧ _ ∧ _ ∧ _ := ⟨(Q.out.2 0 _ rfl).1, (Q.out.2 1 _ rfl).1, (Q.out.2 2 _ rfl).1, (Q.out.2 3 _ rfl).1, (Q.out.2 4 _ rfl).1, (Q.out.2 5 _ rfl).1, (Q.out.2 6 _ rfl).1, (Q.out.2 7 _ rfl).1, (Q.out.2 8 _ rfl).1, (Q.out.2 9 _ rfl).1, (Q.out.2 10 _ rfl).1, (Q.out.2 11 _ rfl).1⟩
  refine bodyPost_ret (v := .tuple #[.agg #[.float .f32 0, .float .f32 0, .float .f32 0, .float .f32 0, .float .f32 0, .float .f32 0, .float .f32 0, .float .f32 0, .int .i64 0, .float .f32 0, .float .f32 0, .float .f32 0], .bool false]) ?_ rfl ⟨rfl, R.out⟩
  simp [results, Tryz.results25, go_sem, c0, c1, c2, c3, c4, c5, c6, c7, c8, c9, c10, c11]
set_option maxHeartbeats 8000000 in
set_option maxRecDepth 100000 in
theorem s_l08ReadDrive_lx (s : ByteArray) (w : World) (hs : s.size ≤ 1048576) (hl : (cutS 59 s).length = 3) (hoa : nmO (pcs 59 s 0) = true) (hod : vlO (pcs 59 s 1) = true) (hob : nmO (pcs 59 s 2) = true) (hla : (nmL (pcs 59 s 0)).length ≠ 8) :
    Calls Tryz.prog 25 #[.string s] w fun e w' => e = .returned (.tuple #[.agg #[.float .f32 0, .float .f32 0, .float .f32 0, .float .f32 0, .float .f32 0, .float .f32 0, .float .f32 0, .float .f32 0, .int .i64 0, .float .f32 0, .float .f32 0, .float .f32 0], .bool false]) ∧ Below w.heap.size w w' := by
  obtain ⟨w0, hw0⟩ : ∃ z, z = w.alloc (.cells #[.float .f32 0, .float .f32 0, .float .f32 0, .float .f32 0, .float .f32 0, .float .f32 0, .float .f32 0, .float .f32 0, .int .i64 0, .float .f32 0, .float .f32 0, .float .f32 0] 26) := ⟨_, rfl⟩
  have b0 : Below w.heap.size w w0 := by rw [hw0]; exact (Below.refl _ _).alloc (Nat.le_refl _) _
  have K0 : Hid (BlkL w0 w.heap.size [.float .f32 0, .float .f32 0, .float .f32 0, .float .f32 0, .float .f32 0, .float .f32 0, .float .f32 0, .float .f32 0, .int .i64 0, .float .f32 0, .float .f32 0, .float .f32 0]) := Lib.hid (by rw [hw0]; exact blkL_at w #[.float .f32 0, .float .f32 0, .float .f32 0, .float .f32 0, .float .f32 0, .float .f32 0, .float .f32 0, .float .f32 0, .int .i64 0, .float .f32 0, .float .f32 0, .float .f32 0] _ rfl)
  have B0 := Lib.hid b0
  have HC : Hid (Calls Tryz.prog 49 #[.string s, .int .u8 59] w0 fun e w' => ∃ v, e = .returned v ∧ GrS w' w0.heap.size v (cutS 59 s) ∧ Below w0.heap.size w0 w') := Lib.hid (s_l01Cut 59 s w0 hs)
  clear b0
  have HPS : Hid ((cutS 59 s)[0]? = some (pcs 59 s 0) ∧ (cutS 59 s)[1]? = some (pcs 59 s 1) ∧ (cutS 59 s)[2]? = some (pcs 59 s 2)) := Lib.hid ⟨pcs_at hl (by decide), pcs_at hl (by decide), pcs_at hl (by decide)⟩
  have HL3 := Lib.hid hl
  have HCA : Hid (∀ W, Calls Tryz.prog 50 #[.string (pcs 59 s 0)] W fun e w' => ∃ R1 c1 g1, e = .returned (.tuple #[.slice R1 (nmL (pcs 59 s 0)).length c1, .bool true]) ∧ OwnO w' W.heap.size R1 g1 (nmL (pcs 59 s 0)) ∧ Below W.heap.size W w') := Lib.hid (fun W => by have h := s_l01NRead (pcs 59 s 0) W (Nat.le_trans (pcs_size _ _ _) hs); rw [hoa] at h; exact h)
  have HCD : Hid (∀ W, Calls Tryz.prog 51 #[.string (pcs 59 s 1)] W fun e w' => e = .returned (.tuple #[.int .i64 (vlR (pcs 59 s 1)), .bool true]) ∧ Below W.heap.size W w') := Lib.hid (fun W => by have h := s_l01Value (pcs 59 s 1) W; rw [hod] at h; exact h)
  have HCB : Hid (∀ W, Calls Tryz.prog 50 #[.string (pcs 59 s 2)] W fun e w' => ∃ R1 c1 g1, e = .returned (.tuple #[.slice R1 (nmL (pcs 59 s 2)).length c1, .bool true]) ∧ OwnO w' W.heap.size R1 g1 (nmL (pcs 59 s 2)) ∧ Below W.heap.size W w') := Lib.hid (fun W => by have h := s_l01NRead (pcs 59 s 2) W (Nat.le_trans (pcs_size _ _ _) hs); rw [hob] at h; exact h)
  have heq : (((nmL (pcs 59 s 0)).length : Int) == 8) = false := beq_eq_false_iff_ne.2 (by omega)
  clear hs hl hoa hod hob hla
  go_enter Tryz.func25, Tryz.ntmps25
  go_upto_region 1 with fail
  rw [← hw0]
  clear hw0
  go_wp2_with fail
  refine HC.out.mono ?_
  rintro e w1 ⟨v, rfl, hg, b1⟩
  obtain ⟨pb, pc, rfl, hlo, hlt1, -, -, hcell⟩ := hg.own (by intro e; have := cutS_pos 59 s; rw [e] at this; simp at this)
  have K1 := Lib.hid (K0.out.below b1)
  have BB := Lib.hid (below_of B0.out B0.out.size b1)
  have HP : Hid (∀ W, Below w1.heap.size w1 W → W.cell? ⟨pb, 0, none⟩ = some (.string (pcs 59 s 0)) ∧ W.cell? ⟨pb, 1, none⟩ = some (.string (pcs 59 s 1)) ∧ W.cell? ⟨pb, 2, none⟩ = some (.string (pcs 59 s 2))) := Lib.hid (fun W hb => ⟨(hb.cell (p := ⟨pb, 0, none⟩) hlt1).trans (hcell 0 _ HPS.out.1), (hb.cell (p := ⟨pb, 1, none⟩) hlt1).trans (hcell 1 _ HPS.out.2.1), (hb.cell (p := ⟨pb, 2, none⟩) hlt1).trans (hcell 2 _ HPS.out.2.2)⟩)
  rw [HL3.out]
  clear hg hcell b1 HC B0 K0 HPS hlt1 hlo HL3
  obtain ⟨m0, m1, m2⟩ := HP.out _ (Below.refl _ _)
  generalize pcs 59 s 0 = a0 at *
  generalize pcs 59 s 1 = a1 at *
  generalize pcs 59 s 2 = a2 at *
  go_wp2_with fail
  refine (HCA.out _).mono ?_
  rintro e w2 ⟨RA, cA, gA, rfl, hoA, b2⟩
  have B2 := Lib.hid b2
  have OA := Lib.hid hoA
  clear hoA b2 m0 m1 m2 HCA
  obtain ⟨m0, m1, m2⟩ := HP.out _ B2.out
  go_wp2_with fail
  refine (HCD.out _).mono ?_
  rintro e w3 ⟨rfl, b3⟩
  have OA := Lib.hid (OA.out.below b3)
  have B3 := Lib.hid (below_of B2.out B2.out.size b3)
  clear b3 B2 m0 m1 m2 HCD
  obtain ⟨m0, m1, m2⟩ := HP.out _ B3.out
  go_wp2_with fail
  refine (HCB.out _).mono ?_
  rintro e w4 ⟨RB, cB, gB, rfl, hoB, b4⟩
  have OA := Lib.hid (OA.out.below b4)
  have OB := Lib.hid hoB
  have B4 := Lib.hid (below_of B3.out B3.out.size b4)
  have K4 := Lib.hid (K1.out.below B4.out)
  have BC := Lib.hid (below_of BB.out BB.out.size B4.out)
  clear hoB b4 B3 m0 m1 m2 HCB HP K1 BB B4
  clear OA OB
  obtain ⟨⟨f0, g0⟩, ⟨f1, g1⟩, ⟨f2, g2⟩, ⟨f3, g3⟩, ⟨f4, g4⟩, ⟨f5, g5⟩, ⟨f6, g6⟩, ⟨f7, g7⟩, ⟨f8, g8⟩, ⟨f9, g9⟩, ⟨f10, g10⟩, ⟨f11, g11⟩⟩ : (_ ∧ _) ∧ (_ ∧ _) ∧ (_ ∧ _) ∧ (_ ∧ _) ∧ (_ ∧ _) ∧ (_ ∧ _) ∧ (_ ∧ _) ∧ (_ ∧ _) ∧ (_ ∧ _) ∧ (_ ∧ _) ∧ (_ ∧ _) ∧ (_ ∧ _) := ⟨K4.out.2 0 _ rfl, K4.out.2 1 _ rfl, K4.out.2 2 _ rfl, K4.out.2 3 _ rfl, K4.out.2 4 _ rfl, K4.out.2 5 _ rfl, K4.out.2 6 _ rfl, K4.out.2 7 _ rfl, K4.out.2 8 _ rfl, K4.out.2 9 _ rfl, K4.out.2 10 _ rfl, K4.out.2 11 _ rfl⟩
  go_wp2
  have R := Lib.hid (((((((((((((BC.out.setCell (p := ⟨w.heap.size, 0, none⟩) (by simp) (.float .f32 0)).setCell (p := ⟨w.heap.size, 1, none⟩) (by simp) (.float .f32 0)).setCell (p := ⟨w.heap.size, 2, none⟩) (by simp) (.float .f32 0)).setCell (p := ⟨w.heap.size, 3, none⟩) (by simp) (.float .f32 0)).setCell (p := ⟨w.heap.size, 4, none⟩) (by simp) (.float .f32 0)).setCell (p := ⟨w.heap.size, 5, none⟩) (by simp) (.float .f32 0)).setCell (p := ⟨w.heap.size, 6, none⟩) (by simp) (.float .f32 0)).setCell (p := ⟨w.heap.size, 7, none⟩) (by simp) (.float .f32 0)).setCell (p := ⟨w.heap.size, 8, none⟩) (by simp) (.int .i64 0)).setCell (p := ⟨w.heap.size, 9, none⟩) (by simp) (.float .f32 0)).setCell (p := ⟨w.heap.size, 10, none⟩) (by simp) (.float .f32 0)).setCell (p := ⟨w.heap.size, 11, none⟩) (by simp) (.float .f32 0)))
  have Q := Lib.hid (((((((((((((K4.out.set (i := 0) (by simp) (.float .f32 0)).set (i := 1) (by simp) (.float .f32 0)).set (i := 2) (by simp) (.float .f32 0)).set (i := 3) (by simp) (.float .f32 0)).set (i := 4) (by simp) (.float .f32 0)).set (i := 5) (by simp) (.float .f32 0)).set (i := 6) (by simp) (.float .f32 0)).set (i := 7) (by simp) (.float .f32 0)).set (i := 8) (by simp) (.int .i64 0)).set (i := 9) (by simp) (.float .f32 0)).set (i := 10) (by simp) (.float .f32 0)).set (i := 11) (by simp) (.float .f32 0)))
  obtain ⟨c0, c1, c2, c3, c4, c5, c6, c7, c8, c9, c10, c11⟩ : _ ∧ _ ∧ _ ∧ _ ∧ _ ∧ _ ∧ _ ∧ _ ∧ _ ∧ _ ∧ _ ∧ _ := ⟨(Q.out.2 0 _ rfl).1, (Q.out.2 1 _ rfl).1, (Q.out.2 2 _ rfl).1, (Q.out.2 3 _ rfl).1, (Q.out.2 4 _ rfl).1, (Q.out.2 5 _ rfl).1, (Q.out.2 6 _ rfl).1, (Q.out.2 7 _ rfl).1, (Q.out.2 8 _ rfl).1, (Q.out.2 9 _ rfl).1, (Q.out.2 10 _ rfl).1, (Q.out.2 11 _ rfl).1⟩
  refine bodyPost_ret (v := .tuple #[.agg #[.float .f32 0, .float .f32 0, .float .f32 0, .float .f32 0, .float .f32 0, .float .f32 0, .float .f32 0, .float .f32 0, .int .i64 0, .float .f32 0, .float .f32 0, .float .f32 0], .bool false]) ?_ rfl ⟨rfl, R.out⟩
  simp [results, Tryz.results25, go_sem, c0, c1, c2, c3, c4, c5, c6, c7, c8, c9, c10, c11]
set_option maxHeartbeats 8000000 in
set_option maxRecDepth 100000 in
theorem s_l08ReadDrive_ly (s : ByteArray) (w : World) (hs : s.size ≤ 1048576) (hl : (cutS 59 s).length = 3) (hoa : nmO (pcs 59 s 0) = true) (hod : vlO (pcs 59 s 1) = true) (hob : nmO (pcs 59 s 2) = true) (hla : (nmL (pcs 59 s 0)).length = 8) (hlb : (nmL (pcs 59 s 2)).length ≠ 3) :
    Calls Tryz.prog 25 #[.string s] w fun e w' => e = .returned (.tuple #[.agg #[.float .f32 0, .float .f32 0, .float .f32 0, .float .f32 0, .float .f32 0, .float .f32 0, .float .f32 0, .float .f32 0, .int .i64 0, .float .f32 0, .float .f32 0, .float .f32 0], .bool false]) ∧ Below w.heap.size w w' := by
  obtain ⟨w0, hw0⟩ : ∃ z, z = w.alloc (.cells #[.float .f32 0, .float .f32 0, .float .f32 0, .float .f32 0, .float .f32 0, .float .f32 0, .float .f32 0, .float .f32 0, .int .i64 0, .float .f32 0, .float .f32 0, .float .f32 0] 26) := ⟨_, rfl⟩
  have b0 : Below w.heap.size w w0 := by rw [hw0]; exact (Below.refl _ _).alloc (Nat.le_refl _) _
  have K0 : Hid (BlkL w0 w.heap.size [.float .f32 0, .float .f32 0, .float .f32 0, .float .f32 0, .float .f32 0, .float .f32 0, .float .f32 0, .float .f32 0, .int .i64 0, .float .f32 0, .float .f32 0, .float .f32 0]) := Lib.hid (by rw [hw0]; exact blkL_at w #[.float .f32 0, .float .f32 0, .float .f32 0, .float .f32 0, .float .f32 0, .float .f32 0, .float .f32 0, .float .f32 0, .int .i64 0, .float .f32 0, .float .f32 0, .float .f32 0] _ rfl)
  have B0 := Lib.hid b0
  have HC : Hid (Calls Tryz.prog 49 #[.string s, .int .u8 59] w0 fun e w' => ∃ v, e = .returned v ∧ GrS w' w0.heap.size v (cutS 59 s) ∧ Below w0.heap.size w0 w') := Lib.hid (s_l01Cut 59 s w0 hs)
  clear b0
  have HPS : Hid ((cutS 59 s)[0]? = some (pcs 59 s 0) ∧ (cutS 59 s)[1]? = some (pcs 59 s 1) ∧ (cutS 59 s)[2]? = some (pcs 59 s 2)) := Lib.hid ⟨pcs_at hl (by decide), pcs_at hl (by decide), pcs_at hl (by decide)⟩
  have HL3 := Lib.hid hl
  have HCA : Hid (∀ W, Calls Tryz.prog 50 #[.string (pcs 59 s 0)] W fun e w' => ∃ R1 c1 g1, e = .returned (.tuple #[.slice R1 8 c1, .bool true]) ∧ OwnO w' W.heap.size R1 g1 (nmL (pcs 59 s 0)) ∧ Below W.heap.size W w') := Lib.hid (fun W => by have h := s_l01NRead (pcs 59 s 0) W (Nat.le_trans (pcs_size _ _ _) hs); rw [hoa, hla] at h; exact h)
  have HCD : Hid (∀ W, Calls Tryz.prog 51 #[.string (pcs 59 s 1)] W fun e w' => e = .returned (.tuple #[.int .i64 (vlR (pcs 59 s 1)), .bool true]) ∧ Below W.heap.size W w') := Lib.hid (fun W => by have h := s_l01Value (pcs 59 s 1) W; rw [hod] at h; exact h)
  have HCB : Hid (∀ W, Calls Tryz.prog 50 #[.string (pcs 59 s 2)] W fun e w' => ∃ R1 c1 g1, e = .returned (.tuple #[.slice R1 (nmL (pcs 59 s 2)).length c1, .bool true]) ∧ OwnO w' W.heap.size R1 g1 (nmL (pcs 59 s 2)) ∧ Below W.heap.size W w') := Lib.hid (fun W => by have h := s_l01NRead (pcs 59 s 2) W (Nat.le_trans (pcs_size _ _ _) hs); rw [hob] at h; exact h)
  have heq : (((nmL (pcs 59 s 2)).length : Int) == 3) = false := beq_eq_false_iff_ne.2 (by omega)
  clear hs hl hoa hod hob hla hlb
  go_enter Tryz.func25, Tryz.ntmps25
  go_upto_region 1 with fail
  rw [← hw0]
  clear hw0
  go_wp2_with fail
  refine HC.out.mono ?_
  rintro e w1 ⟨v, rfl, hg, b1⟩
  obtain ⟨pb, pc, rfl, hlo, hlt1, -, -, hcell⟩ := hg.own (by intro e; have := cutS_pos 59 s; rw [e] at this; simp at this)
  have K1 := Lib.hid (K0.out.below b1)
  have BB := Lib.hid (below_of B0.out B0.out.size b1)
  have HP : Hid (∀ W, Below w1.heap.size w1 W → W.cell? ⟨pb, 0, none⟩ = some (.string (pcs 59 s 0)) ∧ W.cell? ⟨pb, 1, none⟩ = some (.string (pcs 59 s 1)) ∧ W.cell? ⟨pb, 2, none⟩ = some (.string (pcs 59 s 2))) := Lib.hid (fun W hb => ⟨(hb.cell (p := ⟨pb, 0, none⟩) hlt1).trans (hcell 0 _ HPS.out.1), (hb.cell (p := ⟨pb, 1, none⟩) hlt1).trans (hcell 1 _ HPS.out.2.1), (hb.cell (p := ⟨pb, 2, none⟩) hlt1).trans (hcell 2 _ HPS.out.2.2)⟩)
  rw [HL3.out]
  clear hg hcell b1 HC B0 K0 HPS hlt1 hlo HL3
  obtain ⟨m0, m1, m2⟩ := HP.out _ (Below.refl _ _)
  generalize pcs 59 s 0 = a0 at *
  generalize pcs 59 s 1 = a1 at *
  generalize pcs 59 s 2 = a2 at *
  go_wp2_with fail
  refine (HCA.out _).mono ?_
  rintro e w2 ⟨RA, cA, gA, rfl, hoA, b2⟩
  have B2 := Lib.hid b2
  have OA := Lib.hid hoA
  clear hoA b2 m0 m1 m2 HCA
  obtain ⟨m0, m1, m2⟩ := HP.out _ B2.out
  go_wp2_with fail
  refine (HCD.out _).mono ?_
  rintro e w3 ⟨rfl, b3⟩
  have OA := Lib.hid (OA.out.below b3)
  have B3 := Lib.hid (below_of B2.out B2.out.size b3)
  clear b3 B2 m0 m1 m2 HCD
  obtain ⟨m0, m1, m2⟩ := HP.out _ B3.out
  go_wp2_with fail
  refine (HCB.out _).mono ?_
  rintro e w4 ⟨RB, cB, gB, rfl, hoB, b4⟩
  have OA := Lib.hid (OA.out.below b4)
  have OB := Lib.hid hoB
  have B4 := Lib.hid (below_of B3.out B3.out.size b4)
  have K4 := Lib.hid (K1.out.below B4.out)
  have BC := Lib.hid (below_of BB.out BB.out.size B4.out)
  clear hoB b4 B3 m0 m1 m2 HCB HP K1 BB B4
  clear OA OB
  obtain ⟨⟨f0, g0⟩, ⟨f1, g1⟩, ⟨f2, g2⟩, ⟨f3, g3⟩, ⟨f4, g4⟩, ⟨f5, g5⟩, ⟨f6, g6⟩, ⟨f7, g7⟩, ⟨f8, g8⟩, ⟨f9, g9⟩, ⟨f10, g10⟩, ⟨f11, g11⟩⟩ : (_ ∧ _) ∧ (_ ∧ _) ∧ (_ ∧ _) ∧ (_ ∧ _) ∧ (_ ∧ _) ∧ (_ ∧ _) ∧ (_ ∧ _) ∧ (_ ∧ _) ∧ (_ ∧ _) ∧ (_ ∧ _) ∧ (_ ∧ _) ∧ (_ ∧ _) := ⟨K4.out.2 0 _ rfl, K4.out.2 1 _ rfl, K4.out.2 2 _ rfl, K4.out.2 3 _ rfl, K4.out.2 4 _ rfl, K4.out.2 5 _ rfl, K4.out.2 6 _ rfl, K4.out.2 7 _ rfl, K4.out.2 8 _ rfl, K4.out.2 9 _ rfl, K4.out.2 10 _ rfl, K4.out.2 11 _ rfl⟩
  go_wp2
  have R := Lib.hid (((((((((((((BC.out.setCell (p := ⟨w.heap.size, 0, none⟩) (by simp) (.float .f32 0)).setCell (p := ⟨w.heap.size, 1, none⟩) (by simp) (.float .f32 0)).setCell (p := ⟨w.heap.size, 2, none⟩) (by simp) (.float .f32 0)).setCell (p := ⟨w.heap.size, 3, none⟩) (by simp) (.float .f32 0)).setCell (p := ⟨w.heap.size, 4, none⟩) (by simp) (.float .f32 0)).setCell (p := ⟨w.heap.size, 5, none⟩) (by simp) (.float .f32 0)).setCell (p := ⟨w.heap.size, 6, none⟩) (by simp) (.float .f32 0)).setCell (p := ⟨w.heap.size, 7, none⟩) (by simp) (.float .f32 0)).setCell (p := ⟨w.heap.size, 8, none⟩) (by simp) (.int .i64 0)).setCell (p := ⟨w.heap.size, 9, none⟩) (by simp) (.float .f32 0)).setCell (p := ⟨w.heap.size, 10, none⟩) (by simp) (.float .f32 0)).setCell (p := ⟨w.heap.size, 11, none⟩) (by simp) (.float .f32 0)))
  have Q := Lib.hid (((((((((((((K4.out.set (i := 0) (by simp) (.float .f32 0)).set (i := 1) (by simp) (.float .f32 0)).set (i := 2) (by simp) (.float .f32 0)).set (i := 3) (by simp) (.float .f32 0)).set (i := 4) (by simp) (.float .f32 0)).set (i := 5) (by simp) (.float .f32 0)).set (i := 6) (by simp) (.float .f32 0)).set (i := 7) (by simp) (.float .f32 0)).set (i := 8) (by simp) (.int .i64 0)).set (i := 9) (by simp) (.float .f32 0)).set (i := 10) (by simp) (.float .f32 0)).set (i := 11) (by simp) (.float .f32 0)))
  obtain ⟨c0, c1, c2, c3, c4, c5, c6, c7, c8, c9, c10, c11⟩ : _ ∧ _ ∧ _ ∧ _ ∧ _ ∧ _ ∧ _ ∧ _ ∧ _ ∧ _ ∧ _ ∧ _ := ⟨(Q.out.2 0 _ rfl).1, (Q.out.2 1 _ rfl).1, (Q.out.2 2 _ rfl).1, (Q.out.2 3 _ rfl).1, (Q.out.2 4 _ rfl).1, (Q.out.2 5 _ rfl).1, (Q.out.2 6 _ rfl).1, (Q.out.2 7 _ rfl).1, (Q.out.2 8 _ rfl).1, (Q.out.2 9 _ rfl).1, (Q.out.2 10 _ rfl).1, (Q.out.2 11 _ rfl).1⟩
  refine bodyPost_ret (v := .tuple #[.agg #[.float .f32 0, .float .f32 0, .float .f32 0, .float .f32 0, .float .f32 0, .float .f32 0, .float .f32 0, .float .f32 0, .int .i64 0, .float .f32 0, .float .f32 0, .float .f32 0], .bool false]) ?_ rfl ⟨rfl, R.out⟩
  simp [results, Tryz.results25, go_sem, c0, c1, c2, c3, c4, c5, c6, c7, c8, c9, c10, c11]
set_option maxHeartbeats 8000000 in
set_option maxRecDepth 100000 in
theorem s_l08ReadDrive_yes (s : ByteArray) (w : World) (hs : s.size ≤ 1048576) (hl : (cutS 59 s).length = 3) (hoa : nmO (pcs 59 s 0) = true) (hod : vlO (pcs 59 s 1) = true) (hob : nmO (pcs 59 s 2) = true) (hla : (nmL (pcs 59 s 0)).length = 8) (hlb : (nmL (pcs 59 s 2)).length = 3) (hv : driveV (dvP s 0) (dvP s 1) (dvP s 2) (dvP s 3) (dvP s 4) (dvP s 5) (dvP s 6) (dvP s 7) (dvZ s) (dvE s 0) (dvE s 1) (dvE s 2) = true) :
    Calls Tryz.prog 25 #[.string s] w fun e w' => e = .returned (.tuple #[.agg #[.float .f32 (dvP s 0), .float .f32 (dvP s 1), .float .f32 (dvP s 2), .float .f32 (dvP s 3), .float .f32 (dvP s 4), .float .f32 (dvP s 5), .float .f32 (dvP s 6), .float .f32 (dvP s 7), .int .i64 (dvZ s), .float .f32 (dvE s 0), .float .f32 (dvE s 1), .float .f32 (dvE s 2)], .bool true]) ∧ Below w.heap.size w w' := by
  obtain ⟨w0, hw0⟩ : ∃ z, z = w.alloc (.cells #[.float .f32 0, .float .f32 0, .float .f32 0, .float .f32 0, .float .f32 0, .float .f32 0, .float .f32 0, .float .f32 0, .int .i64 0, .float .f32 0, .float .f32 0, .float .f32 0] 26) := ⟨_, rfl⟩
  have b0 : Below w.heap.size w w0 := by rw [hw0]; exact (Below.refl _ _).alloc (Nat.le_refl _) _
  have K0 : Hid (BlkL w0 w.heap.size [.float .f32 0, .float .f32 0, .float .f32 0, .float .f32 0, .float .f32 0, .float .f32 0, .float .f32 0, .float .f32 0, .int .i64 0, .float .f32 0, .float .f32 0, .float .f32 0]) := Lib.hid (by rw [hw0]; exact blkL_at w #[.float .f32 0, .float .f32 0, .float .f32 0, .float .f32 0, .float .f32 0, .float .f32 0, .float .f32 0, .float .f32 0, .int .i64 0, .float .f32 0, .float .f32 0, .float .f32 0] _ rfl)
  have B0 := Lib.hid b0
  have HC : Hid (Calls Tryz.prog 49 #[.string s, .int .u8 59] w0 fun e w' => ∃ v, e = .returned v ∧ GrS w' w0.heap.size v (cutS 59 s) ∧ Below w0.heap.size w0 w') := Lib.hid (s_l01Cut 59 s w0 hs)
  clear b0
  have HPS : Hid ((cutS 59 s)[0]? = some (pcs 59 s 0) ∧ (cutS 59 s)[1]? = some (pcs 59 s 1) ∧ (cutS 59 s)[2]? = some (pcs 59 s 2)) := Lib.hid ⟨pcs_at hl (by decide), pcs_at hl (by decide), pcs_at hl (by decide)⟩
  have HL3 := Lib.hid hl
  have HCA : Hid (∀ W, Calls Tryz.prog 50 #[.string (pcs 59 s 0)] W fun e w' => ∃ R1 c1 g1, e = .returned (.tuple #[.slice R1 8 c1, .bool true]) ∧ OwnO w' W.heap.size R1 g1 (nmL (pcs 59 s 0)) ∧ Below W.heap.size W w') := Lib.hid (fun W => by have h := s_l01NRead (pcs 59 s 0) W (Nat.le_trans (pcs_size _ _ _) hs); rw [hoa, hla] at h; exact h)
  have HCD : Hid (∀ W, Calls Tryz.prog 51 #[.string (pcs 59 s 1)] W fun e w' => e = .returned (.tuple #[.int .i64 (vlR (pcs 59 s 1)), .bool true]) ∧ Below W.heap.size W w') := Lib.hid (fun W => by have h := s_l01Value (pcs 59 s 1) W; rw [hod] at h; exact h)
  have HCB : Hid (∀ W, Calls Tryz.prog 50 #[.string (pcs 59 s 2)] W fun e w' => ∃ R1 c1 g1, e = .returned (.tuple #[.slice R1 3 c1, .bool true]) ∧ OwnO w' W.heap.size R1 g1 (nmL (pcs 59 s 2)) ∧ Below W.heap.size W w') := Lib.hid (fun W => by have h := s_l01NRead (pcs 59 s 2) W (Nat.le_trans (pcs_size _ _ _) hs); rw [hob, hlb] at h; exact h)
  have HLN : Hid ((nmL (pcs 59 s 0)).length = 8 ∧ (nmL (pcs 59 s 2)).length = 3) := Lib.hid ⟨hla, hlb⟩
  clear hs hl hoa hod hob hla hlb
  unfold dvP dvZ dvE at *
  generalize pcs 59 s 0 = a0 at *
  generalize pcs 59 s 1 = a1 at *
  generalize pcs 59 s 2 = a2 at *
  generalize vlR a1 = z at *
  obtain ⟨x0, hx0⟩ : ∃ x, x = (nmL a0).getD 0 0 := ⟨_, rfl⟩
  obtain ⟨x1, hx1⟩ : ∃ x, x = (nmL a0).getD 1 0 := ⟨_, rfl⟩
  obtain ⟨x2, hx2⟩ : ∃ x, x = (nmL a0).getD 2 0 := ⟨_, rfl⟩
  obtain ⟨x3, hx3⟩ : ∃ x, x = (nmL a0).getD 3 0 := ⟨_, rfl⟩
  obtain ⟨x4, hx4⟩ : ∃ x, x = (nmL a0).getD 4 0 := ⟨_, rfl⟩
  obtain ⟨x5, hx5⟩ : ∃ x, x = (nmL a0).getD 5 0 := ⟨_, rfl⟩
  obtain ⟨x6, hx6⟩ : ∃ x, x = (nmL a0).getD 6 0 := ⟨_, rfl⟩
  obtain ⟨x7, hx7⟩ : ∃ x, x = (nmL a0).getD 7 0 := ⟨_, rfl⟩
  obtain ⟨y0, hy0⟩ : ∃ x, x = (nmL a2).getD 0 0 := ⟨_, rfl⟩
  obtain ⟨y1, hy1⟩ : ∃ x, x = (nmL a2).getD 1 0 := ⟨_, rfl⟩
  obtain ⟨y2, hy2⟩ : ∃ x, x = (nmL a2).getD 2 0 := ⟨_, rfl⟩
  rw [← hx0, ← hx1, ← hx2, ← hx3, ← hx4, ← hx5, ← hx6, ← hx7, ← hy0, ← hy1, ← hy2] at hv ⊢
  have HXS : Hid (x0 = (nmL a0).getD 0 0 ∧ x1 = (nmL a0).getD 1 0 ∧ x2 = (nmL a0).getD 2 0 ∧ x3 = (nmL a0).getD 3 0 ∧ x4 = (nmL a0).getD 4 0 ∧ x5 = (nmL a0).getD 5 0 ∧ x6 = (nmL a0).getD 6 0 ∧ x7 = (nmL a0).getD 7 0 ∧ y0 = (nmL a2).getD 0 0 ∧ y1 = (nmL a2).getD 1 0 ∧ y2 = (nmL a2).getD 2 0) := Lib.hid ⟨hx0, hx1, hx2, hx3, hx4, hx5, hx6, hx7, hy0, hy1, hy2⟩
  clear hx0 hx1 hx2 hx3 hx4 hx5 hx6 hx7 hy0 hy1 hy2
  have HV := Lib.hid hv
  clear hv
  go_enter Tryz.func25, Tryz.ntmps25
  go_upto_region 1 with fail
  rw [← hw0]
  clear hw0
  go_wp2_with fail
  refine HC.out.mono ?_
  rintro e w1 ⟨v, rfl, hg, b1⟩
  obtain ⟨pb, pc, rfl, hlo, hlt1, -, -, hcell⟩ := hg.own (by intro e; have := cutS_pos 59 s; rw [e] at this; simp at this)
  have K1 := Lib.hid (K0.out.below b1)
  have BB := Lib.hid (below_of B0.out B0.out.size b1)
  have HP : Hid (∀ W, Below w1.heap.size w1 W → W.cell? ⟨pb, 0, none⟩ = some (.string a0) ∧ W.cell? ⟨pb, 1, none⟩ = some (.string a1) ∧ W.cell? ⟨pb, 2, none⟩ = some (.string a2)) := Lib.hid (fun W hb => ⟨(hb.cell (p := ⟨pb, 0, none⟩) hlt1).trans (hcell 0 _ HPS.out.1), (hb.cell (p := ⟨pb, 1, none⟩) hlt1).trans (hcell 1 _ HPS.out.2.1), (hb.cell (p := ⟨pb, 2, none⟩) hlt1).trans (hcell 2 _ HPS.out.2.2)⟩)
  rw [HL3.out]
  clear hg hcell b1 HC B0 K0 HPS hlt1 hlo HL3
  obtain ⟨m0, m1, m2⟩ := HP.out _ (Below.refl _ _)
  go_wp2_with fail
  refine (HCA.out _).mono ?_
  rintro e w2 ⟨RA, cA, gA, rfl, hoA, b2⟩
  have B2 := Lib.hid b2
  have OA := Lib.hid hoA
  clear hoA b2 m0 m1 m2 HCA
  obtain ⟨m0, m1, m2⟩ := HP.out _ B2.out
  go_wp2_with fail
  refine (HCD.out _).mono ?_
  rintro e w3 ⟨rfl, b3⟩
  have OA := Lib.hid (OA.out.below b3)
  have B3 := Lib.hid (below_of B2.out B2.out.size b3)
  clear b3 B2 m0 m1 m2 HCD
  obtain ⟨m0, m1, m2⟩ := HP.out _ B3.out
  go_wp2_with fail
  refine (HCB.out _).mono ?_
  rintro e w4 ⟨RB, cB, gB, rfl, hoB, b4⟩
  have OA := Lib.hid (OA.out.below b4)
  have OB := Lib.hid hoB
  have B4 := Lib.hid (below_of B3.out B3.out.size b4)
  have K4 := Lib.hid (K1.out.below B4.out)
  have BC := Lib.hid (below_of BB.out BB.out.size B4.out)
  clear hoB b4 B3 m0 m1 m2 HCB HP K1 BB B4
  obtain ⟨rfl, nA⟩ := OA.out.nb (by rw [HLN.out.1]; decide)
  obtain ⟨rfl, nB⟩ := OB.out.nb (by rw [HLN.out.2]; decide)
  have HNA : Hid (∀ W, Below w4.heap.size w4 W → W.cell? ⟨gA, 0, none⟩ = some (.float .f32 x0) ∧ W.cell? ⟨gA, 1, none⟩ = some (.float .f32 x1) ∧ W.cell? ⟨gA, 2, none⟩ = some (.float .f32 x2) ∧ W.cell? ⟨gA, 3, none⟩ = some (.float .f32 x3) ∧ W.cell? ⟨gA, 4, none⟩ = some (.float .f32 x4) ∧ W.cell? ⟨gA, 5, none⟩ = some (.float .f32 x5) ∧ W.cell? ⟨gA, 6, none⟩ = some (.float .f32 x6) ∧ W.cell? ⟨gA, 7, none⟩ = some (.float .f32 x7)) := Lib.hid (fun W hb => by
    have h := nA.below hb
    exact ⟨by rw [HXS.out.1]; exact h.2.2 0 (by rw [HLN.out.1]; decide), by rw [HXS.out.2.1]; exact h.2.2 1 (by rw [HLN.out.1]; decide), by rw [HXS.out.2.2.1]; exact h.2.2 2 (by rw [HLN.out.1]; decide), by rw [HXS.out.2.2.2.1]; exact h.2.2 3 (by rw [HLN.out.1]; decide), by rw [HXS.out.2.2.2.2.1]; exact h.2.2 4 (by rw [HLN.out.1]; decide), by rw [HXS.out.2.2.2.2.2.1]; exact h.2.2 5 (by rw [HLN.out.1]; decide), by rw [HXS.out.2.2.2.2.2.2.1]; exact h.2.2 6 (by rw [HLN.out.1]; decide), by rw [HXS.out.2.2.2.2.2.2.2.1]; exact h.2.2 7 (by rw [HLN.out.1]; decide)⟩)
  have HNB : Hid (∀ W, Below w4.heap.size w4 W → W.cell? ⟨gB, 0, none⟩ = some (.float .f32 y0) ∧ W.cell? ⟨gB, 1, none⟩ = some (.float .f32 y1) ∧ W.cell? ⟨gB, 2, none⟩ = some (.float .f32 y2)) := Lib.hid (fun W hb => by
    have h := nB.below hb
    exact ⟨by rw [HXS.out.2.2.2.2.2.2.2.2.1]; exact h.2.2 0 (by rw [HLN.out.2]; decide), by rw [HXS.out.2.2.2.2.2.2.2.2.2.1]; exact h.2.2 1 (by rw [HLN.out.2]; decide), by rw [HXS.out.2.2.2.2.2.2.2.2.2.2]; exact h.2.2 2 (by rw [HLN.out.2]; decide)⟩)
  clear nA nB OA OB HLN HXS
  go_wp2_with fail
  refine wp_region_inv4 (fun iq wv v => match iq with
    | 0 => v = .slice (some ⟨gA, 0, none⟩) 8 cA
    | 1 => v = .pointer (some ⟨gA, 0, none⟩)
    | 2 => v = .float .f32 x0
    | 3 => v = .slice (some ⟨gA, 0, none⟩) 8 cA
    | 4 => v = .pointer (some ⟨gA, 1, none⟩)
    | 5 => v = .float .f32 x1
    | 6 => v = .slice (some ⟨gA, 0, none⟩) 8 cA
    | 7 => v = .pointer (some ⟨gA, 2, none⟩)
    | 8 => v = .float .f32 x2
    | 9 => v = .slice (some ⟨gA, 0, none⟩) 8 cA
    | 10 => v = .pointer (some ⟨gA, 3, none⟩)
    | 11 => v = .float .f32 x3
    | 12 => v = .slice (some ⟨gA, 0, none⟩) 8 cA
    | 13 => v = .pointer (some ⟨gA, 4, none⟩)
    | 14 => v = .float .f32 x4
    | 15 => v = .slice (some ⟨gA, 0, none⟩) 8 cA
    | 16 => v = .pointer (some ⟨gA, 5, none⟩)
    | 17 => v = .float .f32 x5
    | 18 => v = .slice (some ⟨gA, 0, none⟩) 8 cA
    | 19 => v = .pointer (some ⟨gA, 6, none⟩)
    | 20 => v = .float .f32 x6
    | 21 => v = .slice (some ⟨gA, 0, none⟩) 8 cA
    | 22 => v = .pointer (some ⟨gA, 7, none⟩)
    | 23 => v = .float .f32 x7
    | 24 => v = .agg #[.float .f32 x0, .float .f32 x1, .float .f32 x2, .float .f32 x3, .float .f32 x4, .float .f32 x5, .float .f32 x6, .float .f32 x7]
    | 25 => v = .pointer (some ⟨w4.heap.size, 0, none⟩)
    | 26 => True
    | _ => False) (W3 w4.drew (w4.drew.alloc (.cells #[.float .f32 0, .float .f32 0, .float .f32 0, .float .f32 0, .float .f32 0, .float .f32 0, .float .f32 0, .float .f32 0] 24)) (fun x => Below w4.heap.size w4 x ∧ BlkL x w4.heap.size [.float .f32 x0, .float .f32 x1, .float .f32 x2, .float .f32 x3, .float .f32 x4, .float .f32 x5, .float .f32 x6, .float .f32 x7]) 25 26) (fun _ _ => True) ?hmono (by kernel_rfl) (by kernel_rfl) W3.start ?hop ?hend
  case hmono =>
    intro i wa wb v hR hV
    rcases i with _ | _ | _ | _ | _ | _ | _ | _ | _ | _ | _ | _ | _ | _ | _ | _ | _ | _ | _ | _ | _ | _ | _ | _ | _ | _ | _ | i
    · exact hV
    · exact hV
    · exact hV
    · exact hV
    · exact hV
    · exact hV
    · exact hV
    · exact hV
    · exact hV
    · exact hV
    · exact hV
    · exact hV
    · exact hV
    · exact hV
    · exact hV
    · exact hV
    · exact hV
    · exact hV
    · exact hV
    · exact hV
    · exact hV
    · exact hV
    · exact hV
    · exact hV
    · exact hV
    · exact hV
    · exact hV
    · exact hV
  case hop =>
    intro q o hq listed act w3 hI hnot hcl hall
    have hC := hI.cls
    have hlen : listed.size = 27 := hI.len
    have hbel := hC.below (w := w4) ((Below.refl _ _).drew) (((Below.refl _ _).drew).alloc (Nat.le_refl _) _) (fun x h => h.1)
    obtain ⟨m0, m1, m2, m3, m4, m5, m6, m7⟩ := HNA.out _ hbel
    rcases q with _ | _ | _ | _ | _ | _ | _ | _ | _ | _ | _ | _ | _ | _ | _ | _ | _ | _ | _ | _ | _ | _ | _ | _ | _ | _ | _ | q
    · simp at hq; subst hq
      have g5 : act.tmps[5]?.getD undef = .slice (some ⟨gA, 0, none⟩) 8 cA := hI.kept 5 (by kernel_rfl)
      clear hI hall hnot hcl
      refine .inl ⟨wanted_none rfl, ?_⟩
      unfold Oper.wp
      go_simp
      all_goals exact ⟨_, rfl, rfl, hC.keep (k := 0) (by decide) (by decide) (by rw [hlen]; decide)⟩
    · simp at hq; subst hq
      have g61 : act.tmps[61]?.getD undef = .slice (some ⟨gA, 0, none⟩) 8 cA := hI.has 0 61 rfl (hall ⟨0, .data⟩ (by simp) rfl)
      clear hI hall hnot hcl
      refine .inl ⟨wanted_none rfl, ?_⟩
      unfold Oper.wp
      go_simp
      all_goals exact ⟨_, rfl, rfl, hC.keep (k := 1) (by decide) (by decide) (by rw [hlen]; decide)⟩
    · simp at hq; subst hq
      have g62 : act.tmps[62]?.getD undef = .pointer (some ⟨gA, 0, none⟩) := hI.has 1 62 rfl (hall ⟨1, .data⟩ (by simp) rfl)
      clear hI hall hnot hcl
      refine .inl ⟨wanted_none rfl, ?_⟩
      unfold Oper.wp
      go_simp
      all_goals exact ⟨_, rfl, rfl, hC.keep (k := 2) (by decide) (by decide) (by rw [hlen]; decide)⟩
    · simp at hq; subst hq
      have g5 : act.tmps[5]?.getD undef = .slice (some ⟨gA, 0, none⟩) 8 cA := hI.kept 5 (by kernel_rfl)
      clear hI hall hnot hcl
      refine .inl ⟨wanted_none rfl, ?_⟩
      unfold Oper.wp
      go_simp
      all_goals exact ⟨_, rfl, rfl, hC.keep (k := 3) (by decide) (by decide) (by rw [hlen]; decide)⟩
    · simp at hq; subst hq
      have g64 : act.tmps[64]?.getD undef = .slice (some ⟨gA, 0, none⟩) 8 cA := hI.has 3 64 rfl (hall ⟨3, .data⟩ (by simp) rfl)
      clear hI hall hnot hcl
      refine .inl ⟨wanted_none rfl, ?_⟩
      unfold Oper.wp
      go_simp
      all_goals exact ⟨_, rfl, rfl, hC.keep (k := 4) (by decide) (by decide) (by rw [hlen]; decide)⟩
    · simp at hq; subst hq
      have g65 : act.tmps[65]?.getD undef = .pointer (some ⟨gA, 1, none⟩) := hI.has 4 65 rfl (hall ⟨4, .data⟩ (by simp) rfl)
      clear hI hall hnot hcl
      refine .inl ⟨wanted_none rfl, ?_⟩
      unfold Oper.wp
      go_simp
      all_goals exact ⟨_, rfl, rfl, hC.keep (k := 5) (by decide) (by decide) (by rw [hlen]; decide)⟩
    · simp at hq; subst hq
      have g5 : act.tmps[5]?.getD undef = .slice (some ⟨gA, 0, none⟩) 8 cA := hI.kept 5 (by kernel_rfl)
      clear hI hall hnot hcl
      refine .inl ⟨wanted_none rfl, ?_⟩
      unfold Oper.wp
      go_simp
      all_goals exact ⟨_, rfl, rfl, hC.keep (k := 6) (by decide) (by decide) (by rw [hlen]; decide)⟩
    · simp at hq; subst hq
      have g67 : act.tmps[67]?.getD undef = .slice (some ⟨gA, 0, none⟩) 8 cA := hI.has 6 67 rfl (hall ⟨6, .data⟩ (by simp) rfl)
      clear hI hall hnot hcl
      refine .inl ⟨wanted_none rfl, ?_⟩
      unfold Oper.wp
      go_simp
      all_goals exact ⟨_, rfl, rfl, hC.keep (k := 7) (by decide) (by decide) (by rw [hlen]; decide)⟩
    · simp at hq; subst hq
      have g68 : act.tmps[68]?.getD undef = .pointer (some ⟨gA, 2, none⟩) := hI.has 7 68 rfl (hall ⟨7, .data⟩ (by simp) rfl)
      clear hI hall hnot hcl
      refine .inl ⟨wanted_none rfl, ?_⟩
      unfold Oper.wp
      go_simp
      all_goals exact ⟨_, rfl, rfl, hC.keep (k := 8) (by decide) (by decide) (by rw [hlen]; decide)⟩
    · simp at hq; subst hq
      have g5 : act.tmps[5]?.getD undef = .slice (some ⟨gA, 0, none⟩) 8 cA := hI.kept 5 (by kernel_rfl)
      clear hI hall hnot hcl
      refine .inl ⟨wanted_none rfl, ?_⟩
      unfold Oper.wp
      go_simp
      all_goals exact ⟨_, rfl, rfl, hC.keep (k := 9) (by decide) (by decide) (by rw [hlen]; decide)⟩
    · simp at hq; subst hq
      have g70 : act.tmps[70]?.getD undef = .slice (some ⟨gA, 0, none⟩) 8 cA := hI.has 9 70 rfl (hall ⟨9, .data⟩ (by simp) rfl)
      clear hI hall hnot hcl
      refine .inl ⟨wanted_none rfl, ?_⟩
      unfold Oper.wp
      go_simp
      all_goals exact ⟨_, rfl, rfl, hC.keep (k := 10) (by decide) (by decide) (by rw [hlen]; decide)⟩
    · simp at hq; subst hq
      have g71 : act.tmps[71]?.getD undef = .pointer (some ⟨gA, 3, none⟩) := hI.has 10 71 rfl (hall ⟨10, .data⟩ (by simp) rfl)
      clear hI hall hnot hcl
      refine .inl ⟨wanted_none rfl, ?_⟩
      unfold Oper.wp
      go_simp
      all_goals exact ⟨_, rfl, rfl, hC.keep (k := 11) (by decide) (by decide) (by rw [hlen]; decide)⟩
    · simp at hq; subst hq
      have g5 : act.tmps[5]?.getD undef = .slice (some ⟨gA, 0, none⟩) 8 cA := hI.kept 5 (by kernel_rfl)
      clear hI hall hnot hcl
      refine .inl ⟨wanted_none rfl, ?_⟩
      unfold Oper.wp
      go_simp
      all_goals exact ⟨_, rfl, rfl, hC.keep (k := 12) (by decide) (by decide) (by rw [hlen]; decide)⟩
    · simp at hq; subst hq
      have g73 : act.tmps[73]?.getD undef = .slice (some ⟨gA, 0, none⟩) 8 cA := hI.has 12 73 rfl (hall ⟨12, .data⟩ (by simp) rfl)
      clear hI hall hnot hcl
      refine .inl ⟨wanted_none rfl, ?_⟩
      unfold Oper.wp
      go_simp
      all_goals exact ⟨_, rfl, rfl, hC.keep (k := 13) (by decide) (by decide) (by rw [hlen]; decide)⟩
    · simp at hq; subst hq
      have g74 : act.tmps[74]?.getD undef = .pointer (some ⟨gA, 4, none⟩) := hI.has 13 74 rfl (hall ⟨13, .data⟩ (by simp) rfl)
      clear hI hall hnot hcl
      refine .inl ⟨wanted_none rfl, ?_⟩
      unfold Oper.wp
      go_simp
      all_goals exact ⟨_, rfl, rfl, hC.keep (k := 14) (by decide) (by decide) (by rw [hlen]; decide)⟩
    · simp at hq; subst hq
      have g5 : act.tmps[5]?.getD undef = .slice (some ⟨gA, 0, none⟩) 8 cA := hI.kept 5 (by kernel_rfl)
      clear hI hall hnot hcl
      refine .inl ⟨wanted_none rfl, ?_⟩
      unfold Oper.wp
      go_simp
      all_goals exact ⟨_, rfl, rfl, hC.keep (k := 15) (by decide) (by decide) (by rw [hlen]; decide)⟩
    · simp at hq; subst hq
      have g76 : act.tmps[76]?.getD undef = .slice (some ⟨gA, 0, none⟩) 8 cA := hI.has 15 76 rfl (hall ⟨15, .data⟩ (by simp) rfl)
      clear hI hall hnot hcl
      refine .inl ⟨wanted_none rfl, ?_⟩
      unfold Oper.wp
      go_simp
      all_goals exact ⟨_, rfl, rfl, hC.keep (k := 16) (by decide) (by decide) (by rw [hlen]; decide)⟩
    · simp at hq; subst hq
      have g77 : act.tmps[77]?.getD undef = .pointer (some ⟨gA, 5, none⟩) := hI.has 16 77 rfl (hall ⟨16, .data⟩ (by simp) rfl)
      clear hI hall hnot hcl
      refine .inl ⟨wanted_none rfl, ?_⟩
      unfold Oper.wp
      go_simp
      all_goals exact ⟨_, rfl, rfl, hC.keep (k := 17) (by decide) (by decide) (by rw [hlen]; decide)⟩
    · simp at hq; subst hq
      have g5 : act.tmps[5]?.getD undef = .slice (some ⟨gA, 0, none⟩) 8 cA := hI.kept 5 (by kernel_rfl)
      clear hI hall hnot hcl
      refine .inl ⟨wanted_none rfl, ?_⟩
      unfold Oper.wp
      go_simp
      all_goals exact ⟨_, rfl, rfl, hC.keep (k := 18) (by decide) (by decide) (by rw [hlen]; decide)⟩
    · simp at hq; subst hq
      have g79 : act.tmps[79]?.getD undef = .slice (some ⟨gA, 0, none⟩) 8 cA := hI.has 18 79 rfl (hall ⟨18, .data⟩ (by simp) rfl)
      clear hI hall hnot hcl
      refine .inl ⟨wanted_none rfl, ?_⟩
      unfold Oper.wp
      go_simp
      all_goals exact ⟨_, rfl, rfl, hC.keep (k := 19) (by decide) (by decide) (by rw [hlen]; decide)⟩
    · simp at hq; subst hq
      have g80 : act.tmps[80]?.getD undef = .pointer (some ⟨gA, 6, none⟩) := hI.has 19 80 rfl (hall ⟨19, .data⟩ (by simp) rfl)
      clear hI hall hnot hcl
      refine .inl ⟨wanted_none rfl, ?_⟩
      unfold Oper.wp
      go_simp
      all_goals exact ⟨_, rfl, rfl, hC.keep (k := 20) (by decide) (by decide) (by rw [hlen]; decide)⟩
    · simp at hq; subst hq
      have g5 : act.tmps[5]?.getD undef = .slice (some ⟨gA, 0, none⟩) 8 cA := hI.kept 5 (by kernel_rfl)
      clear hI hall hnot hcl
      refine .inl ⟨wanted_none rfl, ?_⟩
      unfold Oper.wp
      go_simp
      all_goals exact ⟨_, rfl, rfl, hC.keep (k := 21) (by decide) (by decide) (by rw [hlen]; decide)⟩
    · simp at hq; subst hq
      have g82 : act.tmps[82]?.getD undef = .slice (some ⟨gA, 0, none⟩) 8 cA := hI.has 21 82 rfl (hall ⟨21, .data⟩ (by simp) rfl)
      clear hI hall hnot hcl
      refine .inl ⟨wanted_none rfl, ?_⟩
      unfold Oper.wp
      go_simp
      all_goals exact ⟨_, rfl, rfl, hC.keep (k := 22) (by decide) (by decide) (by rw [hlen]; decide)⟩
    · simp at hq; subst hq
      have g83 : act.tmps[83]?.getD undef = .pointer (some ⟨gA, 7, none⟩) := hI.has 22 83 rfl (hall ⟨22, .data⟩ (by simp) rfl)
      clear hI hall hnot hcl
      refine .inl ⟨wanted_none rfl, ?_⟩
      unfold Oper.wp
      go_simp
      all_goals exact ⟨_, rfl, rfl, hC.keep (k := 23) (by decide) (by decide) (by rw [hlen]; decide)⟩
    · simp at hq; subst hq
      have g63 : act.tmps[63]?.getD undef = .float .f32 x0 := hI.has 2 63 rfl (hall ⟨2, .data⟩ (by simp) rfl)
      have g66 : act.tmps[66]?.getD undef = .float .f32 x1 := hI.has 5 66 rfl (hall ⟨5, .data⟩ (by simp) rfl)
      have g69 : act.tmps[69]?.getD undef = .float .f32 x2 := hI.has 8 69 rfl (hall ⟨8, .data⟩ (by simp) rfl)
      have g72 : act.tmps[72]?.getD undef = .float .f32 x3 := hI.has 11 72 rfl (hall ⟨11, .data⟩ (by simp) rfl)
      have g75 : act.tmps[75]?.getD undef = .float .f32 x4 := hI.has 14 75 rfl (hall ⟨14, .data⟩ (by simp) rfl)
      have g78 : act.tmps[78]?.getD undef = .float .f32 x5 := hI.has 17 78 rfl (hall ⟨17, .data⟩ (by simp) rfl)
      have g81 : act.tmps[81]?.getD undef = .float .f32 x6 := hI.has 20 81 rfl (hall ⟨20, .data⟩ (by simp) rfl)
      have g84 : act.tmps[84]?.getD undef = .float .f32 x7 := hI.has 23 84 rfl (hall ⟨23, .data⟩ (by simp) rfl)
      clear hI hall hnot hcl
      refine .inl ⟨wanted_none rfl, ?_⟩
      unfold Oper.wp
      go_simp
      all_goals exact ⟨_, rfl, rfl, hC.keep (k := 24) (by decide) (by decide) (by rw [hlen]; decide)⟩
    · simp at hq; subst hq
      have hns := hcl.not (j := 26) (i := 25) (e := ⟨25, .data⟩) rfl (by simp) rfl rfl hnot
      have hD := hC.atD hns hnot
      subst hD
      clear hI hall hnot hcl
      refine .inl ⟨wanted_none rfl, ?_⟩
      unfold Oper.wp
      go_simp
      exact ⟨_, rfl, rfl, W3.made hns (by rw [hlen]; decide) (by decide)⟩
    · simp at hq; subst hq
      have g11 : act.tmps[11]?.getD undef = .pointer (some ⟨w4.heap.size, 0, none⟩) := hI.has 25 11 rfl (hall ⟨25, .data⟩ (by simp) rfl)
      have g85 : act.tmps[85]?.getD undef = .agg #[.float .f32 x0, .float .f32 x1, .float .f32 x2, .float .f32 x3, .float .f32 x4, .float .f32 x5, .float .f32 x6, .float .f32 x7] := hI.has 24 85 rfl (hall ⟨24, .data⟩ (by simp) rfl)
      have hA := hC.atA hnot (hall ⟨25, .data⟩ (by simp) rfl)
      have hvs : BlkL w3 w4.heap.size [.float .f32 0, .float .f32 0, .float .f32 0, .float .f32 0, .float .f32 0, .float .f32 0, .float .f32 0, .float .f32 0] := by rw [hA]; exact blkL_at w4.drew #[.float .f32 0, .float .f32 0, .float .f32 0, .float .f32 0, .float .f32 0, .float .f32 0, .float .f32 0, .float .f32 0] 24 rfl
      clear hA hC
      clear hI hall hnot hcl
      refine .inl ⟨wanted_none rfl, ?_⟩
      unfold Oper.wp
      go_simp
      have p0 := (hvs.2 0 _ rfl).1
      have f0 := (hvs.2 0 _ rfl).2
      have p1 := (hvs.2 1 _ rfl).1
      have f1 := (hvs.2 1 _ rfl).2
      have p2 := (hvs.2 2 _ rfl).1
      have f2 := (hvs.2 2 _ rfl).2
      have p3 := (hvs.2 3 _ rfl).1
      have f3 := (hvs.2 3 _ rfl).2
      have p4 := (hvs.2 4 _ rfl).1
      have f4 := (hvs.2 4 _ rfl).2
      have p5 := (hvs.2 5 _ rfl).1
      have f5 := (hvs.2 5 _ rfl).2
      have p6 := (hvs.2 6 _ rfl).1
      have f6 := (hvs.2 6 _ rfl).2
      have p7 := (hvs.2 7 _ rfl).1
      have f7 := (hvs.2 7 _ rfl).2
      go_simp
      first | exact ⟨trivial, trivial, W3.stored ⟨((((((((hbel.setCell (p := ⟨w4.heap.size, 0, none⟩) (Nat.le_refl _) (.float .f32 x0)).setCell (p := ⟨w4.heap.size, 1, none⟩) (Nat.le_refl _) (.float .f32 x1)).setCell (p := ⟨w4.heap.size, 2, none⟩) (Nat.le_refl _) (.float .f32 x2)).setCell (p := ⟨w4.heap.size, 3, none⟩) (Nat.le_refl _) (.float .f32 x3)).setCell (p := ⟨w4.heap.size, 4, none⟩) (Nat.le_refl _) (.float .f32 x4)).setCell (p := ⟨w4.heap.size, 5, none⟩) (Nat.le_refl _) (.float .f32 x5)).setCell (p := ⟨w4.heap.size, 6, none⟩) (Nat.le_refl _) (.float .f32 x6)).setCell (p := ⟨w4.heap.size, 7, none⟩) (Nat.le_refl _) (.float .f32 x7)), ((((((((hvs.set (i := 0) (by simp) (.float .f32 x0)).set (i := 1) (by simp) (.float .f32 x1)).set (i := 2) (by simp) (.float .f32 x2)).set (i := 3) (by simp) (.float .f32 x3)).set (i := 4) (by simp) (.float .f32 x4)).set (i := 5) (by simp) (.float .f32 x5)).set (i := 6) (by simp) (.float .f32 x6)).set (i := 7) (by simp) (.float .f32 x7))⟩ (by rw [hlen]; decide)⟩ | exact W3.stored ⟨((((((((hbel.setCell (p := ⟨w4.heap.size, 0, none⟩) (Nat.le_refl _) (.float .f32 x0)).setCell (p := ⟨w4.heap.size, 1, none⟩) (Nat.le_refl _) (.float .f32 x1)).setCell (p := ⟨w4.heap.size, 2, none⟩) (Nat.le_refl _) (.float .f32 x2)).setCell (p := ⟨w4.heap.size, 3, none⟩) (Nat.le_refl _) (.float .f32 x3)).setCell (p := ⟨w4.heap.size, 4, none⟩) (Nat.le_refl _) (.float .f32 x4)).setCell (p := ⟨w4.heap.size, 5, none⟩) (Nat.le_refl _) (.float .f32 x5)).setCell (p := ⟨w4.heap.size, 6, none⟩) (Nat.le_refl _) (.float .f32 x6)).setCell (p := ⟨w4.heap.size, 7, none⟩) (Nat.le_refl _) (.float .f32 x7)), ((((((((hvs.set (i := 0) (by simp) (.float .f32 x0)).set (i := 1) (by simp) (.float .f32 x1)).set (i := 2) (by simp) (.float .f32 x2)).set (i := 3) (by simp) (.float .f32 x3)).set (i := 4) (by simp) (.float .f32 x4)).set (i := 5) (by simp) (.float .f32 x5)).set (i := 6) (by simp) (.float .f32 x6)).set (i := 7) (by simp) (.float .f32 x7))⟩ (by rw [hlen]; decide)
    · simp at hq
  case hend =>
    intro listed act w3 hI hall
    have hC := hI.cls
    have hlen : listed.size = 27 := hI.len
    have hbel := hC.below (w := w4) ((Below.refl _ _).drew) (((Below.refl _ _).drew).alloc (Nat.le_refl _) _) (fun x h => h.1)
    obtain ⟨m0, m1, m2, m3, m4, m5, m6, m7⟩ := HNA.out _ hbel
    obtain ⟨hbF, hkF⟩ := hC.fin (hall 26 (by decide))
    have g11 : act.tmps[11]?.getD undef = .pointer (some ⟨w4.heap.size, 0, none⟩) := hI.has 25 11 rfl (hall 25 (by decide))
    have g0 := hI.kept 0 (by kernel_rfl)
    conv at g0 => rhs; whnf
    have g1 : act.tmps[1]?.getD undef = undef := hI.kept 1 (by kernel_rfl)
    have g2 := hI.kept 2 (by kernel_rfl)
    conv at g2 => rhs; whnf
    have g3 := hI.kept 3 (by kernel_rfl)
    conv at g3 => rhs; whnf
    have g4 := hI.kept 4 (by kernel_rfl)
    conv at g4 => rhs; whnf
    have g5 := hI.kept 5 (by kernel_rfl)
    conv at g5 => rhs; whnf
    have g6 := hI.kept 6 (by kernel_rfl)
    conv at g6 => rhs; whnf
    have g7 := hI.kept 7 (by kernel_rfl)
    conv at g7 => rhs; whnf
    have g8 := hI.kept 8 (by kernel_rfl)
    conv at g8 => rhs; whnf
    have g9 := hI.kept 9 (by kernel_rfl)
    conv at g9 => rhs; whnf
    have g10 := hI.kept 10 (by kernel_rfl)
    conv at g10 => rhs; whnf
    have g12 : act.tmps[12]?.getD undef = undef := hI.kept 12 (by kernel_rfl)
    have g13 := hI.kept 13 (by kernel_rfl)
    conv at g13 => rhs; whnf
    have g14 := hI.kept 14 (by kernel_rfl)
    conv at g14 => rhs; whnf
    have g15 := hI.kept 15 (by kernel_rfl)
    conv at g15 => rhs; whnf
    have g16 := hI.kept 16 (by kernel_rfl)
    conv at g16 => rhs; whnf
    have g17 := hI.kept 17 (by kernel_rfl)
    conv at g17 => rhs; whnf
    have g18 := hI.kept 18 (by kernel_rfl)
    conv at g18 => rhs; whnf
    have g19 := hI.kept 19 (by kernel_rfl)
    conv at g19 => rhs; whnf
    have g20 := hI.kept 20 (by kernel_rfl)
    conv at g20 => rhs; whnf
    have g21 := hI.kept 21 (by kernel_rfl)
    conv at g21 => rhs; whnf
    have g22 := hI.kept 22 (by kernel_rfl)
    conv at g22 => rhs; whnf
    have g23 := hI.kept 23 (by kernel_rfl)
    conv at g23 => rhs; whnf
    have g24 := hI.kept 24 (by kernel_rfl)
    conv at g24 => rhs; whnf
    have g25 := hI.kept 25 (by kernel_rfl)
    conv at g25 => rhs; whnf
    have g26 := hI.kept 26 (by kernel_rfl)
    conv at g26 => rhs; whnf
    have g27 := hI.kept 27 (by kernel_rfl)
    conv at g27 => rhs; whnf
    have g28 := hI.kept 28 (by kernel_rfl)
    conv at g28 => rhs; whnf
    have g29 := hI.kept 29 (by kernel_rfl)
    conv at g29 => rhs; whnf
    have g30 := hI.kept 30 (by kernel_rfl)
    conv at g30 => rhs; whnf
    have g31 := hI.kept 31 (by kernel_rfl)
    conv at g31 => rhs; whnf
    have g32 := hI.kept 32 (by kernel_rfl)
    conv at g32 => rhs; whnf
    have g33 := hI.kept 33 (by kernel_rfl)
    conv at g33 => rhs; whnf
    have g34 := hI.kept 34 (by kernel_rfl)
    conv at g34 => rhs; whnf
    have g35 := hI.kept 35 (by kernel_rfl)
    conv at g35 => rhs; whnf
    have g36 := hI.kept 36 (by kernel_rfl)
    conv at g36 => rhs; whnf
    have g37 := hI.kept 37 (by kernel_rfl)
    conv at g37 => rhs; whnf
    have g38 := hI.kept 38 (by kernel_rfl)
    conv at g38 => rhs; whnf
    have g39 := hI.kept 39 (by kernel_rfl)
    conv at g39 => rhs; whnf
    have g40 := hI.kept 40 (by kernel_rfl)
    conv at g40 => rhs; whnf
    have g41 := hI.kept 41 (by kernel_rfl)
    conv at g41 => rhs; whnf
    have g42 := hI.kept 42 (by kernel_rfl)
    conv at g42 => rhs; whnf
    have g43 := hI.kept 43 (by kernel_rfl)
    conv at g43 => rhs; whnf
    have g44 := hI.kept 44 (by kernel_rfl)
    conv at g44 => rhs; whnf
    have g45 := hI.kept 45 (by kernel_rfl)
    conv at g45 => rhs; whnf
    have g46 := hI.kept 46 (by kernel_rfl)
    conv at g46 => rhs; whnf
    have g47 := hI.kept 47 (by kernel_rfl)
    conv at g47 => rhs; whnf
    have g48 := hI.kept 48 (by kernel_rfl)
    conv at g48 => rhs; whnf
    have g49 := hI.kept 49 (by kernel_rfl)
    conv at g49 => rhs; whnf
    have g50 := hI.kept 50 (by kernel_rfl)
    conv at g50 => rhs; whnf
    have g51 := hI.kept 51 (by kernel_rfl)
    conv at g51 => rhs; whnf
    have g52 := hI.kept 52 (by kernel_rfl)
    conv at g52 => rhs; whnf
    have g53 := hI.kept 53 (by kernel_rfl)
    conv at g53 => rhs; whnf
    have g54 := hI.kept 54 (by kernel_rfl)
    conv at g54 => rhs; whnf
    have g55 := hI.kept 55 (by kernel_rfl)
    conv at g55 => rhs; whnf
    have g56 := hI.kept 56 (by kernel_rfl)
    conv at g56 => rhs; whnf
    have g57 := hI.kept 57 (by kernel_rfl)
    conv at g57 => rhs; whnf
    have g58 := hI.kept 58 (by kernel_rfl)
    conv at g58 => rhs; whnf
    have g59 := hI.kept 59 (by kernel_rfl)
    conv at g59 => rhs; whnf
    have g60 := hI.kept 60 (by kernel_rfl)
    conv at g60 => rhs; whnf
    have g86 : act.tmps[86]?.getD undef = undef := hI.kept 86 (by kernel_rfl)
    have g87 : act.tmps[87]?.getD undef = undef := hI.kept 87 (by kernel_rfl)
    have g88 : act.tmps[88]?.getD undef = undef := hI.kept 88 (by kernel_rfl)
    have g89 : act.tmps[89]?.getD undef = undef := hI.kept 89 (by kernel_rfl)
    have g90 : act.tmps[90]?.getD undef = undef := hI.kept 90 (by kernel_rfl)
    have g91 : act.tmps[91]?.getD undef = undef := hI.kept 91 (by kernel_rfl)
    have g92 : act.tmps[92]?.getD undef = undef := hI.kept 92 (by kernel_rfl)
    have g93 : act.tmps[93]?.getD undef = undef := hI.kept 93 (by kernel_rfl)
    have g94 : act.tmps[94]?.getD undef = undef := hI.kept 94 (by kernel_rfl)
    have g95 : act.tmps[95]?.getD undef = undef := hI.kept 95 (by kernel_rfl)
    have g96 : act.tmps[96]?.getD undef = undef := hI.kept 96 (by kernel_rfl)
    have g97 : act.tmps[97]?.getD undef = undef := hI.kept 97 (by kernel_rfl)
    have g98 : act.tmps[98]?.getD undef = undef := hI.kept 98 (by kernel_rfl)
    have g99 : act.tmps[99]?.getD undef = undef := hI.kept 99 (by kernel_rfl)
    have g100 : act.tmps[100]?.getD undef = undef := hI.kept 100 (by kernel_rfl)
    have g101 : act.tmps[101]?.getD undef = undef := hI.kept 101 (by kernel_rfl)
    have hsz : act.tmps.size = 102 := hI.size.trans (by kernel_rfl)
    have hd := hI.defers
    clear hI hall hC
    obtain ⟨tt, dd⟩ := act
    simp only at g0 g1 g2 g3 g4 g5 g6 g7 g8 g9 g10 g11 g12 g13 g14 g15 g16 g17 g18 g19 g20 g21 g22 g23 g24 g25 g26 g27 g28 g29 g30 g31 g32 g33 g34 g35 g36 g37 g38 g39 g40 g41 g42 g43 g44 g45 g46 g47 g48 g49 g50 g51 g52 g53 g54 g55 g56 g57 g58 g59 g60 g86 g87 g88 g89 g90 g91 g92 g93 g94 g95 g96 g97 g98 g99 g100 g101 hsz hd
    subst hd
    have hl : tt = #[tt[0]?.getD undef, tt[1]?.getD undef, tt[2]?.getD undef, tt[3]?.getD undef, tt[4]?.getD undef, tt[5]?.getD undef, tt[6]?.getD undef, tt[7]?.getD undef, tt[8]?.getD undef, tt[9]?.getD undef, tt[10]?.getD undef, tt[11]?.getD undef, tt[12]?.getD undef, tt[13]?.getD undef, tt[14]?.getD undef, tt[15]?.getD undef, tt[16]?.getD undef, tt[17]?.getD undef, tt[18]?.getD undef, tt[19]?.getD undef, tt[20]?.getD undef, tt[21]?.getD undef, tt[22]?.getD undef, tt[23]?.getD undef, tt[24]?.getD undef, tt[25]?.getD undef, tt[26]?.getD undef, tt[27]?.getD undef, tt[28]?.getD undef, tt[29]?.getD undef, tt[30]?.getD undef, tt[31]?.getD undef, tt[32]?.getD undef, tt[33]?.getD undef, tt[34]?.getD undef, tt[35]?.getD undef, tt[36]?.getD undef, tt[37]?.getD undef, tt[38]?.getD undef, tt[39]?.getD undef, tt[40]?.getD undef, tt[41]?.getD undef, tt[42]?.getD undef, tt[43]?.getD undef, tt[44]?.getD undef, tt[45]?.getD undef, tt[46]?.getD undef, tt[47]?.getD undef, tt[48]?.getD undef, tt[49]?.getD undef, tt[50]?.getD undef, tt[51]?.getD undef, tt[52]?.getD undef, tt[53]?.getD undef, tt[54]?.getD undef, tt[55]?.getD undef, tt[56]?.getD undef, tt[57]?.getD undef, tt[58]?.getD undef, tt[59]?.getD undef, tt[60]?.getD undef, tt[61]?.getD undef, tt[62]?.getD undef, tt[63]?.getD undef, tt[64]?.getD undef, tt[65]?.getD undef, tt[66]?.getD undef, tt[67]?.getD undef, tt[68]?.getD undef, tt[69]?.getD undef, tt[70]?.getD undef, tt[71]?.getD undef, tt[72]?.getD undef, tt[73]?.getD undef, tt[74]?.getD undef, tt[75]?.getD undef, tt[76]?.getD undef, tt[77]?.getD undef, tt[78]?.getD undef, tt[79]?.getD undef, tt[80]?.getD undef, tt[81]?.getD undef, tt[82]?.getD undef, tt[83]?.getD undef, tt[84]?.getD undef, tt[85]?.getD undef, tt[86]?.getD undef, tt[87]?.getD undef, tt[88]?.getD undef, tt[89]?.getD undef, tt[90]?.getD undef, tt[91]?.getD undef, tt[92]?.getD undef, tt[93]?.getD undef, tt[94]?.getD undef, tt[95]?.getD undef, tt[96]?.getD undef, tt[97]?.getD undef, tt[98]?.getD undef, tt[99]?.getD undef, tt[100]?.getD undef, tt[101]?.getD undef] := (arr_lit hsz).trans rfl
    rw [g0, g1, g2, g3, g4, g5, g6, g7, g8, g9, g10, g11, g12, g13, g14, g15, g16, g17, g18, g19, g20, g21, g22, g23, g24, g25, g26, g27, g28, g29, g30, g31, g32, g33, g34, g35, g36, g37, g38, g39, g40, g41, g42, g43, g44, g45, g46, g47, g48, g49, g50, g51, g52, g53, g54, g55, g56, g57, g58, g59, g60, g86, g87, g88, g89, g90, g91, g92, g93, g94, g95, g96, g97, g98, g99, g100, g101] at hl
    clear g0 g1 g2 g3 g4 g5 g6 g7 g8 g9 g10 g11 g12 g13 g14 g15 g16 g17 g18 g19 g20 g21 g22 g23 g24 g25 g26 g27 g28 g29 g30 g31 g32 g33 g34 g35 g36 g37 g38 g39 g40 g41 g42 g43 g44 g45 g46 g47 g48 g49 g50 g51 g52 g53 g54 g55 g56 g57 g58 g59 g60 g86 g87 g88 g89 g90 g91 g92 g93 g94 g95 g96 g97 g98 g99 g100 g101 hsz
    generalize tt[61]?.getD undef = y9_61 at hl
    generalize tt[62]?.getD undef = y9_62 at hl
    generalize tt[63]?.getD undef = y9_63 at hl
    generalize tt[64]?.getD undef = y9_64 at hl
    generalize tt[65]?.getD undef = y9_65 at hl
    generalize tt[66]?.getD undef = y9_66 at hl
    generalize tt[67]?.getD undef = y9_67 at hl
    generalize tt[68]?.getD undef = y9_68 at hl
    generalize tt[69]?.getD undef = y9_69 at hl
    generalize tt[70]?.getD undef = y9_70 at hl
    generalize tt[71]?.getD undef = y9_71 at hl
    generalize tt[72]?.getD undef = y9_72 at hl
    generalize tt[73]?.getD undef = y9_73 at hl
    generalize tt[74]?.getD undef = y9_74 at hl
    generalize tt[75]?.getD undef = y9_75 at hl
    generalize tt[76]?.getD undef = y9_76 at hl
    generalize tt[77]?.getD undef = y9_77 at hl
    generalize tt[78]?.getD undef = y9_78 at hl
    generalize tt[79]?.getD undef = y9_79 at hl
    generalize tt[80]?.getD undef = y9_80 at hl
    generalize tt[81]?.getD undef = y9_81 at hl
    generalize tt[82]?.getD undef = y9_82 at hl
    generalize tt[83]?.getD undef = y9_83 at hl
    generalize tt[84]?.getD undef = y9_84 at hl
    generalize tt[85]?.getD undef = y9_85 at hl
    subst hl
    have X1 := Lib.hid hkF
    have K5 := Lib.hid (K4.out.below hbF)
    have BD := Lib.hid (below_of BC.out BC.out.size hbF)
    have HNB : Hid (∀ W, Below w3.heap.size w3 W → W.cell? ⟨gB, 0, none⟩ = some (.float .f32 y0) ∧ W.cell? ⟨gB, 1, none⟩ = some (.float .f32 y1) ∧ W.cell? ⟨gB, 2, none⟩ = some (.float .f32 y2)) := Lib.hid (fun W hb => HNB.out W (below_of hbF hbF.size hb))
    clear hkF hbF K4 BC HNA
    generalize w3 = w5 at *
    go_wp2_with fail
    
    refine wp_region_inv4 (fun iq wv v => match iq with
      | 0 => v = .agg #[.float .f32 x0, .float .f32 x1, .float .f32 x2, .float .f32 x3, .float .f32 x4, .float .f32 x5, .float .f32 x6, .float .f32 x7]
      | 1 => v = .int .i64 z
      | 2 => v = .slice (some ⟨gB, 0, none⟩) 3 cB
      | 3 => v = .pointer (some ⟨gB, 0, none⟩)
      | 4 => v = .float .f32 y0
      | 5 => v = .slice (some ⟨gB, 0, none⟩) 3 cB
      | 6 => v = .pointer (some ⟨gB, 1, none⟩)
      | 7 => v = .float .f32 y1
      | 8 => v = .slice (some ⟨gB, 0, none⟩) 3 cB
      | 9 => v = .pointer (some ⟨gB, 2, none⟩)
      | 10 => v = .float .f32 y2
      | 11 => v = .agg #[.float .f32 x0, .float .f32 x1, .float .f32 x2, .float .f32 x3, .float .f32 x4, .float .f32 x5, .float .f32 x6, .float .f32 x7, .int .i64 z, .float .f32 y0, .float .f32 y1, .float .f32 y2]
      | 12 => v = .pointer (some ⟨w5.heap.size, 0, none⟩)
      | 13 => True
      | _ => False) (W3 w5.drew (w5.drew.alloc (.cells #[.float .f32 0, .float .f32 0, .float .f32 0, .float .f32 0, .float .f32 0, .float .f32 0, .float .f32 0, .float .f32 0, .int .i64 0, .float .f32 0, .float .f32 0, .float .f32 0] 26)) (fun x => Below w5.heap.size w5 x ∧ BlkL x w5.heap.size [.float .f32 x0, .float .f32 x1, .float .f32 x2, .float .f32 x3, .float .f32 x4, .float .f32 x5, .float .f32 x6, .float .f32 x7, .int .i64 z, .float .f32 y0, .float .f32 y1, .float .f32 y2]) 12 13) (fun _ _ => True) ?hmono (by kernel_rfl) (by kernel_rfl) W3.start ?hop ?hend
    case hmono =>
      intro i wa wb v hR hV
      rcases i with _ | _ | _ | _ | _ | _ | _ | _ | _ | _ | _ | _ | _ | _ | i
      · exact hV
      · exact hV
      · exact hV
      · exact hV
      · exact hV
      · exact hV
      · exact hV
      · exact hV
      · exact hV
      · exact hV
      · exact hV
      · exact hV
      · exact hV
      · exact hV
      · exact hV
    case hop =>
      intro q o hq listed act w3 hI hnot hcl hall
      have hC := hI.cls
      have hlen : listed.size = 14 := hI.len
      have hbel := hC.below (w := w5) ((Below.refl _ _).drew) (((Below.refl _ _).drew).alloc (Nat.le_refl _) _) (fun x h => h.1)
      obtain ⟨n0, n1, n2⟩ := HNB.out _ hbel
      obtain ⟨q0, q1, q2, q3, q4, q5, q6, q7⟩ := eight (X1.out.below hbel)
      rcases q with _ | _ | _ | _ | _ | _ | _ | _ | _ | _ | _ | _ | _ | _ | q
      · simp at hq; subst hq
        have g11 : act.tmps[11]?.getD undef = .pointer (some ⟨w4.heap.size, 0, none⟩) := hI.kept 11 (by kernel_rfl)
        clear hI hall hnot hcl
        refine .inl ⟨wanted_none rfl, ?_⟩
        unfold Oper.wp
        go_simp
        all_goals exact ⟨_, rfl, rfl, hC.keep (k := 0) (by decide) (by decide) (by rw [hlen]; decide)⟩
      · simp at hq; subst hq
        have g7 : act.tmps[7]?.getD undef = .int .i64 z := hI.kept 7 (by kernel_rfl)
        clear hI hall hnot hcl
        refine .inl ⟨wanted_none rfl, ?_⟩
        unfold Oper.wp
        go_simp
        all_goals exact ⟨_, rfl, rfl, hC.keep (k := 1) (by decide) (by decide) (by rw [hlen]; decide)⟩
      · simp at hq; subst hq
        have g9 : act.tmps[9]?.getD undef = .slice (some ⟨gB, 0, none⟩) 3 cB := hI.kept 9 (by kernel_rfl)
        clear hI hall hnot hcl
        refine .inl ⟨wanted_none rfl, ?_⟩
        unfold Oper.wp
        go_simp
        all_goals exact ⟨_, rfl, rfl, hC.keep (k := 2) (by decide) (by decide) (by rw [hlen]; decide)⟩
      · simp at hq; subst hq
        have g88 : act.tmps[88]?.getD undef = .slice (some ⟨gB, 0, none⟩) 3 cB := hI.has 2 88 rfl (hall ⟨2, .data⟩ (by simp) rfl)
        clear hI hall hnot hcl
        refine .inl ⟨wanted_none rfl, ?_⟩
        unfold Oper.wp
        go_simp
        all_goals exact ⟨_, rfl, rfl, hC.keep (k := 3) (by decide) (by decide) (by rw [hlen]; decide)⟩
      · simp at hq; subst hq
        have g89 : act.tmps[89]?.getD undef = .pointer (some ⟨gB, 0, none⟩) := hI.has 3 89 rfl (hall ⟨3, .data⟩ (by simp) rfl)
        clear hI hall hnot hcl
        refine .inl ⟨wanted_none rfl, ?_⟩
        unfold Oper.wp
        go_simp
        all_goals exact ⟨_, rfl, rfl, hC.keep (k := 4) (by decide) (by decide) (by rw [hlen]; decide)⟩
      · simp at hq; subst hq
        have g9 : act.tmps[9]?.getD undef = .slice (some ⟨gB, 0, none⟩) 3 cB := hI.kept 9 (by kernel_rfl)
        clear hI hall hnot hcl
        refine .inl ⟨wanted_none rfl, ?_⟩
        unfold Oper.wp
        go_simp
        all_goals exact ⟨_, rfl, rfl, hC.keep (k := 5) (by decide) (by decide) (by rw [hlen]; decide)⟩
      · simp at hq; subst hq
        have g91 : act.tmps[91]?.getD undef = .slice (some ⟨gB, 0, none⟩) 3 cB := hI.has 5 91 rfl (hall ⟨5, .data⟩ (by simp) rfl)
        clear hI hall hnot hcl
        refine .inl ⟨wanted_none rfl, ?_⟩
        unfold Oper.wp
        go_simp
        all_goals exact ⟨_, rfl, rfl, hC.keep (k := 6) (by decide) (by decide) (by rw [hlen]; decide)⟩
      · simp at hq; subst hq
        have g92 : act.tmps[92]?.getD undef = .pointer (some ⟨gB, 1, none⟩) := hI.has 6 92 rfl (hall ⟨6, .data⟩ (by simp) rfl)
        clear hI hall hnot hcl
        refine .inl ⟨wanted_none rfl, ?_⟩
        unfold Oper.wp
        go_simp
        all_goals exact ⟨_, rfl, rfl, hC.keep (k := 7) (by decide) (by decide) (by rw [hlen]; decide)⟩
      · simp at hq; subst hq
        have g9 : act.tmps[9]?.getD undef = .slice (some ⟨gB, 0, none⟩) 3 cB := hI.kept 9 (by kernel_rfl)
        clear hI hall hnot hcl
        refine .inl ⟨wanted_none rfl, ?_⟩
        unfold Oper.wp
        go_simp
        all_goals exact ⟨_, rfl, rfl, hC.keep (k := 8) (by decide) (by decide) (by rw [hlen]; decide)⟩
      · simp at hq; subst hq
        have g94 : act.tmps[94]?.getD undef = .slice (some ⟨gB, 0, none⟩) 3 cB := hI.has 8 94 rfl (hall ⟨8, .data⟩ (by simp) rfl)
        clear hI hall hnot hcl
        refine .inl ⟨wanted_none rfl, ?_⟩
        unfold Oper.wp
        go_simp
        all_goals exact ⟨_, rfl, rfl, hC.keep (k := 9) (by decide) (by decide) (by rw [hlen]; decide)⟩
      · simp at hq; subst hq
        have g95 : act.tmps[95]?.getD undef = .pointer (some ⟨gB, 2, none⟩) := hI.has 9 95 rfl (hall ⟨9, .data⟩ (by simp) rfl)
        clear hI hall hnot hcl
        refine .inl ⟨wanted_none rfl, ?_⟩
        unfold Oper.wp
        go_simp
        all_goals exact ⟨_, rfl, rfl, hC.keep (k := 10) (by decide) (by decide) (by rw [hlen]; decide)⟩
      · simp at hq; subst hq
        have g86 : act.tmps[86]?.getD undef = .agg #[.float .f32 x0, .float .f32 x1, .float .f32 x2, .float .f32 x3, .float .f32 x4, .float .f32 x5, .float .f32 x6, .float .f32 x7] := hI.has 0 86 rfl (hall ⟨0, .data⟩ (by simp) rfl)
        have g87 : act.tmps[87]?.getD undef = .int .i64 z := hI.has 1 87 rfl (hall ⟨1, .data⟩ (by simp) rfl)
        have g90 : act.tmps[90]?.getD undef = .float .f32 y0 := hI.has 4 90 rfl (hall ⟨4, .data⟩ (by simp) rfl)
        have g93 : act.tmps[93]?.getD undef = .float .f32 y1 := hI.has 7 93 rfl (hall ⟨7, .data⟩ (by simp) rfl)
        have g96 : act.tmps[96]?.getD undef = .float .f32 y2 := hI.has 10 96 rfl (hall ⟨10, .data⟩ (by simp) rfl)
        clear hI hall hnot hcl
        refine .inl ⟨wanted_none rfl, ?_⟩
        unfold Oper.wp
        go_simp
        all_goals exact ⟨_, rfl, rfl, hC.keep (k := 11) (by decide) (by decide) (by rw [hlen]; decide)⟩
      · simp at hq; subst hq
        have hns := hcl.not (j := 13) (i := 12) (e := ⟨12, .data⟩) rfl (by simp) rfl rfl hnot
        have hD := hC.atD hns hnot
        subst hD
        clear hI hall hnot hcl
        refine .inl ⟨wanted_none rfl, ?_⟩
        unfold Oper.wp
        go_simp
        exact ⟨_, rfl, rfl, W3.made hns (by rw [hlen]; decide) (by decide)⟩
      · simp at hq; subst hq
        have g12 : act.tmps[12]?.getD undef = .pointer (some ⟨w5.heap.size, 0, none⟩) := hI.has 12 12 rfl (hall ⟨12, .data⟩ (by simp) rfl)
        have g97 : act.tmps[97]?.getD undef = .agg #[.float .f32 x0, .float .f32 x1, .float .f32 x2, .float .f32 x3, .float .f32 x4, .float .f32 x5, .float .f32 x6, .float .f32 x7, .int .i64 z, .float .f32 y0, .float .f32 y1, .float .f32 y2] := hI.has 11 97 rfl (hall ⟨11, .data⟩ (by simp) rfl)
        have hA := hC.atA hnot (hall ⟨12, .data⟩ (by simp) rfl)
        have hvs : BlkL w3 w5.heap.size [.float .f32 0, .float .f32 0, .float .f32 0, .float .f32 0, .float .f32 0, .float .f32 0, .float .f32 0, .float .f32 0, .int .i64 0, .float .f32 0, .float .f32 0, .float .f32 0] := by rw [hA]; exact blkL_at w5.drew #[.float .f32 0, .float .f32 0, .float .f32 0, .float .f32 0, .float .f32 0, .float .f32 0, .float .f32 0, .float .f32 0, .int .i64 0, .float .f32 0, .float .f32 0, .float .f32 0] 26 rfl
        clear hA hC
        clear hI hall hnot hcl
        refine .inl ⟨wanted_none rfl, ?_⟩
        unfold Oper.wp
        go_simp
        have p0 := (hvs.2 0 _ rfl).1
        have f0 := (hvs.2 0 _ rfl).2
        have p1 := (hvs.2 1 _ rfl).1
        have f1 := (hvs.2 1 _ rfl).2
        have p2 := (hvs.2 2 _ rfl).1
        have f2 := (hvs.2 2 _ rfl).2
        have p3 := (hvs.2 3 _ rfl).1
        have f3 := (hvs.2 3 _ rfl).2
        have p4 := (hvs.2 4 _ rfl).1
        have f4 := (hvs.2 4 _ rfl).2
        have p5 := (hvs.2 5 _ rfl).1
        have f5 := (hvs.2 5 _ rfl).2
        have p6 := (hvs.2 6 _ rfl).1
        have f6 := (hvs.2 6 _ rfl).2
        have p7 := (hvs.2 7 _ rfl).1
        have f7 := (hvs.2 7 _ rfl).2
        have p8 := (hvs.2 8 _ rfl).1
        have f8 := (hvs.2 8 _ rfl).2
        have p9 := (hvs.2 9 _ rfl).1
        have f9 := (hvs.2 9 _ rfl).2
        have p10 := (hvs.2 10 _ rfl).1
        have f10 := (hvs.2 10 _ rfl).2
        have p11 := (hvs.2 11 _ rfl).1
        have f11 := (hvs.2 11 _ rfl).2
        go_simp
        first | exact ⟨trivial, trivial, W3.stored ⟨((((((((((((hbel.setCell (p := ⟨w5.heap.size, 0, none⟩) (Nat.le_refl _) (.float .f32 x0)).setCell (p := ⟨w5.heap.size, 1, none⟩) (Nat.le_refl _) (.float .f32 x1)).setCell (p := ⟨w5.heap.size, 2, none⟩) (Nat.le_refl _) (.float .f32 x2)).setCell (p := ⟨w5.heap.size, 3, none⟩) (Nat.le_refl _) (.float .f32 x3)).setCell (p := ⟨w5.heap.size, 4, none⟩) (Nat.le_refl _) (.float .f32 x4)).setCell (p := ⟨w5.heap.size, 5, none⟩) (Nat.le_refl _) (.float .f32 x5)).setCell (p := ⟨w5.heap.size, 6, none⟩) (Nat.le_refl _) (.float .f32 x6)).setCell (p := ⟨w5.heap.size, 7, none⟩) (Nat.le_refl _) (.float .f32 x7)).setCell (p := ⟨w5.heap.size, 8, none⟩) (Nat.le_refl _) (.int .i64 z)).setCell (p := ⟨w5.heap.size, 9, none⟩) (Nat.le_refl _) (.float .f32 y0)).setCell (p := ⟨w5.heap.size, 10, none⟩) (Nat.le_refl _) (.float .f32 y1)).setCell (p := ⟨w5.heap.size, 11, none⟩) (Nat.le_refl _) (.float .f32 y2)), ((((((((((((hvs.set (i := 0) (by simp) (.float .f32 x0)).set (i := 1) (by simp) (.float .f32 x1)).set (i := 2) (by simp) (.float .f32 x2)).set (i := 3) (by simp) (.float .f32 x3)).set (i := 4) (by simp) (.float .f32 x4)).set (i := 5) (by simp) (.float .f32 x5)).set (i := 6) (by simp) (.float .f32 x6)).set (i := 7) (by simp) (.float .f32 x7)).set (i := 8) (by simp) (.int .i64 z)).set (i := 9) (by simp) (.float .f32 y0)).set (i := 10) (by simp) (.float .f32 y1)).set (i := 11) (by simp) (.float .f32 y2))⟩ (by rw [hlen]; decide)⟩ | exact W3.stored ⟨((((((((((((hbel.setCell (p := ⟨w5.heap.size, 0, none⟩) (Nat.le_refl _) (.float .f32 x0)).setCell (p := ⟨w5.heap.size, 1, none⟩) (Nat.le_refl _) (.float .f32 x1)).setCell (p := ⟨w5.heap.size, 2, none⟩) (Nat.le_refl _) (.float .f32 x2)).setCell (p := ⟨w5.heap.size, 3, none⟩) (Nat.le_refl _) (.float .f32 x3)).setCell (p := ⟨w5.heap.size, 4, none⟩) (Nat.le_refl _) (.float .f32 x4)).setCell (p := ⟨w5.heap.size, 5, none⟩) (Nat.le_refl _) (.float .f32 x5)).setCell (p := ⟨w5.heap.size, 6, none⟩) (Nat.le_refl _) (.float .f32 x6)).setCell (p := ⟨w5.heap.size, 7, none⟩) (Nat.le_refl _) (.float .f32 x7)).setCell (p := ⟨w5.heap.size, 8, none⟩) (Nat.le_refl _) (.int .i64 z)).setCell (p := ⟨w5.heap.size, 9, none⟩) (Nat.le_refl _) (.float .f32 y0)).setCell (p := ⟨w5.heap.size, 10, none⟩) (Nat.le_refl _) (.float .f32 y1)).setCell (p := ⟨w5.heap.size, 11, none⟩) (Nat.le_refl _) (.float .f32 y2)), ((((((((((((hvs.set (i := 0) (by simp) (.float .f32 x0)).set (i := 1) (by simp) (.float .f32 x1)).set (i := 2) (by simp) (.float .f32 x2)).set (i := 3) (by simp) (.float .f32 x3)).set (i := 4) (by simp) (.float .f32 x4)).set (i := 5) (by simp) (.float .f32 x5)).set (i := 6) (by simp) (.float .f32 x6)).set (i := 7) (by simp) (.float .f32 x7)).set (i := 8) (by simp) (.int .i64 z)).set (i := 9) (by simp) (.float .f32 y0)).set (i := 10) (by simp) (.float .f32 y1)).set (i := 11) (by simp) (.float .f32 y2))⟩ (by rw [hlen]; decide)
      · simp at hq
    case hend =>
      intro listed act w3 hI hall
      have hC := hI.cls
      have hlen : listed.size = 14 := hI.len
      have hbel := hC.below (w := w5) ((Below.refl _ _).drew) (((Below.refl _ _).drew).alloc (Nat.le_refl _) _) (fun x h => h.1)
      obtain ⟨n0, n1, n2⟩ := HNB.out _ hbel
      obtain ⟨q0, q1, q2, q3, q4, q5, q6, q7⟩ := eight (X1.out.below hbel)
      obtain ⟨hbF, hkF⟩ := hC.fin (hall 13 (by decide))
      have g12 : act.tmps[12]?.getD undef = .pointer (some ⟨w5.heap.size, 0, none⟩) := hI.has 12 12 rfl (hall 12 (by decide))
      have g0 := hI.kept 0 (by kernel_rfl)
      conv at g0 => rhs; whnf
      have g1 : act.tmps[1]?.getD undef = undef := hI.kept 1 (by kernel_rfl)
      have g2 := hI.kept 2 (by kernel_rfl)
      conv at g2 => rhs; whnf
      have g3 := hI.kept 3 (by kernel_rfl)
      conv at g3 => rhs; whnf
      have g4 := hI.kept 4 (by kernel_rfl)
      conv at g4 => rhs; whnf
      have g5 := hI.kept 5 (by kernel_rfl)
      conv at g5 => rhs; whnf
      have g6 := hI.kept 6 (by kernel_rfl)
      conv at g6 => rhs; whnf
      have g7 := hI.kept 7 (by kernel_rfl)
      conv at g7 => rhs; whnf
      have g8 := hI.kept 8 (by kernel_rfl)
      conv at g8 => rhs; whnf
      have g9 := hI.kept 9 (by kernel_rfl)
      conv at g9 => rhs; whnf
      have g10 := hI.kept 10 (by kernel_rfl)
      conv at g10 => rhs; whnf
      have g11 := hI.kept 11 (by kernel_rfl)
      conv at g11 => rhs; whnf
      have g13 := hI.kept 13 (by kernel_rfl)
      conv at g13 => rhs; whnf
      have g14 := hI.kept 14 (by kernel_rfl)
      conv at g14 => rhs; whnf
      have g15 := hI.kept 15 (by kernel_rfl)
      conv at g15 => rhs; whnf
      have g16 := hI.kept 16 (by kernel_rfl)
      conv at g16 => rhs; whnf
      have g17 := hI.kept 17 (by kernel_rfl)
      conv at g17 => rhs; whnf
      have g18 := hI.kept 18 (by kernel_rfl)
      conv at g18 => rhs; whnf
      have g19 := hI.kept 19 (by kernel_rfl)
      conv at g19 => rhs; whnf
      have g20 := hI.kept 20 (by kernel_rfl)
      conv at g20 => rhs; whnf
      have g21 := hI.kept 21 (by kernel_rfl)
      conv at g21 => rhs; whnf
      have g22 := hI.kept 22 (by kernel_rfl)
      conv at g22 => rhs; whnf
      have g23 := hI.kept 23 (by kernel_rfl)
      conv at g23 => rhs; whnf
      have g24 := hI.kept 24 (by kernel_rfl)
      conv at g24 => rhs; whnf
      have g25 := hI.kept 25 (by kernel_rfl)
      conv at g25 => rhs; whnf
      have g26 := hI.kept 26 (by kernel_rfl)
      conv at g26 => rhs; whnf
      have g27 := hI.kept 27 (by kernel_rfl)
      conv at g27 => rhs; whnf
      have g28 := hI.kept 28 (by kernel_rfl)
      conv at g28 => rhs; whnf
      have g29 := hI.kept 29 (by kernel_rfl)
      conv at g29 => rhs; whnf
      have g30 := hI.kept 30 (by kernel_rfl)
      conv at g30 => rhs; whnf
      have g31 := hI.kept 31 (by kernel_rfl)
      conv at g31 => rhs; whnf
      have g32 := hI.kept 32 (by kernel_rfl)
      conv at g32 => rhs; whnf
      have g33 := hI.kept 33 (by kernel_rfl)
      conv at g33 => rhs; whnf
      have g34 := hI.kept 34 (by kernel_rfl)
      conv at g34 => rhs; whnf
      have g35 := hI.kept 35 (by kernel_rfl)
      conv at g35 => rhs; whnf
      have g36 := hI.kept 36 (by kernel_rfl)
      conv at g36 => rhs; whnf
      have g37 := hI.kept 37 (by kernel_rfl)
      conv at g37 => rhs; whnf
      have g38 := hI.kept 38 (by kernel_rfl)
      conv at g38 => rhs; whnf
      have g39 := hI.kept 39 (by kernel_rfl)
      conv at g39 => rhs; whnf
      have g40 := hI.kept 40 (by kernel_rfl)
      conv at g40 => rhs; whnf
      have g41 := hI.kept 41 (by kernel_rfl)
      conv at g41 => rhs; whnf
      have g42 := hI.kept 42 (by kernel_rfl)
      conv at g42 => rhs; whnf
      have g43 := hI.kept 43 (by kernel_rfl)
      conv at g43 => rhs; whnf
      have g44 := hI.kept 44 (by kernel_rfl)
      conv at g44 => rhs; whnf
      have g45 := hI.kept 45 (by kernel_rfl)
      conv at g45 => rhs; whnf
      have g46 := hI.kept 46 (by kernel_rfl)
      conv at g46 => rhs; whnf
      have g47 := hI.kept 47 (by kernel_rfl)
      conv at g47 => rhs; whnf
      have g48 := hI.kept 48 (by kernel_rfl)
      conv at g48 => rhs; whnf
      have g49 := hI.kept 49 (by kernel_rfl)
      conv at g49 => rhs; whnf
      have g50 := hI.kept 50 (by kernel_rfl)
      conv at g50 => rhs; whnf
      have g51 := hI.kept 51 (by kernel_rfl)
      conv at g51 => rhs; whnf
      have g52 := hI.kept 52 (by kernel_rfl)
      conv at g52 => rhs; whnf
      have g53 := hI.kept 53 (by kernel_rfl)
      conv at g53 => rhs; whnf
      have g54 := hI.kept 54 (by kernel_rfl)
      conv at g54 => rhs; whnf
      have g55 := hI.kept 55 (by kernel_rfl)
      conv at g55 => rhs; whnf
      have g56 := hI.kept 56 (by kernel_rfl)
      conv at g56 => rhs; whnf
      have g57 := hI.kept 57 (by kernel_rfl)
      conv at g57 => rhs; whnf
      have g58 := hI.kept 58 (by kernel_rfl)
      conv at g58 => rhs; whnf
      have g59 := hI.kept 59 (by kernel_rfl)
      conv at g59 => rhs; whnf
      have g60 := hI.kept 60 (by kernel_rfl)
      conv at g60 => rhs; whnf
      have g61 := hI.kept 61 (by kernel_rfl)
      conv at g61 => rhs; whnf
      have g62 := hI.kept 62 (by kernel_rfl)
      conv at g62 => rhs; whnf
      have g63 := hI.kept 63 (by kernel_rfl)
      conv at g63 => rhs; whnf
      have g64 := hI.kept 64 (by kernel_rfl)
      conv at g64 => rhs; whnf
      have g65 := hI.kept 65 (by kernel_rfl)
      conv at g65 => rhs; whnf
      have g66 := hI.kept 66 (by kernel_rfl)
      conv at g66 => rhs; whnf
      have g67 := hI.kept 67 (by kernel_rfl)
      conv at g67 => rhs; whnf
      have g68 := hI.kept 68 (by kernel_rfl)
      conv at g68 => rhs; whnf
      have g69 := hI.kept 69 (by kernel_rfl)
      conv at g69 => rhs; whnf
      have g70 := hI.kept 70 (by kernel_rfl)
      conv at g70 => rhs; whnf
      have g71 := hI.kept 71 (by kernel_rfl)
      conv at g71 => rhs; whnf
      have g72 := hI.kept 72 (by kernel_rfl)
      conv at g72 => rhs; whnf
      have g73 := hI.kept 73 (by kernel_rfl)
      conv at g73 => rhs; whnf
      have g74 := hI.kept 74 (by kernel_rfl)
      conv at g74 => rhs; whnf
      have g75 := hI.kept 75 (by kernel_rfl)
      conv at g75 => rhs; whnf
      have g76 := hI.kept 76 (by kernel_rfl)
      conv at g76 => rhs; whnf
      have g77 := hI.kept 77 (by kernel_rfl)
      conv at g77 => rhs; whnf
      have g78 := hI.kept 78 (by kernel_rfl)
      conv at g78 => rhs; whnf
      have g79 := hI.kept 79 (by kernel_rfl)
      conv at g79 => rhs; whnf
      have g80 := hI.kept 80 (by kernel_rfl)
      conv at g80 => rhs; whnf
      have g81 := hI.kept 81 (by kernel_rfl)
      conv at g81 => rhs; whnf
      have g82 := hI.kept 82 (by kernel_rfl)
      conv at g82 => rhs; whnf
      have g83 := hI.kept 83 (by kernel_rfl)
      conv at g83 => rhs; whnf
      have g84 := hI.kept 84 (by kernel_rfl)
      conv at g84 => rhs; whnf
      have g85 := hI.kept 85 (by kernel_rfl)
      conv at g85 => rhs; whnf
      have g98 : act.tmps[98]?.getD undef = undef := hI.kept 98 (by kernel_rfl)
      have g99 : act.tmps[99]?.getD undef = undef := hI.kept 99 (by kernel_rfl)
      have g100 : act.tmps[100]?.getD undef = undef := hI.kept 100 (by kernel_rfl)
      have g101 : act.tmps[101]?.getD undef = undef := hI.kept 101 (by kernel_rfl)
      have hsz : act.tmps.size = 102 := hI.size.trans (by kernel_rfl)
      have hd := hI.defers
      clear hI hall hC
      obtain ⟨tt, dd⟩ := act
      simp only at g0 g1 g2 g3 g4 g5 g6 g7 g8 g9 g10 g11 g12 g13 g14 g15 g16 g17 g18 g19 g20 g21 g22 g23 g24 g25 g26 g27 g28 g29 g30 g31 g32 g33 g34 g35 g36 g37 g38 g39 g40 g41 g42 g43 g44 g45 g46 g47 g48 g49 g50 g51 g52 g53 g54 g55 g56 g57 g58 g59 g60 g61 g62 g63 g64 g65 g66 g67 g68 g69 g70 g71 g72 g73 g74 g75 g76 g77 g78 g79 g80 g81 g82 g83 g84 g85 g98 g99 g100 g101 hsz hd
      subst hd
      have hl : tt = #[tt[0]?.getD undef, tt[1]?.getD undef, tt[2]?.getD undef, tt[3]?.getD undef, tt[4]?.getD undef, tt[5]?.getD undef, tt[6]?.getD undef, tt[7]?.getD undef, tt[8]?.getD undef, tt[9]?.getD undef, tt[10]?.getD undef, tt[11]?.getD undef, tt[12]?.getD undef, tt[13]?.getD undef, tt[14]?.getD undef, tt[15]?.getD undef, tt[16]?.getD undef, tt[17]?.getD undef, tt[18]?.getD undef, tt[19]?.getD undef, tt[20]?.getD undef, tt[21]?.getD undef, tt[22]?.getD undef, tt[23]?.getD undef, tt[24]?.getD undef, tt[25]?.getD undef, tt[26]?.getD undef, tt[27]?.getD undef, tt[28]?.getD undef, tt[29]?.getD undef, tt[30]?.getD undef, tt[31]?.getD undef, tt[32]?.getD undef, tt[33]?.getD undef, tt[34]?.getD undef, tt[35]?.getD undef, tt[36]?.getD undef, tt[37]?.getD undef, tt[38]?.getD undef, tt[39]?.getD undef, tt[40]?.getD undef, tt[41]?.getD undef, tt[42]?.getD undef, tt[43]?.getD undef, tt[44]?.getD undef, tt[45]?.getD undef, tt[46]?.getD undef, tt[47]?.getD undef, tt[48]?.getD undef, tt[49]?.getD undef, tt[50]?.getD undef, tt[51]?.getD undef, tt[52]?.getD undef, tt[53]?.getD undef, tt[54]?.getD undef, tt[55]?.getD undef, tt[56]?.getD undef, tt[57]?.getD undef, tt[58]?.getD undef, tt[59]?.getD undef, tt[60]?.getD undef, tt[61]?.getD undef, tt[62]?.getD undef, tt[63]?.getD undef, tt[64]?.getD undef, tt[65]?.getD undef, tt[66]?.getD undef, tt[67]?.getD undef, tt[68]?.getD undef, tt[69]?.getD undef, tt[70]?.getD undef, tt[71]?.getD undef, tt[72]?.getD undef, tt[73]?.getD undef, tt[74]?.getD undef, tt[75]?.getD undef, tt[76]?.getD undef, tt[77]?.getD undef, tt[78]?.getD undef, tt[79]?.getD undef, tt[80]?.getD undef, tt[81]?.getD undef, tt[82]?.getD undef, tt[83]?.getD undef, tt[84]?.getD undef, tt[85]?.getD undef, tt[86]?.getD undef, tt[87]?.getD undef, tt[88]?.getD undef, tt[89]?.getD undef, tt[90]?.getD undef, tt[91]?.getD undef, tt[92]?.getD undef, tt[93]?.getD undef, tt[94]?.getD undef, tt[95]?.getD undef, tt[96]?.getD undef, tt[97]?.getD undef, tt[98]?.getD undef, tt[99]?.getD undef, tt[100]?.getD undef, tt[101]?.getD undef] := (arr_lit hsz).trans rfl
      rw [g0, g1, g2, g3, g4, g5, g6, g7, g8, g9, g10, g11, g12, g13, g14, g15, g16, g17, g18, g19, g20, g21, g22, g23, g24, g25, g26, g27, g28, g29, g30, g31, g32, g33, g34, g35, g36, g37, g38, g39, g40, g41, g42, g43, g44, g45, g46, g47, g48, g49, g50, g51, g52, g53, g54, g55, g56, g57, g58, g59, g60, g61, g62, g63, g64, g65, g66, g67, g68, g69, g70, g71, g72, g73, g74, g75, g76, g77, g78, g79, g80, g81, g82, g83, g84, g85, g98, g99, g100, g101] at hl
      clear g0 g1 g2 g3 g4 g5 g6 g7 g8 g9 g10 g11 g12 g13 g14 g15 g16 g17 g18 g19 g20 g21 g22 g23 g24 g25 g26 g27 g28 g29 g30 g31 g32 g33 g34 g35 g36 g37 g38 g39 g40 g41 g42 g43 g44 g45 g46 g47 g48 g49 g50 g51 g52 g53 g54 g55 g56 g57 g58 g59 g60 g61 g62 g63 g64 g65 g66 g67 g68 g69 g70 g71 g72 g73 g74 g75 g76 g77 g78 g79 g80 g81 g82 g83 g84 g85 g98 g99 g100 g101 hsz
      generalize tt[86]?.getD undef = y10_86 at hl
      generalize tt[87]?.getD undef = y10_87 at hl
      generalize tt[88]?.getD undef = y10_88 at hl
      generalize tt[89]?.getD undef = y10_89 at hl
      generalize tt[90]?.getD undef = y10_90 at hl
      generalize tt[91]?.getD undef = y10_91 at hl
      generalize tt[92]?.getD undef = y10_92 at hl
      generalize tt[93]?.getD undef = y10_93 at hl
      generalize tt[94]?.getD undef = y10_94 at hl
      generalize tt[95]?.getD undef = y10_95 at hl
      generalize tt[96]?.getD undef = y10_96 at hl
      generalize tt[97]?.getD undef = y10_97 at hl
      subst hl
      have X2 := Lib.hid hkF
      have K6 := Lib.hid (K5.out.below hbF)
      have BE := Lib.hid (below_of BD.out BD.out.size hbF)
      have HC := Lib.hid (s_l05Is x0 x1 x2 x3 x4 x5 x6 x7 z y0 y1 y2 w5.heap.size _ X2.out.c12)
      rw [HV.out] at HC
      clear hkF hbF K5 BD X1 HNB HV
      generalize w3 = wa at *
      go_wp2_with fail
      refine HC.out.mono ?_
      rintro e w6 ⟨n, rfl, hw⟩
      have un : Below wa.heap.size wa w6 := by rw [hw]; exact below_draws (Below.refl _ _) n
      have X3 := Lib.hid (X2.out.below un)
      have K7 := Lib.hid (K6.out.below un)
      have BF := Lib.hid (below_of BE.out BE.out.size un)
      clear hw un HC X2 K6 BE
      obtain ⟨d0, d1, d2, d3, d4, d5, d6, d7, d8, d9, d10, d11⟩ : _ ∧ _ ∧ _ ∧ _ ∧ _ ∧ _ ∧ _ ∧ _ ∧ _ ∧ _ ∧ _ ∧ _ := ⟨(X3.out.2 0 _ rfl).1, (X3.out.2 1 _ rfl).1, (X3.out.2 2 _ rfl).1, (X3.out.2 3 _ rfl).1, (X3.out.2 4 _ rfl).1, (X3.out.2 5 _ rfl).1, (X3.out.2 6 _ rfl).1, (X3.out.2 7 _ rfl).1, (X3.out.2 8 _ rfl).1, (X3.out.2 9 _ rfl).1, (X3.out.2 10 _ rfl).1, (X3.out.2 11 _ rfl).1⟩
      obtain ⟨⟨f0, g0⟩, ⟨f1, g1⟩, ⟨f2, g2⟩, ⟨f3, g3⟩, ⟨f4, g4⟩, ⟨f5, g5⟩, ⟨f6, g6⟩, ⟨f7, g7⟩, ⟨f8, g8⟩, ⟨f9, g9⟩, ⟨f10, g10⟩, ⟨f11, g11⟩⟩ : (_ ∧ _) ∧ (_ ∧ _) ∧ (_ ∧ _) ∧ (_ ∧ _) ∧ (_ ∧ _) ∧ (_ ∧ _) ∧ (_ ∧ _) ∧ (_ ∧ _) ∧ (_ ∧ _) ∧ (_ ∧ _) ∧ (_ ∧ _) ∧ (_ ∧ _) := ⟨K7.out.2 0 _ rfl, K7.out.2 1 _ rfl, K7.out.2 2 _ rfl, K7.out.2 3 _ rfl, K7.out.2 4 _ rfl, K7.out.2 5 _ rfl, K7.out.2 6 _ rfl, K7.out.2 7 _ rfl, K7.out.2 8 _ rfl, K7.out.2 9 _ rfl, K7.out.2 10 _ rfl, K7.out.2 11 _ rfl⟩
      go_wp2
      have R := Lib.hid (((((((((((((BF.out.setCell (p := ⟨w.heap.size, 0, none⟩) (by simp) (.float .f32 x0)).setCell (p := ⟨w.heap.size, 1, none⟩) (by simp) (.float .f32 x1)).setCell (p := ⟨w.heap.size, 2, none⟩) (by simp) (.float .f32 x2)).setCell (p := ⟨w.heap.size, 3, none⟩) (by simp) (.float .f32 x3)).setCell (p := ⟨w.heap.size, 4, none⟩) (by simp) (.float .f32 x4)).setCell (p := ⟨w.heap.size, 5, none⟩) (by simp) (.float .f32 x5)).setCell (p := ⟨w.heap.size, 6, none⟩) (by simp) (.float .f32 x6)).setCell (p := ⟨w.heap.size, 7, none⟩) (by simp) (.float .f32 x7)).setCell (p := ⟨w.heap.size, 8, none⟩) (by simp) (.int .i64 z)).setCell (p := ⟨w.heap.size, 9, none⟩) (by simp) (.float .f32 y0)).setCell (p := ⟨w.heap.size, 10, none⟩) (by simp) (.float .f32 y1)).setCell (p := ⟨w.heap.size, 11, none⟩) (by simp) (.float .f32 y2)))
      have Q := Lib.hid (((((((((((((K7.out.set (i := 0) (by simp) (.float .f32 x0)).set (i := 1) (by simp) (.float .f32 x1)).set (i := 2) (by simp) (.float .f32 x2)).set (i := 3) (by simp) (.float .f32 x3)).set (i := 4) (by simp) (.float .f32 x4)).set (i := 5) (by simp) (.float .f32 x5)).set (i := 6) (by simp) (.float .f32 x6)).set (i := 7) (by simp) (.float .f32 x7)).set (i := 8) (by simp) (.int .i64 z)).set (i := 9) (by simp) (.float .f32 y0)).set (i := 10) (by simp) (.float .f32 y1)).set (i := 11) (by simp) (.float .f32 y2)))
      obtain ⟨c0, c1, c2, c3, c4, c5, c6, c7, c8, c9, c10, c11⟩ : _ ∧ _ ∧ _ ∧ _ ∧ _ ∧ _ ∧ _ ∧ _ ∧ _ ∧ _ ∧ _ ∧ _ := ⟨(Q.out.2 0 _ rfl).1, (Q.out.2 1 _ rfl).1, (Q.out.2 2 _ rfl).1, (Q.out.2 3 _ rfl).1, (Q.out.2 4 _ rfl).1, (Q.out.2 5 _ rfl).1, (Q.out.2 6 _ rfl).1, (Q.out.2 7 _ rfl).1, (Q.out.2 8 _ rfl).1, (Q.out.2 9 _ rfl).1, (Q.out.2 10 _ rfl).1, (Q.out.2 11 _ rfl).1⟩
      refine bodyPost_ret (v := .tuple #[.agg #[.float .f32 x0, .float .f32 x1, .float .f32 x2, .float .f32 x3, .float .f32 x4, .float .f32 x5, .float .f32 x6, .float .f32 x7, .int .i64 z, .float .f32 y0, .float .f32 y1, .float .f32 y2], .bool true]) ?_ rfl ⟨rfl, R.out⟩
      simp [results, Tryz.results25, go_sem, c0, c1, c2, c3, c4, c5, c6, c7, c8, c9, c10, c11]
      
set_option maxHeartbeats 8000000 in
set_option maxRecDepth 100000 in
theorem s_l08ReadDrive_inv (s : ByteArray) (w : World) (hs : s.size ≤ 1048576) (hl : (cutS 59 s).length = 3) (hoa : nmO (pcs 59 s 0) = true) (hod : vlO (pcs 59 s 1) = true) (hob : nmO (pcs 59 s 2) = true) (hla : (nmL (pcs 59 s 0)).length = 8) (hlb : (nmL (pcs 59 s 2)).length = 3) (hv : driveV (dvP s 0) (dvP s 1) (dvP s 2) (dvP s 3) (dvP s 4) (dvP s 5) (dvP s 6) (dvP s 7) (dvZ s) (dvE s 0) (dvE s 1) (dvE s 2) = false) :
    Calls Tryz.prog 25 #[.string s] w fun e w' => e = .returned (.tuple #[.agg #[.float .f32 0, .float .f32 0, .float .f32 0, .float .f32 0, .float .f32 0, .float .f32 0, .float .f32 0, .float .f32 0, .int .i64 0, .float .f32 0, .float .f32 0, .float .f32 0], .bool false]) ∧ Below w.heap.size w w' := by
  obtain ⟨w0, hw0⟩ : ∃ z, z = w.alloc (.cells #[.float .f32 0, .float .f32 0, .float .f32 0, .float .f32 0, .float .f32 0, .float .f32 0, .float .f32 0, .float .f32 0, .int .i64 0, .float .f32 0, .float .f32 0, .float .f32 0] 26) := ⟨_, rfl⟩
  have b0 : Below w.heap.size w w0 := by rw [hw0]; exact (Below.refl _ _).alloc (Nat.le_refl _) _
  have K0 : Hid (BlkL w0 w.heap.size [.float .f32 0, .float .f32 0, .float .f32 0, .float .f32 0, .float .f32 0, .float .f32 0, .float .f32 0, .float .f32 0, .int .i64 0, .float .f32 0, .float .f32 0, .float .f32 0]) := Lib.hid (by rw [hw0]; exact blkL_at w #[.float .f32 0, .float .f32 0, .float .f32 0, .float .f32 0, .float .f32 0, .float .f32 0, .float .f32 0, .float .f32 0, .int .i64 0, .float .f32 0, .float .f32 0, .float .f32 0] _ rfl)
  have B0 := Lib.hid b0
  have HC : Hid (Calls Tryz.prog 49 #[.string s, .int .u8 59] w0 fun e w' => ∃ v, e = .returned v ∧ GrS w' w0.heap.size v (cutS 59 s) ∧ Below w0.heap.size w0 w') := Lib.hid (s_l01Cut 59 s w0 hs)
  clear b0
  have HPS : Hid ((cutS 59 s)[0]? = some (pcs 59 s 0) ∧ (cutS 59 s)[1]? = some (pcs 59 s 1) ∧ (cutS 59 s)[2]? = some (pcs 59 s 2)) := Lib.hid ⟨pcs_at hl (by decide), pcs_at hl (by decide), pcs_at hl (by decide)⟩
  have HL3 := Lib.hid hl
  have HCA : Hid (∀ W, Calls Tryz.prog 50 #[.string (pcs 59 s 0)] W fun e w' => ∃ R1 c1 g1, e = .returned (.tuple #[.slice R1 8 c1, .bool true]) ∧ OwnO w' W.heap.size R1 g1 (nmL (pcs 59 s 0)) ∧ Below W.heap.size W w') := Lib.hid (fun W => by have h := s_l01NRead (pcs 59 s 0) W (Nat.le_trans (pcs_size _ _ _) hs); rw [hoa, hla] at h; exact h)
  have HCD : Hid (∀ W, Calls Tryz.prog 51 #[.string (pcs 59 s 1)] W fun e w' => e = .returned (.tuple #[.int .i64 (vlR (pcs 59 s 1)), .bool true]) ∧ Below W.heap.size W w') := Lib.hid (fun W => by have h := s_l01Value (pcs 59 s 1) W; rw [hod] at h; exact h)
  have HCB : Hid (∀ W, Calls Tryz.prog 50 #[.string (pcs 59 s 2)] W fun e w' => ∃ R1 c1 g1, e = .returned (.tuple #[.slice R1 3 c1, .bool true]) ∧ OwnO w' W.heap.size R1 g1 (nmL (pcs 59 s 2)) ∧ Below W.heap.size W w') := Lib.hid (fun W => by have h := s_l01NRead (pcs 59 s 2) W (Nat.le_trans (pcs_size _ _ _) hs); rw [hob, hlb] at h; exact h)
  have HLN : Hid ((nmL (pcs 59 s 0)).length = 8 ∧ (nmL (pcs 59 s 2)).length = 3) := Lib.hid ⟨hla, hlb⟩
  clear hs hl hoa hod hob hla hlb
  unfold dvP dvZ dvE at hv
  generalize pcs 59 s 0 = a0 at *
  generalize pcs 59 s 1 = a1 at *
  generalize pcs 59 s 2 = a2 at *
  generalize vlR a1 = z at *
  obtain ⟨x0, hx0⟩ : ∃ x, x = (nmL a0).getD 0 0 := ⟨_, rfl⟩
  obtain ⟨x1, hx1⟩ : ∃ x, x = (nmL a0).getD 1 0 := ⟨_, rfl⟩
  obtain ⟨x2, hx2⟩ : ∃ x, x = (nmL a0).getD 2 0 := ⟨_, rfl⟩
  obtain ⟨x3, hx3⟩ : ∃ x, x = (nmL a0).getD 3 0 := ⟨_, rfl⟩
  obtain ⟨x4, hx4⟩ : ∃ x, x = (nmL a0).getD 4 0 := ⟨_, rfl⟩
  obtain ⟨x5, hx5⟩ : ∃ x, x = (nmL a0).getD 5 0 := ⟨_, rfl⟩
  obtain ⟨x6, hx6⟩ : ∃ x, x = (nmL a0).getD 6 0 := ⟨_, rfl⟩
  obtain ⟨x7, hx7⟩ : ∃ x, x = (nmL a0).getD 7 0 := ⟨_, rfl⟩
  obtain ⟨y0, hy0⟩ : ∃ x, x = (nmL a2).getD 0 0 := ⟨_, rfl⟩
  obtain ⟨y1, hy1⟩ : ∃ x, x = (nmL a2).getD 1 0 := ⟨_, rfl⟩
  obtain ⟨y2, hy2⟩ : ∃ x, x = (nmL a2).getD 2 0 := ⟨_, rfl⟩
  rw [← hx0, ← hx1, ← hx2, ← hx3, ← hx4, ← hx5, ← hx6, ← hx7, ← hy0, ← hy1, ← hy2] at hv
  have HXS : Hid (x0 = (nmL a0).getD 0 0 ∧ x1 = (nmL a0).getD 1 0 ∧ x2 = (nmL a0).getD 2 0 ∧ x3 = (nmL a0).getD 3 0 ∧ x4 = (nmL a0).getD 4 0 ∧ x5 = (nmL a0).getD 5 0 ∧ x6 = (nmL a0).getD 6 0 ∧ x7 = (nmL a0).getD 7 0 ∧ y0 = (nmL a2).getD 0 0 ∧ y1 = (nmL a2).getD 1 0 ∧ y2 = (nmL a2).getD 2 0) := Lib.hid ⟨hx0, hx1, hx2, hx3, hx4, hx5, hx6, hx7, hy0, hy1, hy2⟩
  clear hx0 hx1 hx2 hx3 hx4 hx5 hx6 hx7 hy0 hy1 hy2
  have HV := Lib.hid hv
  clear hv
  go_enter Tryz.func25, Tryz.ntmps25
  go_upto_region 1 with fail
  rw [← hw0]
  clear hw0
  go_wp2_with fail
  refine HC.out.mono ?_
  rintro e w1 ⟨v, rfl, hg, b1⟩
  obtain ⟨pb, pc, rfl, hlo, hlt1, -, -, hcell⟩ := hg.own (by intro e; have := cutS_pos 59 s; rw [e] at this; simp at this)
  have K1 := Lib.hid (K0.out.below b1)
  have BB := Lib.hid (below_of B0.out B0.out.size b1)
  have HP : Hid (∀ W, Below w1.heap.size w1 W → W.cell? ⟨pb, 0, none⟩ = some (.string a0) ∧ W.cell? ⟨pb, 1, none⟩ = some (.string a1) ∧ W.cell? ⟨pb, 2, none⟩ = some (.string a2)) := Lib.hid (fun W hb => ⟨(hb.cell (p := ⟨pb, 0, none⟩) hlt1).trans (hcell 0 _ HPS.out.1), (hb.cell (p := ⟨pb, 1, none⟩) hlt1).trans (hcell 1 _ HPS.out.2.1), (hb.cell (p := ⟨pb, 2, none⟩) hlt1).trans (hcell 2 _ HPS.out.2.2)⟩)
  rw [HL3.out]
  clear hg hcell b1 HC B0 K0 HPS hlt1 hlo HL3
  obtain ⟨m0, m1, m2⟩ := HP.out _ (Below.refl _ _)
  go_wp2_with fail
  refine (HCA.out _).mono ?_
  rintro e w2 ⟨RA, cA, gA, rfl, hoA, b2⟩
  have B2 := Lib.hid b2
  have OA := Lib.hid hoA
  clear hoA b2 m0 m1 m2 HCA
  obtain ⟨m0, m1, m2⟩ := HP.out _ B2.out
  go_wp2_with fail
  refine (HCD.out _).mono ?_
  rintro e w3 ⟨rfl, b3⟩
  have OA := Lib.hid (OA.out.below b3)
  have B3 := Lib.hid (below_of B2.out B2.out.size b3)
  clear b3 B2 m0 m1 m2 HCD
  obtain ⟨m0, m1, m2⟩ := HP.out _ B3.out
  go_wp2_with fail
  refine (HCB.out _).mono ?_
  rintro e w4 ⟨RB, cB, gB, rfl, hoB, b4⟩
  have OA := Lib.hid (OA.out.below b4)
  have OB := Lib.hid hoB
  have B4 := Lib.hid (below_of B3.out B3.out.size b4)
  have K4 := Lib.hid (K1.out.below B4.out)
  have BC := Lib.hid (below_of BB.out BB.out.size B4.out)
  clear hoB b4 B3 m0 m1 m2 HCB HP K1 BB B4
  obtain ⟨rfl, nA⟩ := OA.out.nb (by rw [HLN.out.1]; decide)
  obtain ⟨rfl, nB⟩ := OB.out.nb (by rw [HLN.out.2]; decide)
  have HNA : Hid (∀ W, Below w4.heap.size w4 W → W.cell? ⟨gA, 0, none⟩ = some (.float .f32 x0) ∧ W.cell? ⟨gA, 1, none⟩ = some (.float .f32 x1) ∧ W.cell? ⟨gA, 2, none⟩ = some (.float .f32 x2) ∧ W.cell? ⟨gA, 3, none⟩ = some (.float .f32 x3) ∧ W.cell? ⟨gA, 4, none⟩ = some (.float .f32 x4) ∧ W.cell? ⟨gA, 5, none⟩ = some (.float .f32 x5) ∧ W.cell? ⟨gA, 6, none⟩ = some (.float .f32 x6) ∧ W.cell? ⟨gA, 7, none⟩ = some (.float .f32 x7)) := Lib.hid (fun W hb => by
    have h := nA.below hb
    exact ⟨by rw [HXS.out.1]; exact h.2.2 0 (by rw [HLN.out.1]; decide), by rw [HXS.out.2.1]; exact h.2.2 1 (by rw [HLN.out.1]; decide), by rw [HXS.out.2.2.1]; exact h.2.2 2 (by rw [HLN.out.1]; decide), by rw [HXS.out.2.2.2.1]; exact h.2.2 3 (by rw [HLN.out.1]; decide), by rw [HXS.out.2.2.2.2.1]; exact h.2.2 4 (by rw [HLN.out.1]; decide), by rw [HXS.out.2.2.2.2.2.1]; exact h.2.2 5 (by rw [HLN.out.1]; decide), by rw [HXS.out.2.2.2.2.2.2.1]; exact h.2.2 6 (by rw [HLN.out.1]; decide), by rw [HXS.out.2.2.2.2.2.2.2.1]; exact h.2.2 7 (by rw [HLN.out.1]; decide)⟩)
  have HNB : Hid (∀ W, Below w4.heap.size w4 W → W.cell? ⟨gB, 0, none⟩ = some (.float .f32 y0) ∧ W.cell? ⟨gB, 1, none⟩ = some (.float .f32 y1) ∧ W.cell? ⟨gB, 2, none⟩ = some (.float .f32 y2)) := Lib.hid (fun W hb => by
    have h := nB.below hb
    exact ⟨by rw [HXS.out.2.2.2.2.2.2.2.2.1]; exact h.2.2 0 (by rw [HLN.out.2]; decide), by rw [HXS.out.2.2.2.2.2.2.2.2.2.1]; exact h.2.2 1 (by rw [HLN.out.2]; decide), by rw [HXS.out.2.2.2.2.2.2.2.2.2.2]; exact h.2.2 2 (by rw [HLN.out.2]; decide)⟩)
  clear nA nB OA OB HLN HXS
  go_wp2_with fail
  refine wp_region_inv4 (fun iq wv v => match iq with
    | 0 => v = .slice (some ⟨gA, 0, none⟩) 8 cA
    | 1 => v = .pointer (some ⟨gA, 0, none⟩)
    | 2 => v = .float .f32 x0
    | 3 => v = .slice (some ⟨gA, 0, none⟩) 8 cA
    | 4 => v = .pointer (some ⟨gA, 1, none⟩)
    | 5 => v = .float .f32 x1
    | 6 => v = .slice (some ⟨gA, 0, none⟩) 8 cA
    | 7 => v = .pointer (some ⟨gA, 2, none⟩)
    | 8 => v = .float .f32 x2
    | 9 => v = .slice (some ⟨gA, 0, none⟩) 8 cA
    | 10 => v = .pointer (some ⟨gA, 3, none⟩)
    | 11 => v = .float .f32 x3
    | 12 => v = .slice (some ⟨gA, 0, none⟩) 8 cA
    | 13 => v = .pointer (some ⟨gA, 4, none⟩)
    | 14 => v = .float .f32 x4
    | 15 => v = .slice (some ⟨gA, 0, none⟩) 8 cA
    | 16 => v = .pointer (some ⟨gA, 5, none⟩)
    | 17 => v = .float .f32 x5
    | 18 => v = .slice (some ⟨gA, 0, none⟩) 8 cA
    | 19 => v = .pointer (some ⟨gA, 6, none⟩)
    | 20 => v = .float .f32 x6
    | 21 => v = .slice (some ⟨gA, 0, none⟩) 8 cA
    | 22 => v = .pointer (some ⟨gA, 7, none⟩)
    | 23 => v = .float .f32 x7
    | 24 => v = .agg #[.float .f32 x0, .float .f32 x1, .float .f32 x2, .float .f32 x3, .float .f32 x4, .float .f32 x5, .float .f32 x6, .float .f32 x7]
    | 25 => v = .pointer (some ⟨w4.heap.size, 0, none⟩)
    | 26 => True
    | _ => False) (W3 w4.drew (w4.drew.alloc (.cells #[.float .f32 0, .float .f32 0, .float .f32 0, .float .f32 0, .float .f32 0, .float .f32 0, .float .f32 0, .float .f32 0] 24)) (fun x => Below w4.heap.size w4 x ∧ BlkL x w4.heap.size [.float .f32 x0, .float .f32 x1, .float .f32 x2, .float .f32 x3, .float .f32 x4, .float .f32 x5, .float .f32 x6, .float .f32 x7]) 25 26) (fun _ _ => True) ?hmono (by kernel_rfl) (by kernel_rfl) W3.start ?hop ?hend
  case hmono =>
    intro i wa wb v hR hV
    rcases i with _ | _ | _ | _ | _ | _ | _ | _ | _ | _ | _ | _ | _ | _ | _ | _ | _ | _ | _ | _ | _ | _ | _ | _ | _ | _ | _ | i
    · exact hV
    · exact hV
    · exact hV
    · exact hV
    · exact hV
    · exact hV
    · exact hV
    · exact hV
    · exact hV
    · exact hV
    · exact hV
    · exact hV
    · exact hV
    · exact hV
    · exact hV
    · exact hV
    · exact hV
    · exact hV
    · exact hV
    · exact hV
    · exact hV
    · exact hV
    · exact hV
    · exact hV
    · exact hV
    · exact hV
    · exact hV
    · exact hV
  case hop =>
    intro q o hq listed act w3 hI hnot hcl hall
    have hC := hI.cls
    have hlen : listed.size = 27 := hI.len
    have hbel := hC.below (w := w4) ((Below.refl _ _).drew) (((Below.refl _ _).drew).alloc (Nat.le_refl _) _) (fun x h => h.1)
    obtain ⟨m0, m1, m2, m3, m4, m5, m6, m7⟩ := HNA.out _ hbel
    rcases q with _ | _ | _ | _ | _ | _ | _ | _ | _ | _ | _ | _ | _ | _ | _ | _ | _ | _ | _ | _ | _ | _ | _ | _ | _ | _ | _ | q
    · simp at hq; subst hq
      have g5 : act.tmps[5]?.getD undef = .slice (some ⟨gA, 0, none⟩) 8 cA := hI.kept 5 (by kernel_rfl)
      clear hI hall hnot hcl
      refine .inl ⟨wanted_none rfl, ?_⟩
      unfold Oper.wp
      go_simp
      all_goals exact ⟨_, rfl, rfl, hC.keep (k := 0) (by decide) (by decide) (by rw [hlen]; decide)⟩
    · simp at hq; subst hq
      have g61 : act.tmps[61]?.getD undef = .slice (some ⟨gA, 0, none⟩) 8 cA := hI.has 0 61 rfl (hall ⟨0, .data⟩ (by simp) rfl)
      clear hI hall hnot hcl
      refine .inl ⟨wanted_none rfl, ?_⟩
      unfold Oper.wp
      go_simp
      all_goals exact ⟨_, rfl, rfl, hC.keep (k := 1) (by decide) (by decide) (by rw [hlen]; decide)⟩
    · simp at hq; subst hq
      have g62 : act.tmps[62]?.getD undef = .pointer (some ⟨gA, 0, none⟩) := hI.has 1 62 rfl (hall ⟨1, .data⟩ (by simp) rfl)
      clear hI hall hnot hcl
      refine .inl ⟨wanted_none rfl, ?_⟩
      unfold Oper.wp
      go_simp
      all_goals exact ⟨_, rfl, rfl, hC.keep (k := 2) (by decide) (by decide) (by rw [hlen]; decide)⟩
    · simp at hq; subst hq
      have g5 : act.tmps[5]?.getD undef = .slice (some ⟨gA, 0, none⟩) 8 cA := hI.kept 5 (by kernel_rfl)
      clear hI hall hnot hcl
      refine .inl ⟨wanted_none rfl, ?_⟩
      unfold Oper.wp
      go_simp
      all_goals exact ⟨_, rfl, rfl, hC.keep (k := 3) (by decide) (by decide) (by rw [hlen]; decide)⟩
    · simp at hq; subst hq
      have g64 : act.tmps[64]?.getD undef = .slice (some ⟨gA, 0, none⟩) 8 cA := hI.has 3 64 rfl (hall ⟨3, .data⟩ (by simp) rfl)
      clear hI hall hnot hcl
      refine .inl ⟨wanted_none rfl, ?_⟩
      unfold Oper.wp
      go_simp
      all_goals exact ⟨_, rfl, rfl, hC.keep (k := 4) (by decide) (by decide) (by rw [hlen]; decide)⟩
    · simp at hq; subst hq
      have g65 : act.tmps[65]?.getD undef = .pointer (some ⟨gA, 1, none⟩) := hI.has 4 65 rfl (hall ⟨4, .data⟩ (by simp) rfl)
      clear hI hall hnot hcl
      refine .inl ⟨wanted_none rfl, ?_⟩
      unfold Oper.wp
      go_simp
      all_goals exact ⟨_, rfl, rfl, hC.keep (k := 5) (by decide) (by decide) (by rw [hlen]; decide)⟩
    · simp at hq; subst hq
      have g5 : act.tmps[5]?.getD undef = .slice (some ⟨gA, 0, none⟩) 8 cA := hI.kept 5 (by kernel_rfl)
      clear hI hall hnot hcl
      refine .inl ⟨wanted_none rfl, ?_⟩
      unfold Oper.wp
      go_simp
      all_goals exact ⟨_, rfl, rfl, hC.keep (k := 6) (by decide) (by decide) (by rw [hlen]; decide)⟩
    · simp at hq; subst hq
      have g67 : act.tmps[67]?.getD undef = .slice (some ⟨gA, 0, none⟩) 8 cA := hI.has 6 67 rfl (hall ⟨6, .data⟩ (by simp) rfl)
      clear hI hall hnot hcl
      refine .inl ⟨wanted_none rfl, ?_⟩
      unfold Oper.wp
      go_simp
      all_goals exact ⟨_, rfl, rfl, hC.keep (k := 7) (by decide) (by decide) (by rw [hlen]; decide)⟩
    · simp at hq; subst hq
      have g68 : act.tmps[68]?.getD undef = .pointer (some ⟨gA, 2, none⟩) := hI.has 7 68 rfl (hall ⟨7, .data⟩ (by simp) rfl)
      clear hI hall hnot hcl
      refine .inl ⟨wanted_none rfl, ?_⟩
      unfold Oper.wp
      go_simp
      all_goals exact ⟨_, rfl, rfl, hC.keep (k := 8) (by decide) (by decide) (by rw [hlen]; decide)⟩
    · simp at hq; subst hq
      have g5 : act.tmps[5]?.getD undef = .slice (some ⟨gA, 0, none⟩) 8 cA := hI.kept 5 (by kernel_rfl)
      clear hI hall hnot hcl
      refine .inl ⟨wanted_none rfl, ?_⟩
      unfold Oper.wp
      go_simp
      all_goals exact ⟨_, rfl, rfl, hC.keep (k := 9) (by decide) (by decide) (by rw [hlen]; decide)⟩
    · simp at hq; subst hq
      have g70 : act.tmps[70]?.getD undef = .slice (some ⟨gA, 0, none⟩) 8 cA := hI.has 9 70 rfl (hall ⟨9, .data⟩ (by simp) rfl)
      clear hI hall hnot hcl
      refine .inl ⟨wanted_none rfl, ?_⟩
      unfold Oper.wp
      go_simp
      all_goals exact ⟨_, rfl, rfl, hC.keep (k := 10) (by decide) (by decide) (by rw [hlen]; decide)⟩
    · simp at hq; subst hq
      have g71 : act.tmps[71]?.getD undef = .pointer (some ⟨gA, 3, none⟩) := hI.has 10 71 rfl (hall ⟨10, .data⟩ (by simp) rfl)
      clear hI hall hnot hcl
      refine .inl ⟨wanted_none rfl, ?_⟩
      unfold Oper.wp
      go_simp
      all_goals exact ⟨_, rfl, rfl, hC.keep (k := 11) (by decide) (by decide) (by rw [hlen]; decide)⟩
    · simp at hq; subst hq
      have g5 : act.tmps[5]?.getD undef = .slice (some ⟨gA, 0, none⟩) 8 cA := hI.kept 5 (by kernel_rfl)
      clear hI hall hnot hcl
      refine .inl ⟨wanted_none rfl, ?_⟩
      unfold Oper.wp
      go_simp
      all_goals exact ⟨_, rfl, rfl, hC.keep (k := 12) (by decide) (by decide) (by rw [hlen]; decide)⟩
    · simp at hq; subst hq
      have g73 : act.tmps[73]?.getD undef = .slice (some ⟨gA, 0, none⟩) 8 cA := hI.has 12 73 rfl (hall ⟨12, .data⟩ (by simp) rfl)
      clear hI hall hnot hcl
      refine .inl ⟨wanted_none rfl, ?_⟩
      unfold Oper.wp
      go_simp
      all_goals exact ⟨_, rfl, rfl, hC.keep (k := 13) (by decide) (by decide) (by rw [hlen]; decide)⟩
    · simp at hq; subst hq
      have g74 : act.tmps[74]?.getD undef = .pointer (some ⟨gA, 4, none⟩) := hI.has 13 74 rfl (hall ⟨13, .data⟩ (by simp) rfl)
      clear hI hall hnot hcl
      refine .inl ⟨wanted_none rfl, ?_⟩
      unfold Oper.wp
      go_simp
      all_goals exact ⟨_, rfl, rfl, hC.keep (k := 14) (by decide) (by decide) (by rw [hlen]; decide)⟩
    · simp at hq; subst hq
      have g5 : act.tmps[5]?.getD undef = .slice (some ⟨gA, 0, none⟩) 8 cA := hI.kept 5 (by kernel_rfl)
      clear hI hall hnot hcl
      refine .inl ⟨wanted_none rfl, ?_⟩
      unfold Oper.wp
      go_simp
      all_goals exact ⟨_, rfl, rfl, hC.keep (k := 15) (by decide) (by decide) (by rw [hlen]; decide)⟩
    · simp at hq; subst hq
      have g76 : act.tmps[76]?.getD undef = .slice (some ⟨gA, 0, none⟩) 8 cA := hI.has 15 76 rfl (hall ⟨15, .data⟩ (by simp) rfl)
      clear hI hall hnot hcl
      refine .inl ⟨wanted_none rfl, ?_⟩
      unfold Oper.wp
      go_simp
      all_goals exact ⟨_, rfl, rfl, hC.keep (k := 16) (by decide) (by decide) (by rw [hlen]; decide)⟩
    · simp at hq; subst hq
      have g77 : act.tmps[77]?.getD undef = .pointer (some ⟨gA, 5, none⟩) := hI.has 16 77 rfl (hall ⟨16, .data⟩ (by simp) rfl)
      clear hI hall hnot hcl
      refine .inl ⟨wanted_none rfl, ?_⟩
      unfold Oper.wp
      go_simp
      all_goals exact ⟨_, rfl, rfl, hC.keep (k := 17) (by decide) (by decide) (by rw [hlen]; decide)⟩
    · simp at hq; subst hq
      have g5 : act.tmps[5]?.getD undef = .slice (some ⟨gA, 0, none⟩) 8 cA := hI.kept 5 (by kernel_rfl)
      clear hI hall hnot hcl
      refine .inl ⟨wanted_none rfl, ?_⟩
      unfold Oper.wp
      go_simp
      all_goals exact ⟨_, rfl, rfl, hC.keep (k := 18) (by decide) (by decide) (by rw [hlen]; decide)⟩
    · simp at hq; subst hq
      have g79 : act.tmps[79]?.getD undef = .slice (some ⟨gA, 0, none⟩) 8 cA := hI.has 18 79 rfl (hall ⟨18, .data⟩ (by simp) rfl)
      clear hI hall hnot hcl
      refine .inl ⟨wanted_none rfl, ?_⟩
      unfold Oper.wp
      go_simp
      all_goals exact ⟨_, rfl, rfl, hC.keep (k := 19) (by decide) (by decide) (by rw [hlen]; decide)⟩
    · simp at hq; subst hq
      have g80 : act.tmps[80]?.getD undef = .pointer (some ⟨gA, 6, none⟩) := hI.has 19 80 rfl (hall ⟨19, .data⟩ (by simp) rfl)
      clear hI hall hnot hcl
      refine .inl ⟨wanted_none rfl, ?_⟩
      unfold Oper.wp
      go_simp
      all_goals exact ⟨_, rfl, rfl, hC.keep (k := 20) (by decide) (by decide) (by rw [hlen]; decide)⟩
    · simp at hq; subst hq
      have g5 : act.tmps[5]?.getD undef = .slice (some ⟨gA, 0, none⟩) 8 cA := hI.kept 5 (by kernel_rfl)
      clear hI hall hnot hcl
      refine .inl ⟨wanted_none rfl, ?_⟩
      unfold Oper.wp
      go_simp
      all_goals exact ⟨_, rfl, rfl, hC.keep (k := 21) (by decide) (by decide) (by rw [hlen]; decide)⟩
    · simp at hq; subst hq
      have g82 : act.tmps[82]?.getD undef = .slice (some ⟨gA, 0, none⟩) 8 cA := hI.has 21 82 rfl (hall ⟨21, .data⟩ (by simp) rfl)
      clear hI hall hnot hcl
      refine .inl ⟨wanted_none rfl, ?_⟩
      unfold Oper.wp
      go_simp
      all_goals exact ⟨_, rfl, rfl, hC.keep (k := 22) (by decide) (by decide) (by rw [hlen]; decide)⟩
    · simp at hq; subst hq
      have g83 : act.tmps[83]?.getD undef = .pointer (some ⟨gA, 7, none⟩) := hI.has 22 83 rfl (hall ⟨22, .data⟩ (by simp) rfl)
      clear hI hall hnot hcl
      refine .inl ⟨wanted_none rfl, ?_⟩
      unfold Oper.wp
      go_simp
      all_goals exact ⟨_, rfl, rfl, hC.keep (k := 23) (by decide) (by decide) (by rw [hlen]; decide)⟩
    · simp at hq; subst hq
      have g63 : act.tmps[63]?.getD undef = .float .f32 x0 := hI.has 2 63 rfl (hall ⟨2, .data⟩ (by simp) rfl)
      have g66 : act.tmps[66]?.getD undef = .float .f32 x1 := hI.has 5 66 rfl (hall ⟨5, .data⟩ (by simp) rfl)
      have g69 : act.tmps[69]?.getD undef = .float .f32 x2 := hI.has 8 69 rfl (hall ⟨8, .data⟩ (by simp) rfl)
      have g72 : act.tmps[72]?.getD undef = .float .f32 x3 := hI.has 11 72 rfl (hall ⟨11, .data⟩ (by simp) rfl)
      have g75 : act.tmps[75]?.getD undef = .float .f32 x4 := hI.has 14 75 rfl (hall ⟨14, .data⟩ (by simp) rfl)
      have g78 : act.tmps[78]?.getD undef = .float .f32 x5 := hI.has 17 78 rfl (hall ⟨17, .data⟩ (by simp) rfl)
      have g81 : act.tmps[81]?.getD undef = .float .f32 x6 := hI.has 20 81 rfl (hall ⟨20, .data⟩ (by simp) rfl)
      have g84 : act.tmps[84]?.getD undef = .float .f32 x7 := hI.has 23 84 rfl (hall ⟨23, .data⟩ (by simp) rfl)
      clear hI hall hnot hcl
      refine .inl ⟨wanted_none rfl, ?_⟩
      unfold Oper.wp
      go_simp
      all_goals exact ⟨_, rfl, rfl, hC.keep (k := 24) (by decide) (by decide) (by rw [hlen]; decide)⟩
    · simp at hq; subst hq
      have hns := hcl.not (j := 26) (i := 25) (e := ⟨25, .data⟩) rfl (by simp) rfl rfl hnot
      have hD := hC.atD hns hnot
      subst hD
      clear hI hall hnot hcl
      refine .inl ⟨wanted_none rfl, ?_⟩
      unfold Oper.wp
      go_simp
      exact ⟨_, rfl, rfl, W3.made hns (by rw [hlen]; decide) (by decide)⟩
    · simp at hq; subst hq
      have g11 : act.tmps[11]?.getD undef = .pointer (some ⟨w4.heap.size, 0, none⟩) := hI.has 25 11 rfl (hall ⟨25, .data⟩ (by simp) rfl)
      have g85 : act.tmps[85]?.getD undef = .agg #[.float .f32 x0, .float .f32 x1, .float .f32 x2, .float .f32 x3, .float .f32 x4, .float .f32 x5, .float .f32 x6, .float .f32 x7] := hI.has 24 85 rfl (hall ⟨24, .data⟩ (by simp) rfl)
      have hA := hC.atA hnot (hall ⟨25, .data⟩ (by simp) rfl)
      have hvs : BlkL w3 w4.heap.size [.float .f32 0, .float .f32 0, .float .f32 0, .float .f32 0, .float .f32 0, .float .f32 0, .float .f32 0, .float .f32 0] := by rw [hA]; exact blkL_at w4.drew #[.float .f32 0, .float .f32 0, .float .f32 0, .float .f32 0, .float .f32 0, .float .f32 0, .float .f32 0, .float .f32 0] 24 rfl
      clear hA hC
      clear hI hall hnot hcl
      refine .inl ⟨wanted_none rfl, ?_⟩
      unfold Oper.wp
      go_simp
      have p0 := (hvs.2 0 _ rfl).1
      have f0 := (hvs.2 0 _ rfl).2
      have p1 := (hvs.2 1 _ rfl).1
      have f1 := (hvs.2 1 _ rfl).2
      have p2 := (hvs.2 2 _ rfl).1
      have f2 := (hvs.2 2 _ rfl).2
      have p3 := (hvs.2 3 _ rfl).1
      have f3 := (hvs.2 3 _ rfl).2
      have p4 := (hvs.2 4 _ rfl).1
      have f4 := (hvs.2 4 _ rfl).2
      have p5 := (hvs.2 5 _ rfl).1
      have f5 := (hvs.2 5 _ rfl).2
      have p6 := (hvs.2 6 _ rfl).1
      have f6 := (hvs.2 6 _ rfl).2
      have p7 := (hvs.2 7 _ rfl).1
      have f7 := (hvs.2 7 _ rfl).2
      go_simp
      first | exact ⟨trivial, trivial, W3.stored ⟨((((((((hbel.setCell (p := ⟨w4.heap.size, 0, none⟩) (Nat.le_refl _) (.float .f32 x0)).setCell (p := ⟨w4.heap.size, 1, none⟩) (Nat.le_refl _) (.float .f32 x1)).setCell (p := ⟨w4.heap.size, 2, none⟩) (Nat.le_refl _) (.float .f32 x2)).setCell (p := ⟨w4.heap.size, 3, none⟩) (Nat.le_refl _) (.float .f32 x3)).setCell (p := ⟨w4.heap.size, 4, none⟩) (Nat.le_refl _) (.float .f32 x4)).setCell (p := ⟨w4.heap.size, 5, none⟩) (Nat.le_refl _) (.float .f32 x5)).setCell (p := ⟨w4.heap.size, 6, none⟩) (Nat.le_refl _) (.float .f32 x6)).setCell (p := ⟨w4.heap.size, 7, none⟩) (Nat.le_refl _) (.float .f32 x7)), ((((((((hvs.set (i := 0) (by simp) (.float .f32 x0)).set (i := 1) (by simp) (.float .f32 x1)).set (i := 2) (by simp) (.float .f32 x2)).set (i := 3) (by simp) (.float .f32 x3)).set (i := 4) (by simp) (.float .f32 x4)).set (i := 5) (by simp) (.float .f32 x5)).set (i := 6) (by simp) (.float .f32 x6)).set (i := 7) (by simp) (.float .f32 x7))⟩ (by rw [hlen]; decide)⟩ | exact W3.stored ⟨((((((((hbel.setCell (p := ⟨w4.heap.size, 0, none⟩) (Nat.le_refl _) (.float .f32 x0)).setCell (p := ⟨w4.heap.size, 1, none⟩) (Nat.le_refl _) (.float .f32 x1)).setCell (p := ⟨w4.heap.size, 2, none⟩) (Nat.le_refl _) (.float .f32 x2)).setCell (p := ⟨w4.heap.size, 3, none⟩) (Nat.le_refl _) (.float .f32 x3)).setCell (p := ⟨w4.heap.size, 4, none⟩) (Nat.le_refl _) (.float .f32 x4)).setCell (p := ⟨w4.heap.size, 5, none⟩) (Nat.le_refl _) (.float .f32 x5)).setCell (p := ⟨w4.heap.size, 6, none⟩) (Nat.le_refl _) (.float .f32 x6)).setCell (p := ⟨w4.heap.size, 7, none⟩) (Nat.le_refl _) (.float .f32 x7)), ((((((((hvs.set (i := 0) (by simp) (.float .f32 x0)).set (i := 1) (by simp) (.float .f32 x1)).set (i := 2) (by simp) (.float .f32 x2)).set (i := 3) (by simp) (.float .f32 x3)).set (i := 4) (by simp) (.float .f32 x4)).set (i := 5) (by simp) (.float .f32 x5)).set (i := 6) (by simp) (.float .f32 x6)).set (i := 7) (by simp) (.float .f32 x7))⟩ (by rw [hlen]; decide)
    · simp at hq
  case hend =>
    intro listed act w3 hI hall
    have hC := hI.cls
    have hlen : listed.size = 27 := hI.len
    have hbel := hC.below (w := w4) ((Below.refl _ _).drew) (((Below.refl _ _).drew).alloc (Nat.le_refl _) _) (fun x h => h.1)
    obtain ⟨m0, m1, m2, m3, m4, m5, m6, m7⟩ := HNA.out _ hbel
    obtain ⟨hbF, hkF⟩ := hC.fin (hall 26 (by decide))
    have g11 : act.tmps[11]?.getD undef = .pointer (some ⟨w4.heap.size, 0, none⟩) := hI.has 25 11 rfl (hall 25 (by decide))
    have g0 := hI.kept 0 (by kernel_rfl)
    conv at g0 => rhs; whnf
    have g1 : act.tmps[1]?.getD undef = undef := hI.kept 1 (by kernel_rfl)
    have g2 := hI.kept 2 (by kernel_rfl)
    conv at g2 => rhs; whnf
    have g3 := hI.kept 3 (by kernel_rfl)
    conv at g3 => rhs; whnf
    have g4 := hI.kept 4 (by kernel_rfl)
    conv at g4 => rhs; whnf
    have g5 := hI.kept 5 (by kernel_rfl)
    conv at g5 => rhs; whnf
    have g6 := hI.kept 6 (by kernel_rfl)
    conv at g6 => rhs; whnf
    have g7 := hI.kept 7 (by kernel_rfl)
    conv at g7 => rhs; whnf
    have g8 := hI.kept 8 (by kernel_rfl)
    conv at g8 => rhs; whnf
    have g9 := hI.kept 9 (by kernel_rfl)
    conv at g9 => rhs; whnf
    have g10 := hI.kept 10 (by kernel_rfl)
    conv at g10 => rhs; whnf
    have g12 : act.tmps[12]?.getD undef = undef := hI.kept 12 (by kernel_rfl)
    have g13 := hI.kept 13 (by kernel_rfl)
    conv at g13 => rhs; whnf
    have g14 := hI.kept 14 (by kernel_rfl)
    conv at g14 => rhs; whnf
    have g15 := hI.kept 15 (by kernel_rfl)
    conv at g15 => rhs; whnf
    have g16 := hI.kept 16 (by kernel_rfl)
    conv at g16 => rhs; whnf
    have g17 := hI.kept 17 (by kernel_rfl)
    conv at g17 => rhs; whnf
    have g18 := hI.kept 18 (by kernel_rfl)
    conv at g18 => rhs; whnf
    have g19 := hI.kept 19 (by kernel_rfl)
    conv at g19 => rhs; whnf
    have g20 := hI.kept 20 (by kernel_rfl)
    conv at g20 => rhs; whnf
    have g21 := hI.kept 21 (by kernel_rfl)
    conv at g21 => rhs; whnf
    have g22 := hI.kept 22 (by kernel_rfl)
    conv at g22 => rhs; whnf
    have g23 := hI.kept 23 (by kernel_rfl)
    conv at g23 => rhs; whnf
    have g24 := hI.kept 24 (by kernel_rfl)
    conv at g24 => rhs; whnf
    have g25 := hI.kept 25 (by kernel_rfl)
    conv at g25 => rhs; whnf
    have g26 := hI.kept 26 (by kernel_rfl)
    conv at g26 => rhs; whnf
    have g27 := hI.kept 27 (by kernel_rfl)
    conv at g27 => rhs; whnf
    have g28 := hI.kept 28 (by kernel_rfl)
    conv at g28 => rhs; whnf
    have g29 := hI.kept 29 (by kernel_rfl)
    conv at g29 => rhs; whnf
    have g30 := hI.kept 30 (by kernel_rfl)
    conv at g30 => rhs; whnf
    have g31 := hI.kept 31 (by kernel_rfl)
    conv at g31 => rhs; whnf
    have g32 := hI.kept 32 (by kernel_rfl)
    conv at g32 => rhs; whnf
    have g33 := hI.kept 33 (by kernel_rfl)
    conv at g33 => rhs; whnf
    have g34 := hI.kept 34 (by kernel_rfl)
    conv at g34 => rhs; whnf
    have g35 := hI.kept 35 (by kernel_rfl)
    conv at g35 => rhs; whnf
    have g36 := hI.kept 36 (by kernel_rfl)
    conv at g36 => rhs; whnf
    have g37 := hI.kept 37 (by kernel_rfl)
    conv at g37 => rhs; whnf
    have g38 := hI.kept 38 (by kernel_rfl)
    conv at g38 => rhs; whnf
    have g39 := hI.kept 39 (by kernel_rfl)
    conv at g39 => rhs; whnf
    have g40 := hI.kept 40 (by kernel_rfl)
    conv at g40 => rhs; whnf
    have g41 := hI.kept 41 (by kernel_rfl)
    conv at g41 => rhs; whnf
    have g42 := hI.kept 42 (by kernel_rfl)
    conv at g42 => rhs; whnf
    have g43 := hI.kept 43 (by kernel_rfl)
    conv at g43 => rhs; whnf
    have g44 := hI.kept 44 (by kernel_rfl)
    conv at g44 => rhs; whnf
    have g45 := hI.kept 45 (by kernel_rfl)
    conv at g45 => rhs; whnf
    have g46 := hI.kept 46 (by kernel_rfl)
    conv at g46 => rhs; whnf
    have g47 := hI.kept 47 (by kernel_rfl)
    conv at g47 => rhs; whnf
    have g48 := hI.kept 48 (by kernel_rfl)
    conv at g48 => rhs; whnf
    have g49 := hI.kept 49 (by kernel_rfl)
    conv at g49 => rhs; whnf
    have g50 := hI.kept 50 (by kernel_rfl)
    conv at g50 => rhs; whnf
    have g51 := hI.kept 51 (by kernel_rfl)
    conv at g51 => rhs; whnf
    have g52 := hI.kept 52 (by kernel_rfl)
    conv at g52 => rhs; whnf
    have g53 := hI.kept 53 (by kernel_rfl)
    conv at g53 => rhs; whnf
    have g54 := hI.kept 54 (by kernel_rfl)
    conv at g54 => rhs; whnf
    have g55 := hI.kept 55 (by kernel_rfl)
    conv at g55 => rhs; whnf
    have g56 := hI.kept 56 (by kernel_rfl)
    conv at g56 => rhs; whnf
    have g57 := hI.kept 57 (by kernel_rfl)
    conv at g57 => rhs; whnf
    have g58 := hI.kept 58 (by kernel_rfl)
    conv at g58 => rhs; whnf
    have g59 := hI.kept 59 (by kernel_rfl)
    conv at g59 => rhs; whnf
    have g60 := hI.kept 60 (by kernel_rfl)
    conv at g60 => rhs; whnf
    have g86 : act.tmps[86]?.getD undef = undef := hI.kept 86 (by kernel_rfl)
    have g87 : act.tmps[87]?.getD undef = undef := hI.kept 87 (by kernel_rfl)
    have g88 : act.tmps[88]?.getD undef = undef := hI.kept 88 (by kernel_rfl)
    have g89 : act.tmps[89]?.getD undef = undef := hI.kept 89 (by kernel_rfl)
    have g90 : act.tmps[90]?.getD undef = undef := hI.kept 90 (by kernel_rfl)
    have g91 : act.tmps[91]?.getD undef = undef := hI.kept 91 (by kernel_rfl)
    have g92 : act.tmps[92]?.getD undef = undef := hI.kept 92 (by kernel_rfl)
    have g93 : act.tmps[93]?.getD undef = undef := hI.kept 93 (by kernel_rfl)
    have g94 : act.tmps[94]?.getD undef = undef := hI.kept 94 (by kernel_rfl)
    have g95 : act.tmps[95]?.getD undef = undef := hI.kept 95 (by kernel_rfl)
    have g96 : act.tmps[96]?.getD undef = undef := hI.kept 96 (by kernel_rfl)
    have g97 : act.tmps[97]?.getD undef = undef := hI.kept 97 (by kernel_rfl)
    have g98 : act.tmps[98]?.getD undef = undef := hI.kept 98 (by kernel_rfl)
    have g99 : act.tmps[99]?.getD undef = undef := hI.kept 99 (by kernel_rfl)
    have g100 : act.tmps[100]?.getD undef = undef := hI.kept 100 (by kernel_rfl)
    have g101 : act.tmps[101]?.getD undef = undef := hI.kept 101 (by kernel_rfl)
    have hsz : act.tmps.size = 102 := hI.size.trans (by kernel_rfl)
    have hd := hI.defers
    clear hI hall hC
    obtain ⟨tt, dd⟩ := act
    simp only at g0 g1 g2 g3 g4 g5 g6 g7 g8 g9 g10 g11 g12 g13 g14 g15 g16 g17 g18 g19 g20 g21 g22 g23 g24 g25 g26 g27 g28 g29 g30 g31 g32 g33 g34 g35 g36 g37 g38 g39 g40 g41 g42 g43 g44 g45 g46 g47 g48 g49 g50 g51 g52 g53 g54 g55 g56 g57 g58 g59 g60 g86 g87 g88 g89 g90 g91 g92 g93 g94 g95 g96 g97 g98 g99 g100 g101 hsz hd
    subst hd
    have hl : tt = #[tt[0]?.getD undef, tt[1]?.getD undef, tt[2]?.getD undef, tt[3]?.getD undef, tt[4]?.getD undef, tt[5]?.getD undef, tt[6]?.getD undef, tt[7]?.getD undef, tt[8]?.getD undef, tt[9]?.getD undef, tt[10]?.getD undef, tt[11]?.getD undef, tt[12]?.getD undef, tt[13]?.getD undef, tt[14]?.getD undef, tt[15]?.getD undef, tt[16]?.getD undef, tt[17]?.getD undef, tt[18]?.getD undef, tt[19]?.getD undef, tt[20]?.getD undef, tt[21]?.getD undef, tt[22]?.getD undef, tt[23]?.getD undef, tt[24]?.getD undef, tt[25]?.getD undef, tt[26]?.getD undef, tt[27]?.getD undef, tt[28]?.getD undef, tt[29]?.getD undef, tt[30]?.getD undef, tt[31]?.getD undef, tt[32]?.getD undef, tt[33]?.getD undef, tt[34]?.getD undef, tt[35]?.getD undef, tt[36]?.getD undef, tt[37]?.getD undef, tt[38]?.getD undef, tt[39]?.getD undef, tt[40]?.getD undef, tt[41]?.getD undef, tt[42]?.getD undef, tt[43]?.getD undef, tt[44]?.getD undef, tt[45]?.getD undef, tt[46]?.getD undef, tt[47]?.getD undef, tt[48]?.getD undef, tt[49]?.getD undef, tt[50]?.getD undef, tt[51]?.getD undef, tt[52]?.getD undef, tt[53]?.getD undef, tt[54]?.getD undef, tt[55]?.getD undef, tt[56]?.getD undef, tt[57]?.getD undef, tt[58]?.getD undef, tt[59]?.getD undef, tt[60]?.getD undef, tt[61]?.getD undef, tt[62]?.getD undef, tt[63]?.getD undef, tt[64]?.getD undef, tt[65]?.getD undef, tt[66]?.getD undef, tt[67]?.getD undef, tt[68]?.getD undef, tt[69]?.getD undef, tt[70]?.getD undef, tt[71]?.getD undef, tt[72]?.getD undef, tt[73]?.getD undef, tt[74]?.getD undef, tt[75]?.getD undef, tt[76]?.getD undef, tt[77]?.getD undef, tt[78]?.getD undef, tt[79]?.getD undef, tt[80]?.getD undef, tt[81]?.getD undef, tt[82]?.getD undef, tt[83]?.getD undef, tt[84]?.getD undef, tt[85]?.getD undef, tt[86]?.getD undef, tt[87]?.getD undef, tt[88]?.getD undef, tt[89]?.getD undef, tt[90]?.getD undef, tt[91]?.getD undef, tt[92]?.getD undef, tt[93]?.getD undef, tt[94]?.getD undef, tt[95]?.getD undef, tt[96]?.getD undef, tt[97]?.getD undef, tt[98]?.getD undef, tt[99]?.getD undef, tt[100]?.getD undef, tt[101]?.getD undef] := (arr_lit hsz).trans rfl
    rw [g0, g1, g2, g3, g4, g5, g6, g7, g8, g9, g10, g11, g12, g13, g14, g15, g16, g17, g18, g19, g20, g21, g22, g23, g24, g25, g26, g27, g28, g29, g30, g31, g32, g33, g34, g35, g36, g37, g38, g39, g40, g41, g42, g43, g44, g45, g46, g47, g48, g49, g50, g51, g52, g53, g54, g55, g56, g57, g58, g59, g60, g86, g87, g88, g89, g90, g91, g92, g93, g94, g95, g96, g97, g98, g99, g100, g101] at hl
    clear g0 g1 g2 g3 g4 g5 g6 g7 g8 g9 g10 g11 g12 g13 g14 g15 g16 g17 g18 g19 g20 g21 g22 g23 g24 g25 g26 g27 g28 g29 g30 g31 g32 g33 g34 g35 g36 g37 g38 g39 g40 g41 g42 g43 g44 g45 g46 g47 g48 g49 g50 g51 g52 g53 g54 g55 g56 g57 g58 g59 g60 g86 g87 g88 g89 g90 g91 g92 g93 g94 g95 g96 g97 g98 g99 g100 g101 hsz
    generalize tt[61]?.getD undef = y9_61 at hl
    generalize tt[62]?.getD undef = y9_62 at hl
    generalize tt[63]?.getD undef = y9_63 at hl
    generalize tt[64]?.getD undef = y9_64 at hl
    generalize tt[65]?.getD undef = y9_65 at hl
    generalize tt[66]?.getD undef = y9_66 at hl
    generalize tt[67]?.getD undef = y9_67 at hl
    generalize tt[68]?.getD undef = y9_68 at hl
    generalize tt[69]?.getD undef = y9_69 at hl
    generalize tt[70]?.getD undef = y9_70 at hl
    generalize tt[71]?.getD undef = y9_71 at hl
    generalize tt[72]?.getD undef = y9_72 at hl
    generalize tt[73]?.getD undef = y9_73 at hl
    generalize tt[74]?.getD undef = y9_74 at hl
    generalize tt[75]?.getD undef = y9_75 at hl
    generalize tt[76]?.getD undef = y9_76 at hl
    generalize tt[77]?.getD undef = y9_77 at hl
    generalize tt[78]?.getD undef = y9_78 at hl
    generalize tt[79]?.getD undef = y9_79 at hl
    generalize tt[80]?.getD undef = y9_80 at hl
    generalize tt[81]?.getD undef = y9_81 at hl
    generalize tt[82]?.getD undef = y9_82 at hl
    generalize tt[83]?.getD undef = y9_83 at hl
    generalize tt[84]?.getD undef = y9_84 at hl
    generalize tt[85]?.getD undef = y9_85 at hl
    subst hl
    have X1 := Lib.hid hkF
    have K5 := Lib.hid (K4.out.below hbF)
    have BD := Lib.hid (below_of BC.out BC.out.size hbF)
    have HNB : Hid (∀ W, Below w3.heap.size w3 W → W.cell? ⟨gB, 0, none⟩ = some (.float .f32 y0) ∧ W.cell? ⟨gB, 1, none⟩ = some (.float .f32 y1) ∧ W.cell? ⟨gB, 2, none⟩ = some (.float .f32 y2)) := Lib.hid (fun W hb => HNB.out W (below_of hbF hbF.size hb))
    clear hkF hbF K4 BC HNA
    generalize w3 = w5 at *
    go_wp2_with fail
    
    refine wp_region_inv4 (fun iq wv v => match iq with
      | 0 => v = .agg #[.float .f32 x0, .float .f32 x1, .float .f32 x2, .float .f32 x3, .float .f32 x4, .float .f32 x5, .float .f32 x6, .float .f32 x7]
      | 1 => v = .int .i64 z
      | 2 => v = .slice (some ⟨gB, 0, none⟩) 3 cB
      | 3 => v = .pointer (some ⟨gB, 0, none⟩)
      | 4 => v = .float .f32 y0
      | 5 => v = .slice (some ⟨gB, 0, none⟩) 3 cB
      | 6 => v = .pointer (some ⟨gB, 1, none⟩)
      | 7 => v = .float .f32 y1
      | 8 => v = .slice (some ⟨gB, 0, none⟩) 3 cB
      | 9 => v = .pointer (some ⟨gB, 2, none⟩)
      | 10 => v = .float .f32 y2
      | 11 => v = .agg #[.float .f32 x0, .float .f32 x1, .float .f32 x2, .float .f32 x3, .float .f32 x4, .float .f32 x5, .float .f32 x6, .float .f32 x7, .int .i64 z, .float .f32 y0, .float .f32 y1, .float .f32 y2]
      | 12 => v = .pointer (some ⟨w5.heap.size, 0, none⟩)
      | 13 => True
      | _ => False) (W3 w5.drew (w5.drew.alloc (.cells #[.float .f32 0, .float .f32 0, .float .f32 0, .float .f32 0, .float .f32 0, .float .f32 0, .float .f32 0, .float .f32 0, .int .i64 0, .float .f32 0, .float .f32 0, .float .f32 0] 26)) (fun x => Below w5.heap.size w5 x ∧ BlkL x w5.heap.size [.float .f32 x0, .float .f32 x1, .float .f32 x2, .float .f32 x3, .float .f32 x4, .float .f32 x5, .float .f32 x6, .float .f32 x7, .int .i64 z, .float .f32 y0, .float .f32 y1, .float .f32 y2]) 12 13) (fun _ _ => True) ?hmono (by kernel_rfl) (by kernel_rfl) W3.start ?hop ?hend
    case hmono =>
      intro i wa wb v hR hV
      rcases i with _ | _ | _ | _ | _ | _ | _ | _ | _ | _ | _ | _ | _ | _ | i
      · exact hV
      · exact hV
      · exact hV
      · exact hV
      · exact hV
      · exact hV
      · exact hV
      · exact hV
      · exact hV
      · exact hV
      · exact hV
      · exact hV
      · exact hV
      · exact hV
      · exact hV
    case hop =>
      intro q o hq listed act w3 hI hnot hcl hall
      have hC := hI.cls
      have hlen : listed.size = 14 := hI.len
      have hbel := hC.below (w := w5) ((Below.refl _ _).drew) (((Below.refl _ _).drew).alloc (Nat.le_refl _) _) (fun x h => h.1)
      obtain ⟨n0, n1, n2⟩ := HNB.out _ hbel
      obtain ⟨q0, q1, q2, q3, q4, q5, q6, q7⟩ := eight (X1.out.below hbel)
      rcases q with _ | _ | _ | _ | _ | _ | _ | _ | _ | _ | _ | _ | _ | _ | q
      · simp at hq; subst hq
        have g11 : act.tmps[11]?.getD undef = .pointer (some ⟨w4.heap.size, 0, none⟩) := hI.kept 11 (by kernel_rfl)
        clear hI hall hnot hcl
        refine .inl ⟨wanted_none rfl, ?_⟩
        unfold Oper.wp
        go_simp
        all_goals exact ⟨_, rfl, rfl, hC.keep (k := 0) (by decide) (by decide) (by rw [hlen]; decide)⟩
      · simp at hq; subst hq
        have g7 : act.tmps[7]?.getD undef = .int .i64 z := hI.kept 7 (by kernel_rfl)
        clear hI hall hnot hcl
        refine .inl ⟨wanted_none rfl, ?_⟩
        unfold Oper.wp
        go_simp
        all_goals exact ⟨_, rfl, rfl, hC.keep (k := 1) (by decide) (by decide) (by rw [hlen]; decide)⟩
      · simp at hq; subst hq
        have g9 : act.tmps[9]?.getD undef = .slice (some ⟨gB, 0, none⟩) 3 cB := hI.kept 9 (by kernel_rfl)
        clear hI hall hnot hcl
        refine .inl ⟨wanted_none rfl, ?_⟩
        unfold Oper.wp
        go_simp
        all_goals exact ⟨_, rfl, rfl, hC.keep (k := 2) (by decide) (by decide) (by rw [hlen]; decide)⟩
      · simp at hq; subst hq
        have g88 : act.tmps[88]?.getD undef = .slice (some ⟨gB, 0, none⟩) 3 cB := hI.has 2 88 rfl (hall ⟨2, .data⟩ (by simp) rfl)
        clear hI hall hnot hcl
        refine .inl ⟨wanted_none rfl, ?_⟩
        unfold Oper.wp
        go_simp
        all_goals exact ⟨_, rfl, rfl, hC.keep (k := 3) (by decide) (by decide) (by rw [hlen]; decide)⟩
      · simp at hq; subst hq
        have g89 : act.tmps[89]?.getD undef = .pointer (some ⟨gB, 0, none⟩) := hI.has 3 89 rfl (hall ⟨3, .data⟩ (by simp) rfl)
        clear hI hall hnot hcl
        refine .inl ⟨wanted_none rfl, ?_⟩
        unfold Oper.wp
        go_simp
        all_goals exact ⟨_, rfl, rfl, hC.keep (k := 4) (by decide) (by decide) (by rw [hlen]; decide)⟩
      · simp at hq; subst hq
        have g9 : act.tmps[9]?.getD undef = .slice (some ⟨gB, 0, none⟩) 3 cB := hI.kept 9 (by kernel_rfl)
        clear hI hall hnot hcl
        refine .inl ⟨wanted_none rfl, ?_⟩
        unfold Oper.wp
        go_simp
        all_goals exact ⟨_, rfl, rfl, hC.keep (k := 5) (by decide) (by decide) (by rw [hlen]; decide)⟩
      · simp at hq; subst hq
        have g91 : act.tmps[91]?.getD undef = .slice (some ⟨gB, 0, none⟩) 3 cB := hI.has 5 91 rfl (hall ⟨5, .data⟩ (by simp) rfl)
        clear hI hall hnot hcl
        refine .inl ⟨wanted_none rfl, ?_⟩
        unfold Oper.wp
        go_simp
        all_goals exact ⟨_, rfl, rfl, hC.keep (k := 6) (by decide) (by decide) (by rw [hlen]; decide)⟩
      · simp at hq; subst hq
        have g92 : act.tmps[92]?.getD undef = .pointer (some ⟨gB, 1, none⟩) := hI.has 6 92 rfl (hall ⟨6, .data⟩ (by simp) rfl)
        clear hI hall hnot hcl
        refine .inl ⟨wanted_none rfl, ?_⟩
        unfold Oper.wp
        go_simp
        all_goals exact ⟨_, rfl, rfl, hC.keep (k := 7) (by decide) (by decide) (by rw [hlen]; decide)⟩
      · simp at hq; subst hq
        have g9 : act.tmps[9]?.getD undef = .slice (some ⟨gB, 0, none⟩) 3 cB := hI.kept 9 (by kernel_rfl)
        clear hI hall hnot hcl
        refine .inl ⟨wanted_none rfl, ?_⟩
        unfold Oper.wp
        go_simp
        all_goals exact ⟨_, rfl, rfl, hC.keep (k := 8) (by decide) (by decide) (by rw [hlen]; decide)⟩
      · simp at hq; subst hq
        have g94 : act.tmps[94]?.getD undef = .slice (some ⟨gB, 0, none⟩) 3 cB := hI.has 8 94 rfl (hall ⟨8, .data⟩ (by simp) rfl)
        clear hI hall hnot hcl
        refine .inl ⟨wanted_none rfl, ?_⟩
        unfold Oper.wp
        go_simp
        all_goals exact ⟨_, rfl, rfl, hC.keep (k := 9) (by decide) (by decide) (by rw [hlen]; decide)⟩
      · simp at hq; subst hq
        have g95 : act.tmps[95]?.getD undef = .pointer (some ⟨gB, 2, none⟩) := hI.has 9 95 rfl (hall ⟨9, .data⟩ (by simp) rfl)
        clear hI hall hnot hcl
        refine .inl ⟨wanted_none rfl, ?_⟩
        unfold Oper.wp
        go_simp
        all_goals exact ⟨_, rfl, rfl, hC.keep (k := 10) (by decide) (by decide) (by rw [hlen]; decide)⟩
      · simp at hq; subst hq
        have g86 : act.tmps[86]?.getD undef = .agg #[.float .f32 x0, .float .f32 x1, .float .f32 x2, .float .f32 x3, .float .f32 x4, .float .f32 x5, .float .f32 x6, .float .f32 x7] := hI.has 0 86 rfl (hall ⟨0, .data⟩ (by simp) rfl)
        have g87 : act.tmps[87]?.getD undef = .int .i64 z := hI.has 1 87 rfl (hall ⟨1, .data⟩ (by simp) rfl)
        have g90 : act.tmps[90]?.getD undef = .float .f32 y0 := hI.has 4 90 rfl (hall ⟨4, .data⟩ (by simp) rfl)
        have g93 : act.tmps[93]?.getD undef = .float .f32 y1 := hI.has 7 93 rfl (hall ⟨7, .data⟩ (by simp) rfl)
        have g96 : act.tmps[96]?.getD undef = .float .f32 y2 := hI.has 10 96 rfl (hall ⟨10, .data⟩ (by simp) rfl)
        clear hI hall hnot hcl
        refine .inl ⟨wanted_none rfl, ?_⟩
        unfold Oper.wp
        go_simp
        all_goals exact ⟨_, rfl, rfl, hC.keep (k := 11) (by decide) (by decide) (by rw [hlen]; decide)⟩
      · simp at hq; subst hq
        have hns := hcl.not (j := 13) (i := 12) (e := ⟨12, .data⟩) rfl (by simp) rfl rfl hnot
        have hD := hC.atD hns hnot
        subst hD
        clear hI hall hnot hcl
        refine .inl ⟨wanted_none rfl, ?_⟩
        unfold Oper.wp
        go_simp
        exact ⟨_, rfl, rfl, W3.made hns (by rw [hlen]; decide) (by decide)⟩
      · simp at hq; subst hq
        have g12 : act.tmps[12]?.getD undef = .pointer (some ⟨w5.heap.size, 0, none⟩) := hI.has 12 12 rfl (hall ⟨12, .data⟩ (by simp) rfl)
        have g97 : act.tmps[97]?.getD undef = .agg #[.float .f32 x0, .float .f32 x1, .float .f32 x2, .float .f32 x3, .float .f32 x4, .float .f32 x5, .float .f32 x6, .float .f32 x7, .int .i64 z, .float .f32 y0, .float .f32 y1, .float .f32 y2] := hI.has 11 97 rfl (hall ⟨11, .data⟩ (by simp) rfl)
        have hA := hC.atA hnot (hall ⟨12, .data⟩ (by simp) rfl)
        have hvs : BlkL w3 w5.heap.size [.float .f32 0, .float .f32 0, .float .f32 0, .float .f32 0, .float .f32 0, .float .f32 0, .float .f32 0, .float .f32 0, .int .i64 0, .float .f32 0, .float .f32 0, .float .f32 0] := by rw [hA]; exact blkL_at w5.drew #[.float .f32 0, .float .f32 0, .float .f32 0, .float .f32 0, .float .f32 0, .float .f32 0, .float .f32 0, .float .f32 0, .int .i64 0, .float .f32 0, .float .f32 0, .float .f32 0] 26 rfl
        clear hA hC
        clear hI hall hnot hcl
        refine .inl ⟨wanted_none rfl, ?_⟩
        unfold Oper.wp
        go_simp
        have p0 := (hvs.2 0 _ rfl).1
        have f0 := (hvs.2 0 _ rfl).2
        have p1 := (hvs.2 1 _ rfl).1
        have f1 := (hvs.2 1 _ rfl).2
        have p2 := (hvs.2 2 _ rfl).1
        have f2 := (hvs.2 2 _ rfl).2
        have p3 := (hvs.2 3 _ rfl).1
        have f3 := (hvs.2 3 _ rfl).2
        have p4 := (hvs.2 4 _ rfl).1
        have f4 := (hvs.2 4 _ rfl).2
        have p5 := (hvs.2 5 _ rfl).1
        have f5 := (hvs.2 5 _ rfl).2
        have p6 := (hvs.2 6 _ rfl).1
        have f6 := (hvs.2 6 _ rfl).2
        have p7 := (hvs.2 7 _ rfl).1
        have f7 := (hvs.2 7 _ rfl).2
        have p8 := (hvs.2 8 _ rfl).1
        have f8 := (hvs.2 8 _ rfl).2
        have p9 := (hvs.2 9 _ rfl).1
        have f9 := (hvs.2 9 _ rfl).2
        have p10 := (hvs.2 10 _ rfl).1
        have f10 := (hvs.2 10 _ rfl).2
        have p11 := (hvs.2 11 _ rfl).1
        have f11 := (hvs.2 11 _ rfl).2
        go_simp
        first | exact ⟨trivial, trivial, W3.stored ⟨((((((((((((hbel.setCell (p := ⟨w5.heap.size, 0, none⟩) (Nat.le_refl _) (.float .f32 x0)).setCell (p := ⟨w5.heap.size, 1, none⟩) (Nat.le_refl _) (.float .f32 x1)).setCell (p := ⟨w5.heap.size, 2, none⟩) (Nat.le_refl _) (.float .f32 x2)).setCell (p := ⟨w5.heap.size, 3, none⟩) (Nat.le_refl _) (.float .f32 x3)).setCell (p := ⟨w5.heap.size, 4, none⟩) (Nat.le_refl _) (.float .f32 x4)).setCell (p := ⟨w5.heap.size, 5, none⟩) (Nat.le_refl _) (.float .f32 x5)).setCell (p := ⟨w5.heap.size, 6, none⟩) (Nat.le_refl _) (.float .f32 x6)).setCell (p := ⟨w5.heap.size, 7, none⟩) (Nat.le_refl _) (.float .f32 x7)).setCell (p := ⟨w5.heap.size, 8, none⟩) (Nat.le_refl _) (.int .i64 z)).setCell (p := ⟨w5.heap.size, 9, none⟩) (Nat.le_refl _) (.float .f32 y0)).setCell (p := ⟨w5.heap.size, 10, none⟩) (Nat.le_refl _) (.float .f32 y1)).setCell (p := ⟨w5.heap.size, 11, none⟩) (Nat.le_refl _) (.float .f32 y2)), ((((((((((((hvs.set (i := 0) (by simp) (.float .f32 x0)).set (i := 1) (by simp) (.float .f32 x1)).set (i := 2) (by simp) (.float .f32 x2)).set (i := 3) (by simp) (.float .f32 x3)).set (i := 4) (by simp) (.float .f32 x4)).set (i := 5) (by simp) (.float .f32 x5)).set (i := 6) (by simp) (.float .f32 x6)).set (i := 7) (by simp) (.float .f32 x7)).set (i := 8) (by simp) (.int .i64 z)).set (i := 9) (by simp) (.float .f32 y0)).set (i := 10) (by simp) (.float .f32 y1)).set (i := 11) (by simp) (.float .f32 y2))⟩ (by rw [hlen]; decide)⟩ | exact W3.stored ⟨((((((((((((hbel.setCell (p := ⟨w5.heap.size, 0, none⟩) (Nat.le_refl _) (.float .f32 x0)).setCell (p := ⟨w5.heap.size, 1, none⟩) (Nat.le_refl _) (.float .f32 x1)).setCell (p := ⟨w5.heap.size, 2, none⟩) (Nat.le_refl _) (.float .f32 x2)).setCell (p := ⟨w5.heap.size, 3, none⟩) (Nat.le_refl _) (.float .f32 x3)).setCell (p := ⟨w5.heap.size, 4, none⟩) (Nat.le_refl _) (.float .f32 x4)).setCell (p := ⟨w5.heap.size, 5, none⟩) (Nat.le_refl _) (.float .f32 x5)).setCell (p := ⟨w5.heap.size, 6, none⟩) (Nat.le_refl _) (.float .f32 x6)).setCell (p := ⟨w5.heap.size, 7, none⟩) (Nat.le_refl _) (.float .f32 x7)).setCell (p := ⟨w5.heap.size, 8, none⟩) (Nat.le_refl _) (.int .i64 z)).setCell (p := ⟨w5.heap.size, 9, none⟩) (Nat.le_refl _) (.float .f32 y0)).setCell (p := ⟨w5.heap.size, 10, none⟩) (Nat.le_refl _) (.float .f32 y1)).setCell (p := ⟨w5.heap.size, 11, none⟩) (Nat.le_refl _) (.float .f32 y2)), ((((((((((((hvs.set (i := 0) (by simp) (.float .f32 x0)).set (i := 1) (by simp) (.float .f32 x1)).set (i := 2) (by simp) (.float .f32 x2)).set (i := 3) (by simp) (.float .f32 x3)).set (i := 4) (by simp) (.float .f32 x4)).set (i := 5) (by simp) (.float .f32 x5)).set (i := 6) (by simp) (.float .f32 x6)).set (i := 7) (by simp) (.float .f32 x7)).set (i := 8) (by simp) (.int .i64 z)).set (i := 9) (by simp) (.float .f32 y0)).set (i := 10) (by simp) (.float .f32 y1)).set (i := 11) (by simp) (.float .f32 y2))⟩ (by rw [hlen]; decide)
      · simp at hq
    case hend =>
      intro listed act w3 hI hall
      have hC := hI.cls
      have hlen : listed.size = 14 := hI.len
      have hbel := hC.below (w := w5) ((Below.refl _ _).drew) (((Below.refl _ _).drew).alloc (Nat.le_refl _) _) (fun x h => h.1)
      obtain ⟨n0, n1, n2⟩ := HNB.out _ hbel
      obtain ⟨q0, q1, q2, q3, q4, q5, q6, q7⟩ := eight (X1.out.below hbel)
      obtain ⟨hbF, hkF⟩ := hC.fin (hall 13 (by decide))
      have g12 : act.tmps[12]?.getD undef = .pointer (some ⟨w5.heap.size, 0, none⟩) := hI.has 12 12 rfl (hall 12 (by decide))
      have g0 := hI.kept 0 (by kernel_rfl)
      conv at g0 => rhs; whnf
      have g1 : act.tmps[1]?.getD undef = undef := hI.kept 1 (by kernel_rfl)
      have g2 := hI.kept 2 (by kernel_rfl)
      conv at g2 => rhs; whnf
      have g3 := hI.kept 3 (by kernel_rfl)
      conv at g3 => rhs; whnf
      have g4 := hI.kept 4 (by kernel_rfl)
      conv at g4 => rhs; whnf
      have g5 := hI.kept 5 (by kernel_rfl)
      conv at g5 => rhs; whnf
      have g6 := hI.kept 6 (by kernel_rfl)
      conv at g6 => rhs; whnf
      have g7 := hI.kept 7 (by kernel_rfl)
      conv at g7 => rhs; whnf
      have g8 := hI.kept 8 (by kernel_rfl)
      conv at g8 => rhs; whnf
      have g9 := hI.kept 9 (by kernel_rfl)
      conv at g9 => rhs; whnf
      have g10 := hI.kept 10 (by kernel_rfl)
      conv at g10 => rhs; whnf
      have g11 := hI.kept 11 (by kernel_rfl)
      conv at g11 => rhs; whnf
      have g13 := hI.kept 13 (by kernel_rfl)
      conv at g13 => rhs; whnf
      have g14 := hI.kept 14 (by kernel_rfl)
      conv at g14 => rhs; whnf
      have g15 := hI.kept 15 (by kernel_rfl)
      conv at g15 => rhs; whnf
      have g16 := hI.kept 16 (by kernel_rfl)
      conv at g16 => rhs; whnf
      have g17 := hI.kept 17 (by kernel_rfl)
      conv at g17 => rhs; whnf
      have g18 := hI.kept 18 (by kernel_rfl)
      conv at g18 => rhs; whnf
      have g19 := hI.kept 19 (by kernel_rfl)
      conv at g19 => rhs; whnf
      have g20 := hI.kept 20 (by kernel_rfl)
      conv at g20 => rhs; whnf
      have g21 := hI.kept 21 (by kernel_rfl)
      conv at g21 => rhs; whnf
      have g22 := hI.kept 22 (by kernel_rfl)
      conv at g22 => rhs; whnf
      have g23 := hI.kept 23 (by kernel_rfl)
      conv at g23 => rhs; whnf
      have g24 := hI.kept 24 (by kernel_rfl)
      conv at g24 => rhs; whnf
      have g25 := hI.kept 25 (by kernel_rfl)
      conv at g25 => rhs; whnf
      have g26 := hI.kept 26 (by kernel_rfl)
      conv at g26 => rhs; whnf
      have g27 := hI.kept 27 (by kernel_rfl)
      conv at g27 => rhs; whnf
      have g28 := hI.kept 28 (by kernel_rfl)
      conv at g28 => rhs; whnf
      have g29 := hI.kept 29 (by kernel_rfl)
      conv at g29 => rhs; whnf
      have g30 := hI.kept 30 (by kernel_rfl)
      conv at g30 => rhs; whnf
      have g31 := hI.kept 31 (by kernel_rfl)
      conv at g31 => rhs; whnf
      have g32 := hI.kept 32 (by kernel_rfl)
      conv at g32 => rhs; whnf
      have g33 := hI.kept 33 (by kernel_rfl)
      conv at g33 => rhs; whnf
      have g34 := hI.kept 34 (by kernel_rfl)
      conv at g34 => rhs; whnf
      have g35 := hI.kept 35 (by kernel_rfl)
      conv at g35 => rhs; whnf
      have g36 := hI.kept 36 (by kernel_rfl)
      conv at g36 => rhs; whnf
      have g37 := hI.kept 37 (by kernel_rfl)
      conv at g37 => rhs; whnf
      have g38 := hI.kept 38 (by kernel_rfl)
      conv at g38 => rhs; whnf
      have g39 := hI.kept 39 (by kernel_rfl)
      conv at g39 => rhs; whnf
      have g40 := hI.kept 40 (by kernel_rfl)
      conv at g40 => rhs; whnf
      have g41 := hI.kept 41 (by kernel_rfl)
      conv at g41 => rhs; whnf
      have g42 := hI.kept 42 (by kernel_rfl)
      conv at g42 => rhs; whnf
      have g43 := hI.kept 43 (by kernel_rfl)
      conv at g43 => rhs; whnf
      have g44 := hI.kept 44 (by kernel_rfl)
      conv at g44 => rhs; whnf
      have g45 := hI.kept 45 (by kernel_rfl)
      conv at g45 => rhs; whnf
      have g46 := hI.kept 46 (by kernel_rfl)
      conv at g46 => rhs; whnf
      have g47 := hI.kept 47 (by kernel_rfl)
      conv at g47 => rhs; whnf
      have g48 := hI.kept 48 (by kernel_rfl)
      conv at g48 => rhs; whnf
      have g49 := hI.kept 49 (by kernel_rfl)
      conv at g49 => rhs; whnf
      have g50 := hI.kept 50 (by kernel_rfl)
      conv at g50 => rhs; whnf
      have g51 := hI.kept 51 (by kernel_rfl)
      conv at g51 => rhs; whnf
      have g52 := hI.kept 52 (by kernel_rfl)
      conv at g52 => rhs; whnf
      have g53 := hI.kept 53 (by kernel_rfl)
      conv at g53 => rhs; whnf
      have g54 := hI.kept 54 (by kernel_rfl)
      conv at g54 => rhs; whnf
      have g55 := hI.kept 55 (by kernel_rfl)
      conv at g55 => rhs; whnf
      have g56 := hI.kept 56 (by kernel_rfl)
      conv at g56 => rhs; whnf
      have g57 := hI.kept 57 (by kernel_rfl)
      conv at g57 => rhs; whnf
      have g58 := hI.kept 58 (by kernel_rfl)
      conv at g58 => rhs; whnf
      have g59 := hI.kept 59 (by kernel_rfl)
      conv at g59 => rhs; whnf
      have g60 := hI.kept 60 (by kernel_rfl)
      conv at g60 => rhs; whnf
      have g61 := hI.kept 61 (by kernel_rfl)
      conv at g61 => rhs; whnf
      have g62 := hI.kept 62 (by kernel_rfl)
      conv at g62 => rhs; whnf
      have g63 := hI.kept 63 (by kernel_rfl)
      conv at g63 => rhs; whnf
      have g64 := hI.kept 64 (by kernel_rfl)
      conv at g64 => rhs; whnf
      have g65 := hI.kept 65 (by kernel_rfl)
      conv at g65 => rhs; whnf
      have g66 := hI.kept 66 (by kernel_rfl)
      conv at g66 => rhs; whnf
      have g67 := hI.kept 67 (by kernel_rfl)
      conv at g67 => rhs; whnf
      have g68 := hI.kept 68 (by kernel_rfl)
      conv at g68 => rhs; whnf
      have g69 := hI.kept 69 (by kernel_rfl)
      conv at g69 => rhs; whnf
      have g70 := hI.kept 70 (by kernel_rfl)
      conv at g70 => rhs; whnf
      have g71 := hI.kept 71 (by kernel_rfl)
      conv at g71 => rhs; whnf
      have g72 := hI.kept 72 (by kernel_rfl)
      conv at g72 => rhs; whnf
      have g73 := hI.kept 73 (by kernel_rfl)
      conv at g73 => rhs; whnf
      have g74 := hI.kept 74 (by kernel_rfl)
      conv at g74 => rhs; whnf
      have g75 := hI.kept 75 (by kernel_rfl)
      conv at g75 => rhs; whnf
      have g76 := hI.kept 76 (by kernel_rfl)
      conv at g76 => rhs; whnf
      have g77 := hI.kept 77 (by kernel_rfl)
      conv at g77 => rhs; whnf
      have g78 := hI.kept 78 (by kernel_rfl)
      conv at g78 => rhs; whnf
      have g79 := hI.kept 79 (by kernel_rfl)
      conv at g79 => rhs; whnf
      have g80 := hI.kept 80 (by kernel_rfl)
      conv at g80 => rhs; whnf
      have g81 := hI.kept 81 (by kernel_rfl)
      conv at g81 => rhs; whnf
      have g82 := hI.kept 82 (by kernel_rfl)
      conv at g82 => rhs; whnf
      have g83 := hI.kept 83 (by kernel_rfl)
      conv at g83 => rhs; whnf
      have g84 := hI.kept 84 (by kernel_rfl)
      conv at g84 => rhs; whnf
      have g85 := hI.kept 85 (by kernel_rfl)
      conv at g85 => rhs; whnf
      have g98 : act.tmps[98]?.getD undef = undef := hI.kept 98 (by kernel_rfl)
      have g99 : act.tmps[99]?.getD undef = undef := hI.kept 99 (by kernel_rfl)
      have g100 : act.tmps[100]?.getD undef = undef := hI.kept 100 (by kernel_rfl)
      have g101 : act.tmps[101]?.getD undef = undef := hI.kept 101 (by kernel_rfl)
      have hsz : act.tmps.size = 102 := hI.size.trans (by kernel_rfl)
      have hd := hI.defers
      clear hI hall hC
      obtain ⟨tt, dd⟩ := act
      simp only at g0 g1 g2 g3 g4 g5 g6 g7 g8 g9 g10 g11 g12 g13 g14 g15 g16 g17 g18 g19 g20 g21 g22 g23 g24 g25 g26 g27 g28 g29 g30 g31 g32 g33 g34 g35 g36 g37 g38 g39 g40 g41 g42 g43 g44 g45 g46 g47 g48 g49 g50 g51 g52 g53 g54 g55 g56 g57 g58 g59 g60 g61 g62 g63 g64 g65 g66 g67 g68 g69 g70 g71 g72 g73 g74 g75 g76 g77 g78 g79 g80 g81 g82 g83 g84 g85 g98 g99 g100 g101 hsz hd
      subst hd
      have hl : tt = #[tt[0]?.getD undef, tt[1]?.getD undef, tt[2]?.getD undef, tt[3]?.getD undef, tt[4]?.getD undef, tt[5]?.getD undef, tt[6]?.getD undef, tt[7]?.getD undef, tt[8]?.getD undef, tt[9]?.getD undef, tt[10]?.getD undef, tt[11]?.getD undef, tt[12]?.getD undef, tt[13]?.getD undef, tt[14]?.getD undef, tt[15]?.getD undef, tt[16]?.getD undef, tt[17]?.getD undef, tt[18]?.getD undef, tt[19]?.getD undef, tt[20]?.getD undef, tt[21]?.getD undef, tt[22]?.getD undef, tt[23]?.getD undef, tt[24]?.getD undef, tt[25]?.getD undef, tt[26]?.getD undef, tt[27]?.getD undef, tt[28]?.getD undef, tt[29]?.getD undef, tt[30]?.getD undef, tt[31]?.getD undef, tt[32]?.getD undef, tt[33]?.getD undef, tt[34]?.getD undef, tt[35]?.getD undef, tt[36]?.getD undef, tt[37]?.getD undef, tt[38]?.getD undef, tt[39]?.getD undef, tt[40]?.getD undef, tt[41]?.getD undef, tt[42]?.getD undef, tt[43]?.getD undef, tt[44]?.getD undef, tt[45]?.getD undef, tt[46]?.getD undef, tt[47]?.getD undef, tt[48]?.getD undef, tt[49]?.getD undef, tt[50]?.getD undef, tt[51]?.getD undef, tt[52]?.getD undef, tt[53]?.getD undef, tt[54]?.getD undef, tt[55]?.getD undef, tt[56]?.getD undef, tt[57]?.getD undef, tt[58]?.getD undef, tt[59]?.getD undef, tt[60]?.getD undef, tt[61]?.getD undef, tt[62]?.getD undef, tt[63]?.getD undef, tt[64]?.getD undef, tt[65]?.getD undef, tt[66]?.getD undef, tt[67]?.getD undef, tt[68]?.getD undef, tt[69]?.getD undef, tt[70]?.getD undef, tt[71]?.getD undef, tt[72]?.getD undef, tt[73]?.getD undef, tt[74]?.getD undef, tt[75]?.getD undef, tt[76]?.getD undef, tt[77]?.getD undef, tt[78]?.getD undef, tt[79]?.getD undef, tt[80]?.getD undef, tt[81]?.getD undef, tt[82]?.getD undef, tt[83]?.getD undef, tt[84]?.getD undef, tt[85]?.getD undef, tt[86]?.getD undef, tt[87]?.getD undef, tt[88]?.getD undef, tt[89]?.getD undef, tt[90]?.getD undef, tt[91]?.getD undef, tt[92]?.getD undef, tt[93]?.getD undef, tt[94]?.getD undef, tt[95]?.getD undef, tt[96]?.getD undef, tt[97]?.getD undef, tt[98]?.getD undef, tt[99]?.getD undef, tt[100]?.getD undef, tt[101]?.getD undef] := (arr_lit hsz).trans rfl
      rw [g0, g1, g2, g3, g4, g5, g6, g7, g8, g9, g10, g11, g12, g13, g14, g15, g16, g17, g18, g19, g20, g21, g22, g23, g24, g25, g26, g27, g28, g29, g30, g31, g32, g33, g34, g35, g36, g37, g38, g39, g40, g41, g42, g43, g44, g45, g46, g47, g48, g49, g50, g51, g52, g53, g54, g55, g56, g57, g58, g59, g60, g61, g62, g63, g64, g65, g66, g67, g68, g69, g70, g71, g72, g73, g74, g75, g76, g77, g78, g79, g80, g81, g82, g83, g84, g85, g98, g99, g100, g101] at hl
      clear g0 g1 g2 g3 g4 g5 g6 g7 g8 g9 g10 g11 g12 g13 g14 g15 g16 g17 g18 g19 g20 g21 g22 g23 g24 g25 g26 g27 g28 g29 g30 g31 g32 g33 g34 g35 g36 g37 g38 g39 g40 g41 g42 g43 g44 g45 g46 g47 g48 g49 g50 g51 g52 g53 g54 g55 g56 g57 g58 g59 g60 g61 g62 g63 g64 g65 g66 g67 g68 g69 g70 g71 g72 g73 g74 g75 g76 g77 g78 g79 g80 g81 g82 g83 g84 g85 g98 g99 g100 g101 hsz
      generalize tt[86]?.getD undef = y10_86 at hl
      generalize tt[87]?.getD undef = y10_87 at hl
      generalize tt[88]?.getD undef = y10_88 at hl
      generalize tt[89]?.getD undef = y10_89 at hl
      generalize tt[90]?.getD undef = y10_90 at hl
      generalize tt[91]?.getD undef = y10_91 at hl
      generalize tt[92]?.getD undef = y10_92 at hl
      generalize tt[93]?.getD undef = y10_93 at hl
      generalize tt[94]?.getD undef = y10_94 at hl
      generalize tt[95]?.getD undef = y10_95 at hl
      generalize tt[96]?.getD undef = y10_96 at hl
      generalize tt[97]?.getD undef = y10_97 at hl
      subst hl
      have X2 := Lib.hid hkF
      have K6 := Lib.hid (K5.out.below hbF)
      have BE := Lib.hid (below_of BD.out BD.out.size hbF)
      have HC := Lib.hid (s_l05Is x0 x1 x2 x3 x4 x5 x6 x7 z y0 y1 y2 w5.heap.size _ X2.out.c12)
      rw [HV.out] at HC
      clear hkF hbF K5 BD X1 HNB HV
      generalize w3 = wa at *
      go_wp2_with fail
      refine HC.out.mono ?_
      rintro e w6 ⟨n, rfl, hw⟩
      have un : Below wa.heap.size wa w6 := by rw [hw]; exact below_draws (Below.refl _ _) n
      have X3 := Lib.hid (X2.out.below un)
      have K7 := Lib.hid (K6.out.below un)
      have BF := Lib.hid (below_of BE.out BE.out.size un)
      clear hw un HC X2 K6 BE
      obtain ⟨⟨f0, g0⟩, ⟨f1, g1⟩, ⟨f2, g2⟩, ⟨f3, g3⟩, ⟨f4, g4⟩, ⟨f5, g5⟩, ⟨f6, g6⟩, ⟨f7, g7⟩, ⟨f8, g8⟩, ⟨f9, g9⟩, ⟨f10, g10⟩, ⟨f11, g11⟩⟩ : (_ ∧ _) ∧ (_ ∧ _) ∧ (_ ∧ _) ∧ (_ ∧ _) ∧ (_ ∧ _) ∧ (_ ∧ _) ∧ (_ ∧ _) ∧ (_ ∧ _) ∧ (_ ∧ _) ∧ (_ ∧ _) ∧ (_ ∧ _) ∧ (_ ∧ _) := ⟨K7.out.2 0 _ rfl, K7.out.2 1 _ rfl, K7.out.2 2 _ rfl, K7.out.2 3 _ rfl, K7.out.2 4 _ rfl, K7.out.2 5 _ rfl, K7.out.2 6 _ rfl, K7.out.2 7 _ rfl, K7.out.2 8 _ rfl, K7.out.2 9 _ rfl, K7.out.2 10 _ rfl, K7.out.2 11 _ rfl⟩
      go_wp2
      have R := Lib.hid (((((((((((((BF.out.setCell (p := ⟨w.heap.size, 0, none⟩) (by simp) (.float .f32 0)).setCell (p := ⟨w.heap.size, 1, none⟩) (by simp) (.float .f32 0)).setCell (p := ⟨w.heap.size, 2, none⟩) (by simp) (.float .f32 0)).setCell (p := ⟨w.heap.size, 3, none⟩) (by simp) (.float .f32 0)).setCell (p := ⟨w.heap.size, 4, none⟩) (by simp) (.float .f32 0)).setCell (p := ⟨w.heap.size, 5, none⟩) (by simp) (.float .f32 0)).setCell (p := ⟨w.heap.size, 6, none⟩) (by simp) (.float .f32 0)).setCell (p := ⟨w.heap.size, 7, none⟩) (by simp) (.float .f32 0)).setCell (p := ⟨w.heap.size, 8, none⟩) (by simp) (.int .i64 0)).setCell (p := ⟨w.heap.size, 9, none⟩) (by simp) (.float .f32 0)).setCell (p := ⟨w.heap.size, 10, none⟩) (by simp) (.float .f32 0)).setCell (p := ⟨w.heap.size, 11, none⟩) (by simp) (.float .f32 0)))
      have Q := Lib.hid (((((((((((((K7.out.set (i := 0) (by simp) (.float .f32 0)).set (i := 1) (by simp) (.float .f32 0)).set (i := 2) (by simp) (.float .f32 0)).set (i := 3) (by simp) (.float .f32 0)).set (i := 4) (by simp) (.float .f32 0)).set (i := 5) (by simp) (.float .f32 0)).set (i := 6) (by simp) (.float .f32 0)).set (i := 7) (by simp) (.float .f32 0)).set (i := 8) (by simp) (.int .i64 0)).set (i := 9) (by simp) (.float .f32 0)).set (i := 10) (by simp) (.float .f32 0)).set (i := 11) (by simp) (.float .f32 0)))
      obtain ⟨c0, c1, c2, c3, c4, c5, c6, c7, c8, c9, c10, c11⟩ : _ ∧ _ ∧ _ ∧ _ ∧ _ ∧ _ ∧ _ ∧ _ ∧ _ ∧ _ ∧ _ ∧ _ := ⟨(Q.out.2 0 _ rfl).1, (Q.out.2 1 _ rfl).1, (Q.out.2 2 _ rfl).1, (Q.out.2 3 _ rfl).1, (Q.out.2 4 _ rfl).1, (Q.out.2 5 _ rfl).1, (Q.out.2 6 _ rfl).1, (Q.out.2 7 _ rfl).1, (Q.out.2 8 _ rfl).1, (Q.out.2 9 _ rfl).1, (Q.out.2 10 _ rfl).1, (Q.out.2 11 _ rfl).1⟩
      refine bodyPost_ret (v := .tuple #[.agg #[.float .f32 0, .float .f32 0, .float .f32 0, .float .f32 0, .float .f32 0, .float .f32 0, .float .f32 0, .float .f32 0, .int .i64 0, .float .f32 0, .float .f32 0, .float .f32 0], .bool false]) ?_ rfl ⟨rfl, R.out⟩
      simp [results, Tryz.results25, go_sem, c0, c1, c2, c3, c4, c5, c6, c7, c8, c9, c10, c11]
      
theorem s_l08ReadDrive (s : ByteArray) (w : World) (hs : s.size ≤ 1048576) :
    Calls Tryz.prog 25 #[.string s] w fun e w' => e = .returned (.tuple #[.agg #[.float .f32 (if rdO s then dvP s 0 else 0), .float .f32 (if rdO s then dvP s 1 else 0), .float .f32 (if rdO s then dvP s 2 else 0), .float .f32 (if rdO s then dvP s 3 else 0), .float .f32 (if rdO s then dvP s 4 else 0), .float .f32 (if rdO s then dvP s 5 else 0), .float .f32 (if rdO s then dvP s 6 else 0), .float .f32 (if rdO s then dvP s 7 else 0), .int .i64 (if rdO s then dvZ s else 0), .float .f32 (if rdO s then dvE s 0 else 0), .float .f32 (if rdO s then dvE s 1 else 0), .float .f32 (if rdO s then dvE s 2 else 0)], .bool (rdO s)]) ∧ Below w.heap.size w w' := by
  by_cases h : dvO s = true
  · obtain ⟨hl, hA, hB, hD⟩ := dvO_iff.1 h
    obtain ⟨hoa, hla⟩ := nmN_iff.1 hA
    obtain ⟨hob, hlb⟩ := nmN_iff.1 hB
    cases hv : driveV (dvP s 0) (dvP s 1) (dvP s 2) (dvP s 3) (dvP s 4) (dvP s 5) (dvP s 6) (dvP s 7) (dvZ s) (dvE s 0) (dvE s 1) (dvE s 2)
    · have hr : rdO s = false := by unfold rdO; rw [h, hv]; rfl
      simp only [hr]
      exact s_l08ReadDrive_inv s w hs hl hoa hD hob hla hlb hv
    · have hr : rdO s = true := by unfold rdO; rw [h, hv]; rfl
      simp only [hr]
      exact s_l08ReadDrive_yes s w hs hl hoa hD hob hla hlb hv
  · have hf : dvO s = false := by simpa using h
    have hr : rdO s = false := by unfold rdO; rw [hf]; rfl
    simp only [hr]
    by_cases hl : (cutS 59 s).length = 3
    · cases hoa : nmO (pcs 59 s 0)
      · exact s_l08ReadDrive_one s w hs hl hoa
      · cases hod : vlO (pcs 59 s 1)
        · exact s_l08ReadDrive_two s w hs hl hoa hod
        · cases hob : nmO (pcs 59 s 2)
          · exact s_l08ReadDrive_three s w hs hl hoa hod hob
          · by_cases hla : (nmL (pcs 59 s 0)).length = 8
            · by_cases hlb : (nmL (pcs 59 s 2)).length = 3
              · exact absurd (dvO_iff.2 ⟨hl, nmN_iff.2 ⟨hoa, hla⟩, nmN_iff.2 ⟨hob, hlb⟩, hod⟩) h
              · exact s_l08ReadDrive_ly s w hs hl hoa hod hob hla hlb
            · exact s_l08ReadDrive_lx s w hs hl hoa hod hob hla
    · exact s_l08ReadDrive_cut s w hs hl
set_option maxHeartbeats 8000000 in
theorem s_ReadDrive (s : ByteArray) (w : World) (hs : s.size ≤ 1048576) :
    Calls Tryz.prog 7 #[.string s] w fun e w' => e = .returned (.tuple #[.agg #[.float .f32 (if rdO s then dvP s 0 else 0), .float .f32 (if rdO s then dvP s 1 else 0), .float .f32 (if rdO s then dvP s 2 else 0), .float .f32 (if rdO s then dvP s 3 else 0), .float .f32 (if rdO s then dvP s 4 else 0), .float .f32 (if rdO s then dvP s 5 else 0), .float .f32 (if rdO s then dvP s 6 else 0), .float .f32 (if rdO s then dvP s 7 else 0), .int .i64 (if rdO s then dvZ s else 0), .float .f32 (if rdO s then dvE s 0 else 0), .float .f32 (if rdO s then dvE s 1 else 0), .float .f32 (if rdO s then dvE s 2 else 0)], .bool (rdO s)]) ∧ Below w.heap.size w w' := by
  obtain ⟨w0, hw0⟩ : ∃ z, z = w.alloc (.cells #[.float .f32 0, .float .f32 0, .float .f32 0, .float .f32 0, .float .f32 0, .float .f32 0, .float .f32 0, .float .f32 0, .int .i64 0, .float .f32 0, .float .f32 0, .float .f32 0] 26) := ⟨_, rfl⟩
  have b0 : Below w.heap.size w w0 := by rw [hw0]; exact (Below.refl _ _).alloc (Nat.le_refl _) _
  have K0 : Hid (BlkL w0 w.heap.size [.float .f32 0, .float .f32 0, .float .f32 0, .float .f32 0, .float .f32 0, .float .f32 0, .float .f32 0, .float .f32 0, .int .i64 0, .float .f32 0, .float .f32 0, .float .f32 0]) := Lib.hid (by rw [hw0]; exact blkL_at w #[.float .f32 0, .float .f32 0, .float .f32 0, .float .f32 0, .float .f32 0, .float .f32 0, .float .f32 0, .float .f32 0, .int .i64 0, .float .f32 0, .float .f32 0, .float .f32 0] _ rfl)
  have HC := Lib.hid (s_l08ReadDrive s w0 hs)
  have B0 := Lib.hid b0
  clear hs b0
  generalize (if rdO s then dvP s 0 else 0) = x0 at HC ⊢
  generalize (if rdO s then dvP s 1 else 0) = x1 at HC ⊢
  generalize (if rdO s then dvP s 2 else 0) = x2 at HC ⊢
  generalize (if rdO s then dvP s 3 else 0) = x3 at HC ⊢
  generalize (if rdO s then dvP s 4 else 0) = x4 at HC ⊢
  generalize (if rdO s then dvP s 5 else 0) = x5 at HC ⊢
  generalize (if rdO s then dvP s 6 else 0) = x6 at HC ⊢
  generalize (if rdO s then dvP s 7 else 0) = x7 at HC ⊢
  generalize (if rdO s then dvZ s else 0) = z at HC ⊢
  generalize (if rdO s then dvE s 0 else 0) = y0 at HC ⊢
  generalize (if rdO s then dvE s 1 else 0) = y1 at HC ⊢
  generalize (if rdO s then dvE s 2 else 0) = y2 at HC ⊢
  generalize rdO s = bb at HC ⊢
  go_enter Tryz.func7, Tryz.ntmps7
  go_upto_region 1 with fail
  rw [← hw0]
  clear hw0
  go_wp2_with fail
  refine HC.out.mono ?_
  rintro e w1 ⟨rfl, b1⟩
  have K1 := Lib.hid (K0.out.below b1)
  have BB := Lib.hid (below_of B0.out B0.out.size b1)
  clear b1 K0 B0 HC
  obtain ⟨⟨f0, g0⟩, ⟨f1, g1⟩, ⟨f2, g2⟩, ⟨f3, g3⟩, ⟨f4, g4⟩, ⟨f5, g5⟩, ⟨f6, g6⟩, ⟨f7, g7⟩, ⟨f8, g8⟩, ⟨f9, g9⟩, ⟨f10, g10⟩, ⟨f11, g11⟩⟩ : (_ ∧ _) ∧ (_ ∧ _) ∧ (_ ∧ _) ∧ (_ ∧ _) ∧ (_ ∧ _) ∧ (_ ∧ _) ∧ (_ ∧ _) ∧ (_ ∧ _) ∧ (_ ∧ _) ∧ (_ ∧ _) ∧ (_ ∧ _) ∧ (_ ∧ _) := ⟨K1.out.2 0 _ rfl, K1.out.2 1 _ rfl, K1.out.2 2 _ rfl, K1.out.2 3 _ rfl, K1.out.2 4 _ rfl, K1.out.2 5 _ rfl, K1.out.2 6 _ rfl, K1.out.2 7 _ rfl, K1.out.2 8 _ rfl, K1.out.2 9 _ rfl, K1.out.2 10 _ rfl, K1.out.2 11 _ rfl⟩
  go_wp2
  have R := Lib.hid (((((((((((((BB.out.setCell (p := ⟨w.heap.size, 0, none⟩) (by simp) (.float .f32 x0)).setCell (p := ⟨w.heap.size, 1, none⟩) (by simp) (.float .f32 x1)).setCell (p := ⟨w.heap.size, 2, none⟩) (by simp) (.float .f32 x2)).setCell (p := ⟨w.heap.size, 3, none⟩) (by simp) (.float .f32 x3)).setCell (p := ⟨w.heap.size, 4, none⟩) (by simp) (.float .f32 x4)).setCell (p := ⟨w.heap.size, 5, none⟩) (by simp) (.float .f32 x5)).setCell (p := ⟨w.heap.size, 6, none⟩) (by simp) (.float .f32 x6)).setCell (p := ⟨w.heap.size, 7, none⟩) (by simp) (.float .f32 x7)).setCell (p := ⟨w.heap.size, 8, none⟩) (by simp) (.int .i64 z)).setCell (p := ⟨w.heap.size, 9, none⟩) (by simp) (.float .f32 y0)).setCell (p := ⟨w.heap.size, 10, none⟩) (by simp) (.float .f32 y1)).setCell (p := ⟨w.heap.size, 11, none⟩) (by simp) (.float .f32 y2)))
  have Q := Lib.hid (((((((((((((K1.out.set (i := 0) (by simp) (.float .f32 x0)).set (i := 1) (by simp) (.float .f32 x1)).set (i := 2) (by simp) (.float .f32 x2)).set (i := 3) (by simp) (.float .f32 x3)).set (i := 4) (by simp) (.float .f32 x4)).set (i := 5) (by simp) (.float .f32 x5)).set (i := 6) (by simp) (.float .f32 x6)).set (i := 7) (by simp) (.float .f32 x7)).set (i := 8) (by simp) (.int .i64 z)).set (i := 9) (by simp) (.float .f32 y0)).set (i := 10) (by simp) (.float .f32 y1)).set (i := 11) (by simp) (.float .f32 y2)))
  obtain ⟨c0, c1, c2, c3, c4, c5, c6, c7, c8, c9, c10, c11⟩ : _ ∧ _ ∧ _ ∧ _ ∧ _ ∧ _ ∧ _ ∧ _ ∧ _ ∧ _ ∧ _ ∧ _ := ⟨(Q.out.2 0 _ rfl).1, (Q.out.2 1 _ rfl).1, (Q.out.2 2 _ rfl).1, (Q.out.2 3 _ rfl).1, (Q.out.2 4 _ rfl).1, (Q.out.2 5 _ rfl).1, (Q.out.2 6 _ rfl).1, (Q.out.2 7 _ rfl).1, (Q.out.2 8 _ rfl).1, (Q.out.2 9 _ rfl).1, (Q.out.2 10 _ rfl).1, (Q.out.2 11 _ rfl).1⟩
  refine bodyPost_ret (v := .tuple #[.agg #[.float .f32 x0, .float .f32 x1, .float .f32 x2, .float .f32 x3, .float .f32 x4, .float .f32 x5, .float .f32 x6, .float .f32 x7, .int .i64 z, .float .f32 y0, .float .f32 y1, .float .f32 y2], .bool bb]) ?_ rfl ⟨rfl, R.out⟩
  simp [results, Tryz.results7, go_sem, c0, c1, c2, c3, c4, c5, c6, c7, c8, c9, c10, c11]
end Go.Proofs.YtknabmknboffgaaGreatDoor
namespace Go.Proofs.YtknabmknboffgaaGreatDoor
open Go Go.RowKit
set_option maxHeartbeats 16000000 in
theorem law_FnExactReadDrive (s0 : ByteArray) (w : World) (_hz0 : s0.size ≤ maxLen) (he : EV w) (ht : T64 w) (hx : T10 w) (hm0 : ML w) (hv : ∃ pv, EMv pv w) :
    Calls Tryz.prog 3 #[.string s0] w fun e w' => e = .returned (.bool true) ∧ Below w.heap.size w w' := by
  obtain ⟨pv, hv⟩ := hv
  have HE := Lib.hid he
  have HT := Lib.hid ht
  have HX := Lib.hid hx
  have HM0 := Lib.hid hm0
  have HV := Lib.hid hv
  clear he ht hx hm0 hv
  by_cases hb0 : s0.size ≤ 1048576
  · have HZ0 := Lib.hid hb0
    have hbi0 : ¬ (1048576 : Int) < (s0.size : Int) := by omega
    clear hb0
    go_enter Tryz.func3, Tryz.ntmps3
    go_wp2_with fail
    refine (s_ReadDrive s0 _ HZ0.out).mono ?_
    rintro e w1 ⟨rfl, b⟩
    have B1 := Lib.hid b
    clear b
    have HC := fun w2 (hb : Below w.heap.size w w2) => Lib.hid (i_ReadDrive s0 pv w2 HZ0.out (HE.out.below hb) (HT.out.below hb) (HX.out.below hb) (HM0.out.below hb) (HV.out.below hb))
    generalize (if rdO s0 then dvP s0 0 else 0) = x0 at HC ⊢
    generalize (if rdO s0 then dvP s0 1 else 0) = x1 at HC ⊢
    generalize (if rdO s0 then dvP s0 2 else 0) = x2 at HC ⊢
    generalize (if rdO s0 then dvP s0 3 else 0) = x3 at HC ⊢
    generalize (if rdO s0 then dvP s0 4 else 0) = x4 at HC ⊢
    generalize (if rdO s0 then dvP s0 5 else 0) = x5 at HC ⊢
    generalize (if rdO s0 then dvP s0 6 else 0) = x6 at HC ⊢
    generalize (if rdO s0 then dvP s0 7 else 0) = x7 at HC ⊢
    generalize (if rdO s0 then dvZ s0 else 0) = z at HC ⊢
    generalize (if rdO s0 then dvE s0 0 else 0) = y0 at HC ⊢
    generalize (if rdO s0 then dvE s0 1 else 0) = y1 at HC ⊢
    generalize (if rdO s0 then dvE s0 2 else 0) = y2 at HC ⊢
    generalize rdO s0 = bb at HC ⊢
    clear HE HT HX HM0 HV
    have B2 : Hid (Below w.heap.size w (w1.alloc (.cells #[.float .f32 x0, .float .f32 x1, .float .f32 x2, .float .f32 x3, .float .f32 x4, .float .f32 x5, .float .f32 x6, .float .f32 x7, .int .i64 z, .float .f32 y0, .float .f32 y1, .float .f32 y2] 26))) := Lib.hid (B1.out.alloc B1.out.size _)
    have K2 : Hid (BlkL (w1.alloc (.cells #[.float .f32 x0, .float .f32 x1, .float .f32 x2, .float .f32 x3, .float .f32 x4, .float .f32 x5, .float .f32 x6, .float .f32 x7, .int .i64 z, .float .f32 y0, .float .f32 y1, .float .f32 y2] 26)) w1.heap.size [.float .f32 x0, .float .f32 x1, .float .f32 x2, .float .f32 x3, .float .f32 x4, .float .f32 x5, .float .f32 x6, .float .f32 x7, .int .i64 z, .float .f32 y0, .float .f32 y1, .float .f32 y2]) := Lib.hid (blkL_at w1 #[.float .f32 x0, .float .f32 x1, .float .f32 x2, .float .f32 x3, .float .f32 x4, .float .f32 x5, .float .f32 x6, .float .f32 x7, .int .i64 z, .float .f32 y0, .float .f32 y1, .float .f32 y2] _ rfl)
    obtain ⟨w2, hw2⟩ : ∃ zz, zz = w1.alloc (.cells #[.float .f32 x0, .float .f32 x1, .float .f32 x2, .float .f32 x3, .float .f32 x4, .float .f32 x5, .float .f32 x6, .float .f32 x7, .int .i64 z, .float .f32 y0, .float .f32 y1, .float .f32 y2] 26) := ⟨_, rfl⟩
    rw [← hw2] at B2 K2
    go_upto_region 4 with fail
    rw [← hw2]
    clear hw2
    go_wp2_with fail
    refine (HC _ B2.out).out.mono ?_
    rintro e w3 ⟨rfl, b⟩
    have B3 : Hid (Below w.heap.size w (w3.alloc (.cells #[.float .f32 x0, .float .f32 x1, .float .f32 x2, .float .f32 x3, .float .f32 x4, .float .f32 x5, .float .f32 x6, .float .f32 x7, .int .i64 z, .float .f32 y0, .float .f32 y1, .float .f32 y2] 26))) := Lib.hid ((below_of B2.out B2.out.size b).alloc (below_of B2.out B2.out.size b).size _)
    have K3 : Hid (BlkL (w3.alloc (.cells #[.float .f32 x0, .float .f32 x1, .float .f32 x2, .float .f32 x3, .float .f32 x4, .float .f32 x5, .float .f32 x6, .float .f32 x7, .int .i64 z, .float .f32 y0, .float .f32 y1, .float .f32 y2] 26)) w1.heap.size [.float .f32 x0, .float .f32 x1, .float .f32 x2, .float .f32 x3, .float .f32 x4, .float .f32 x5, .float .f32 x6, .float .f32 x7, .int .i64 z, .float .f32 y0, .float .f32 y1, .float .f32 y2]) := Lib.hid ((K2.out.below b).below ((Below.refl _ _).alloc (Nat.le_refl _) _))
    have L3 : Hid (BlkL (w3.alloc (.cells #[.float .f32 x0, .float .f32 x1, .float .f32 x2, .float .f32 x3, .float .f32 x4, .float .f32 x5, .float .f32 x6, .float .f32 x7, .int .i64 z, .float .f32 y0, .float .f32 y1, .float .f32 y2] 26)) w3.heap.size [.float .f32 x0, .float .f32 x1, .float .f32 x2, .float .f32 x3, .float .f32 x4, .float .f32 x5, .float .f32 x6, .float .f32 x7, .int .i64 z, .float .f32 y0, .float .f32 y1, .float .f32 y2]) := Lib.hid (blkL_at w3 #[.float .f32 x0, .float .f32 x1, .float .f32 x2, .float .f32 x3, .float .f32 x4, .float .f32 x5, .float .f32 x6, .float .f32 x7, .int .i64 z, .float .f32 y0, .float .f32 y1, .float .f32 y2] _ rfl)
    clear b K2 B2 HC
    obtain ⟨q_0, q_1, q_2, q_3, q_4, q_5, q_6, q_7, q_8, q_9, q_10, q_11⟩ : _ ∧ _ ∧ _ ∧ _ ∧ _ ∧ _ ∧ _ ∧ _ ∧ _ ∧ _ ∧ _ ∧ _ := ⟨(K3.out.2 0 _ rfl).1, (K3.out.2 1 _ rfl).1, (K3.out.2 2 _ rfl).1, (K3.out.2 3 _ rfl).1, (K3.out.2 4 _ rfl).1, (K3.out.2 5 _ rfl).1, (K3.out.2 6 _ rfl).1, (K3.out.2 7 _ rfl).1, (K3.out.2 8 _ rfl).1, (K3.out.2 9 _ rfl).1, (K3.out.2 10 _ rfl).1, (K3.out.2 11 _ rfl).1⟩
    obtain ⟨z_0, z_1, z_2, z_3, z_4, z_5, z_6, z_7, z_8, z_9, z_10, z_11⟩ : _ ∧ _ ∧ _ ∧ _ ∧ _ ∧ _ ∧ _ ∧ _ ∧ _ ∧ _ ∧ _ ∧ _ := ⟨(L3.out.2 0 _ rfl).1, (L3.out.2 1 _ rfl).1, (L3.out.2 2 _ rfl).1, (L3.out.2 3 _ rfl).1, (L3.out.2 4 _ rfl).1, (L3.out.2 5 _ rfl).1, (L3.out.2 6 _ rfl).1, (L3.out.2 7 _ rfl).1, (L3.out.2 8 _ rfl).1, (L3.out.2 9 _ rfl).1, (L3.out.2 10 _ rfl).1, (L3.out.2 11 _ rfl).1⟩
    go_upto_region 5 with fail
    obtain ⟨w4, hw4⟩ : ∃ zz, zz = w3.alloc (.cells #[.float .f32 x0, .float .f32 x1, .float .f32 x2, .float .f32 x3, .float .f32 x4, .float .f32 x5, .float .f32 x6, .float .f32 x7, .int .i64 z, .float .f32 y0, .float .f32 y1, .float .f32 y2] 26) := ⟨_, rfl⟩
    rw [← hw4] at q_0 z_0 q_1 z_1 q_2 z_2 q_3 z_3 q_4 z_4 q_5 z_5 q_6 z_6 q_7 z_7 q_8 z_8 q_9 z_9 q_10 z_10 q_11 z_11 ⊢
    rw [← hw4] at B3
    clear hw4 K3 L3
    go_wp2_with fail
    refine (l_eqDrive x0 x1 x2 x3 x4 x5 x6 x7 z y0 y1 y2 x0 x1 x2 x3 x4 x5 x6 x7 z y0 y1 y2 _ ⟨rfl, rfl, rfl, rfl, rfl, rfl, rfl, rfl⟩ rfl ⟨rfl, rfl, rfl⟩).mono ?_
    rintro e w5 ⟨rfl, b⟩
    have B5 := Lib.hid (below_of B3.out B3.out.size b)
    clear b
    have hbb : (bb == bb) = true := by simp
    go_wp2
    go_ret
    exact ⟨rfl, B5.out⟩
  · have hbi0 : (1048576 : Int) < (s0.size : Int) := by omega
    clear HE HT HX HM0 HV
    go_enter Tryz.func3, Tryz.ntmps3
    go_wp2
    go_ret
    exact ⟨rfl, Below.refl _ _⟩
end Go.Proofs.YtknabmknboffgaaGreatDoor
