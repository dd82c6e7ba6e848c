/- Plants and drives: how they are copied and compared, and what is valid. No statement is proved here. -/
import Derived.Test.YtknabmknboffgaaGreatDoorAir
import Derived.Test.YtknabmknboffgaaGreatDoorKey
import Derived.Test.YtknabmknboffgaaGreatDoorGd
namespace Go.Proofs.YtknabmknboffgaaGreatDoor
open Go Go.RowKit
def C8 (w : World) (B : Nat) (p0 p1 p2 p3 p4 p5 p6 p7 : Nat) : Prop := w.cell? ⟨B, 0, none⟩ = some (.float .f32 p0) ∧ w.cell? ⟨B, 1, none⟩ = some (.float .f32 p1) ∧ w.cell? ⟨B, 2, none⟩ = some (.float .f32 p2) ∧ w.cell? ⟨B, 3, none⟩ = some (.float .f32 p3) ∧
  w.cell? ⟨B, 4, none⟩ = some (.float .f32 p4) ∧ w.cell? ⟨B, 5, none⟩ = some (.float .f32 p5) ∧ w.cell? ⟨B, 6, none⟩ = some (.float .f32 p6) ∧ w.cell? ⟨B, 7, none⟩ = some (.float .f32 p7)
def C12 (w : World) (B : Nat) (p0 p1 p2 p3 p4 p5 p6 p7 : Nat) (st : Int) (sp pi en : Nat) : Prop := C8 w B p0 p1 p2 p3 p4 p5 p6 p7 ∧ w.cell? ⟨B, 8, none⟩ = some (.int .i64 st) ∧ w.cell? ⟨B, 9, none⟩ = some (.float .f32 sp) ∧ w.cell? ⟨B, 10, none⟩ = some (.float .f32 pi) ∧ w.cell? ⟨B, 11, none⟩ = some (.float .f32 en)
theorem BlkL.c8 {w : World} {B : Nat} {p0 p1 p2 p3 p4 p5 p6 p7 : Nat} (h : BlkL w B [.float .f32 p0, .float .f32 p1, .float .f32 p2, .float .f32 p3, .float .f32 p4, .float .f32 p5, .float .f32 p6, .float .f32 p7]) : C8 w B p0 p1 p2 p3 p4 p5 p6 p7 := ⟨(h.2 0 _ rfl).1, (h.2 1 _ rfl).1, (h.2 2 _ rfl).1, (h.2 3 _ rfl).1, (h.2 4 _ rfl).1, (h.2 5 _ rfl).1, (h.2 6 _ rfl).1, (h.2 7 _ rfl).1⟩
theorem BlkL.c12 {w : World} {B : Nat} {p0 p1 p2 p3 p4 p5 p6 p7 : Nat} {st : Int} {sp pi en : Nat} (h : BlkL w B [.float .f32 p0, .float .f32 p1, .float .f32 p2, .float .f32 p3, .float .f32 p4, .float .f32 p5, .float .f32 p6, .float .f32 p7, .int .i64 st, .float .f32 sp, .float .f32 pi, .float .f32 en]) : C12 w B p0 p1 p2 p3 p4 p5 p6 p7 st sp pi en :=
  ⟨⟨(h.2 0 _ rfl).1, (h.2 1 _ rfl).1, (h.2 2 _ rfl).1, (h.2 3 _ rfl).1, (h.2 4 _ rfl).1, (h.2 5 _ rfl).1, (h.2 6 _ rfl).1, (h.2 7 _ rfl).1⟩, (h.2 8 _ rfl).1, (h.2 9 _ rfl).1, (h.2 10 _ rfl).1, (h.2 11 _ rfl).1⟩
theorem C8.draws {w : World} {B : Nat} {p0 p1 p2 p3 p4 p5 p6 p7 : Nat} (h : C8 w B p0 p1 p2 p3 p4 p5 p6 p7) (n : Nat) : C8 (w.drewN n) B p0 p1 p2 p3 p4 p5 p6 p7 := h
theorem C12.draws {w : World} {B : Nat} {p0 p1 p2 p3 p4 p5 p6 p7 : Nat} {st : Int} {sp pi en : Nat} (h : C12 w B p0 p1 p2 p3 p4 p5 p6 p7 st sp pi en) (n : Nat) : C12 (w.drewN n) B p0 p1 p2 p3 p4 p5 p6 p7 st sp pi en := h
/-- a valid plant -/
def plantV (p0 p1 p2 p3 p4 p5 p6 p7 : Nat) : Bool := posi p0 && (amount p1 && (posi p2 && (posi p3 && (fin .f32 p4 && (gtr32 p4 p3 && (posi p5 && (fin .f32 p6 && (gtr32 p6 p5 && posi p7))))))))
def plantR (p0 _p1 p2 p3 p4 p5 p6 p7 : Nat) : Bool := gtr32 p0 0 && (gtr32 p2 0 && (gtr32 p3 0 && (gtr32 p4 p3 && (gtr32 p5 0 && (gtr32 p6 p5 && gtr32 p7 0)))))
def stateV (st : Int) : Bool := decide (0 ≤ st) && decide (st ≤ 4)
/-- a valid drive -/
def driveV (p0 p1 p2 p3 p4 p5 p6 p7 : Nat) (st : Int) (sp pi en : Nat) : Bool := plantV p0 p1 p2 p3 p4 p5 p6 p7 && (stateV st && (amount sp && (within pi 0 1065353216 && fin .f32 en)))
theorem key_zero : key 0 = 0 := by decide +kernel
theorem geq_key {a b : Nat} (ha : fin .f32 a = true) (hb : fin .f32 b = true) : geq32 a b = decide (key b ≤ key a) := by
  unfold geq32; rw [order_key ha hb, cmp_gt, cmp_eq]
  by_cases h : key b < key a
  · have h3 : key b ≤ key a := by omega
    rw [decide_eq_true h, decide_eq_true h3]; rfl
  · by_cases h2 : key a = key b
    · have h3 : key b ≤ key a := by omega
      rw [decide_eq_false h, decide_eq_true h2, decide_eq_true h3]; rfl
    · have h3 : ¬ key b ≤ key a := by omega
      rw [decide_eq_false h, decide_eq_false h2, decide_eq_false h3]; rfl
theorem amount_of_gtr {x : Nat} (hf : fin .f32 x = true) (h : gtr32 x 0 = true) : amount x = true := by
  rw [gtr_key hf fin_zero, key_zero, decide_eq_true_eq] at h
  unfold amount; rw [hf, geq_key hf fin_zero, key_zero, Bool.true_and, decide_eq_true_eq]; omega
theorem gtr_above {x y : Nat} (hx : fin .f32 x = true) (hy : fin .f32 y = true) (h0 : gtr32 y 0 = true) (h : gtr32 x y = true) : gtr32 x 0 = true := by
  rw [gtr_key hy fin_zero, key_zero, decide_eq_true_eq] at h0
  rw [gtr_key hx hy, decide_eq_true_eq] at h
  rw [gtr_key hx fin_zero, key_zero, decide_eq_true_eq]; omega
theorem plantV_eq (p0 p1 p2 p3 p4 p5 p6 p7 : Nat) : plantV p0 p1 p2 p3 p4 p5 p6 p7 = (amts [p0, p1, p2, p3, p4, p5, p6, p7] 8 && plantR p0 p1 p2 p3 p4 p5 p6 p7) := by
  rw [Bool.eq_iff_iff]
  unfold plantV plantR
  simp only [amts, posi, Bool.and_eq_true, Bool.true_and, List.getD_cons_zero, List.getD_cons_succ]
  constructor
  · rintro ⟨⟨a0, b0⟩, a1, ⟨a2, b2⟩, ⟨a3, b3⟩, a4, b4, ⟨a5, b5⟩, a6, b6, a7, b7⟩
    exact ⟨⟨⟨⟨⟨⟨⟨⟨amount_of_gtr a0 b0, a1⟩, amount_of_gtr a2 b2⟩, amount_of_gtr a3 b3⟩, amount_of_gtr a4 (gtr_above a4 a3 b3 b4)⟩, amount_of_gtr a5 b5⟩, amount_of_gtr a6 (gtr_above a6 a5 b5 b6)⟩, amount_of_gtr a7 b7⟩, b0, b2, b3, b4, b5, b6, b7⟩
  · rintro ⟨⟨⟨⟨⟨⟨⟨⟨a0, a1⟩, a2⟩, a3⟩, a4⟩, a5⟩, a6⟩, a7⟩, b0, b2, b3, b4, b5, b6, b7⟩
    have hf : ∀ {x}, amount x = true → fin .f32 x = true := fun h => by unfold amount at h; rw [Bool.and_eq_true] at h; exact h.1
    exact ⟨⟨hf a0, b0⟩, a1, ⟨hf a2, b2⟩, ⟨hf a3, b3⟩, hf a4, b4, ⟨hf a5, b5⟩, hf a6, b6, hf a7, b7⟩
set_option maxHeartbeats 4000000 in
theorem l_eqPlant (p0 p1 p2 p3 p4 p5 p6 p7 : Nat) (q0 q1 q2 q3 q4 q5 q6 q7 : Nat) (w : World) (hc : canon .f32 p0 = canon .f32 q0 ∧ canon .f32 p1 = canon .f32 q1 ∧ canon .f32 p2 = canon .f32 q2 ∧ canon .f32 p3 = canon .f32 q3 ∧ canon .f32 p4 = canon .f32 q4 ∧ canon .f32 p5 = canon .f32 q5 ∧ canon .f32 p6 = canon .f32 q6 ∧ canon .f32 p7 = canon .f32 q7) :
    Calls Tryz.prog 29 #[.agg #[.float .f32 p0, .float .f32 p1, .float .f32 p2, .float .f32 p3, .float .f32 p4, .float .f32 p5, .float .f32 p6, .float .f32 p7], .agg #[.float .f32 q0, .float .f32 q1, .float .f32 q2, .float .f32 q3, .float .f32 q4, .float .f32 q5, .float .f32 q6, .float .f32 q7]] w fun e w' => e = .returned (.bool true) ∧ Below w.heap.size w w' := by
  have HB : ∀ o1 o2, Hid (Below w.heap.size w ((w.alloc o1).alloc o2)) := fun _ _ => Lib.hid (((Below.refl _ _).alloc (Nat.le_refl _) _).alloc (by simp) _)
  obtain ⟨c0, c1, c2, c3, c4, c5, c6, c7⟩ := hc
  have C0 := Lib.hid c0; clear c0
  have C1 := Lib.hid c1; clear c1
  have C2 := Lib.hid c2; clear c2
  have C3 := Lib.hid c3; clear c3
  have C4 := Lib.hid c4; clear c4
  have C5 := Lib.hid c5; clear c5
  have C6 := Lib.hid c6; clear c6
  have C7 := Lib.hid c7; clear c7
  go_enter Tryz.func29, Tryz.ntmps29
  go_wp2_with fail
  refine (sameFloat_yes _ _ _ (by rw [canon_wideV, canon_wideV, C0.out])).mono ?_
  rintro e w' ⟨n0, rfl, rfl⟩
  go_wp2_with fail
  refine (sameFloat_yes _ _ _ (by rw [canon_wideV, canon_wideV, C1.out])).mono ?_
  rintro e w' ⟨n1, rfl, rfl⟩
  go_wp2_with fail
  refine (sameFloat_yes _ _ _ (by rw [canon_wideV, canon_wideV, C2.out])).mono ?_
  rintro e w' ⟨n2, rfl, rfl⟩
  go_wp2_with fail
  refine (sameFloat_yes _ _ _ (by rw [canon_wideV, canon_wideV, C3.out])).mono ?_
  rintro e w' ⟨n3, rfl, rfl⟩
  go_wp2_with fail
  refine (sameFloat_yes _ _ _ (by rw [canon_wideV, canon_wideV, C4.out])).mono ?_
  rintro e w' ⟨n4, rfl, rfl⟩
  go_wp2_with fail
  refine (sameFloat_yes _ _ _ (by rw [canon_wideV, canon_wideV, C5.out])).mono ?_
  rintro e w' ⟨n5, rfl, rfl⟩
  go_wp2_with fail
  refine (sameFloat_yes _ _ _ (by rw [canon_wideV, canon_wideV, C6.out])).mono ?_
  rintro e w' ⟨n6, rfl, rfl⟩
  go_wp2_with fail
  refine (sameFloat_yes _ _ _ (by rw [canon_wideV, canon_wideV, C7.out])).mono ?_
  rintro e w' ⟨n7, rfl, rfl⟩
  go_wp2
  go_ret
  exact ⟨rfl, by repeat (first | exact (HB _ _).out | refine below_draws ?_ _)⟩
set_option maxHeartbeats 4000000 in
theorem l_eqDrive (p0 p1 p2 p3 p4 p5 p6 p7 : Nat) (st : Int) (sp pi en : Nat) (q0 q1 q2 q3 q4 q5 q6 q7 : Nat) (st' : Int) (sp' pi' en' : Nat) (w : World) (hc : canon .f32 p0 = canon .f32 q0 ∧ canon .f32 p1 = canon .f32 q1 ∧ canon .f32 p2 = canon .f32 q2 ∧ canon .f32 p3 = canon .f32 q3 ∧ canon .f32 p4 = canon .f32 q4 ∧ canon .f32 p5 = canon .f32 q5 ∧ canon .f32 p6 = canon .f32 q6 ∧ canon .f32 p7 = canon .f32 q7) (hs : st = st') (hd : canon .f32 sp = canon .f32 sp' ∧ canon .f32 pi = canon .f32 pi' ∧ canon .f32 en = canon .f32 en') :
    Calls Tryz.prog 9 #[.agg #[.float .f32 p0, .float .f32 p1, .float .f32 p2, .float .f32 p3, .float .f32 p4, .float .f32 p5, .float .f32 p6, .float .f32 p7, .int .i64 st, .float .f32 sp, .float .f32 pi, .float .f32 en], .agg #[.float .f32 q0, .float .f32 q1, .float .f32 q2, .float .f32 q3, .float .f32 q4, .float .f32 q5, .float .f32 q6, .float .f32 q7, .int .i64 st', .float .f32 sp', .float .f32 pi', .float .f32 en']] w fun e w' => e = .returned (.bool true) ∧ Below w.heap.size w w' := by
  subst hs
  have HC := Lib.hid hc; clear hc
  obtain ⟨d0, d1, d2⟩ := hd
  have D0 := Lib.hid d0; clear d0
  have D1 := Lib.hid d1; clear d1
  have D2 := Lib.hid d2; clear d2
  have HB : ∀ o1 o2, Hid (Below w.heap.size w ((w.alloc o1).alloc o2)) := fun _ _ => Lib.hid (((Below.refl _ _).alloc (Nat.le_refl _) _).alloc (by simp) _)
  have K1 : ∀ o t, Hid (BlkL ((w.alloc (.cells #[.float .f32 p0, .float .f32 p1, .float .f32 p2, .float .f32 p3, .float .f32 p4, .float .f32 p5, .float .f32 p6, .float .f32 p7, .int .i64 st, .float .f32 sp, .float .f32 pi, .float .f32 en] t)).alloc o) w.heap.size [.float .f32 p0, .float .f32 p1, .float .f32 p2, .float .f32 p3, .float .f32 p4, .float .f32 p5, .float .f32 p6, .float .f32 p7, .int .i64 st, .float .f32 sp, .float .f32 pi, .float .f32 en]) := fun _ _ => Lib.hid ((blkL_at w #[.float .f32 p0, .float .f32 p1, .float .f32 p2, .float .f32 p3, .float .f32 p4, .float .f32 p5, .float .f32 p6, .float .f32 p7, .int .i64 st, .float .f32 sp, .float .f32 pi, .float .f32 en] _ rfl).alloc _)
  have K2 : ∀ o t, Hid (BlkL ((w.alloc o).alloc (.cells #[.float .f32 q0, .float .f32 q1, .float .f32 q2, .float .f32 q3, .float .f32 q4, .float .f32 q5, .float .f32 q6, .float .f32 q7, .int .i64 st, .float .f32 sp', .float .f32 pi', .float .f32 en'] t)) (w.heap.size + 1) [.float .f32 q0, .float .f32 q1, .float .f32 q2, .float .f32 q3, .float .f32 q4, .float .f32 q5, .float .f32 q6, .float .f32 q7, .int .i64 st, .float .f32 sp', .float .f32 pi', .float .f32 en']) := fun _ _ => Lib.hid (blkL_at (w.alloc _) #[.float .f32 q0, .float .f32 q1, .float .f32 q2, .float .f32 q3, .float .f32 q4, .float .f32 q5, .float .f32 q6, .float .f32 q7, .int .i64 st, .float .f32 sp', .float .f32 pi', .float .f32 en'] _ (by simp))
  go_enter Tryz.func9, Tryz.ntmps9
  go_wp2_with fail
  refine (l_eqPlant p0 p1 p2 p3 p4 p5 p6 p7 q0 q1 q2 q3 q4 q5 q6 q7 _ HC.out).mono ?_
  rintro e w1 ⟨rfl, b1⟩
  have L1 : Hid (BlkL w1 w.heap.size [.float .f32 p0, .float .f32 p1, .float .f32 p2, .float .f32 p3, .float .f32 p4, .float .f32 p5, .float .f32 p6, .float .f32 p7, .int .i64 st, .float .f32 sp, .float .f32 pi, .float .f32 en]) := Lib.hid ((K1 _ _).out.below b1)
  have L2 : Hid (BlkL w1 (w.heap.size + 1) [.float .f32 q0, .float .f32 q1, .float .f32 q2, .float .f32 q3, .float .f32 q4, .float .f32 q5, .float .f32 q6, .float .f32 q7, .int .i64 st, .float .f32 sp', .float .f32 pi', .float .f32 en']) := Lib.hid ((K2 _ _).out.below b1)
  have B1 : Hid (Below w.heap.size w w1) := Lib.hid (below_of (HB _ _).out (HB _ _).out.size b1)
  obtain ⟨-, k8, k9, k10, k11⟩ := L1.out.c12
  obtain ⟨-, l8, l9, l10, l11⟩ := L2.out.c12
  clear b1 K1 K2 HB
  go_wp2_with fail
  refine (sameFloat_yes _ _ _ (by rw [canon_wideV, canon_wideV, D0.out])).mono ?_
  rintro e w' ⟨n0, rfl, rfl⟩
  go_wp2_with fail
  refine (sameFloat_yes _ _ _ (by rw [canon_wideV, canon_wideV, D1.out])).mono ?_
  rintro e w' ⟨n1, rfl, rfl⟩
  go_wp2_with fail
  refine (sameFloat_yes _ _ _ (by rw [canon_wideV, canon_wideV, D2.out])).mono ?_
  rintro e w' ⟨n2, rfl, rfl⟩
  go_wp2
  go_ret
  exact ⟨rfl, by repeat (first | exact B1.out | refine below_draws ?_ _)⟩
theorem fl_cells {w : World} {t : TypeId} {n : Nat} (hn : n = w.heap.size) (p0 p1 p2 p3 p4 p5 p6 p7 : Nat) : Fl (w.alloc (.cells #[.float .f32 p0, .float .f32 p1, .float .f32 p2, .float .f32 p3, .float .f32 p4, .float .f32 p5, .float .f32 p6, .float .f32 p7] t)) (some ⟨n, 0, none⟩) [p0, p1, p2, p3, p4, p5, p6, p7] := by
  refine .inr ⟨n, 0, rfl, by subst hn; simp, fun k hk => ?_⟩
  have hc := (blkL_at w #[.float .f32 p0, .float .f32 p1, .float .f32 p2, .float .f32 p3, .float .f32 p4, .float .f32 p5, .float .f32 p6, .float .f32 p7] t hn).2
  rcases k with _ | _ | _ | _ | _ | _ | _ | _ | k
  all_goals first | (rw [Nat.zero_add]; exact (hc _ _ rfl).1) | (simp at hk; done) | skip
  simp at hk; omega
theorem i_numbers (p0 p1 p2 p3 p4 p5 p6 p7 : Nat) (w : World) :
    Calls Tryz.prog 89 #[.agg #[.float .f32 p0, .float .f32 p1, .float .f32 p2, .float .f32 p3, .float .f32 p4, .float .f32 p5, .float .f32 p6, .float .f32 p7]] w fun e w' => ∃ b, e = .returned (.slice (some ⟨b, 0, none⟩) 8 8) ∧ Fl w' (some ⟨b, 0, none⟩) [p0, p1, p2, p3, p4, p5, p6, p7] ∧ Below w.heap.size w w' := by
  have HB : ∀ o1 o2, Hid (Below w.heap.size w ((w.alloc o1).alloc o2)) := fun _ _ => Lib.hid (((Below.refl _ _).alloc (Nat.le_refl _) _).alloc (by simp) _)
  have HF : ∀ o t, Hid (Fl ((w.alloc o).alloc (.cells #[.float .f32 p0, .float .f32 p1, .float .f32 p2, .float .f32 p3, .float .f32 p4, .float .f32 p5, .float .f32 p6, .float .f32 p7] t)) (some ⟨w.heap.size + 1, 0, none⟩) [p0, p1, p2, p3, p4, p5, p6, p7]) := fun _ _ => Lib.hid (fl_cells (by simp) p0 p1 p2 p3 p4 p5 p6 p7)
  go_enter Tryz.func89, Tryz.ntmps89
  go_wp2
  go_ret
  exact ⟨_, rfl, (HF _ _).out, (HB _ _).out⟩
set_option maxHeartbeats 8000000 in
theorem i_ValidPlant (p0 p1 p2 p3 p4 p5 p6 p7 : Nat) (w : World) :
    Calls Tryz.prog 55 #[.agg #[.float .f32 p0, .float .f32 p1, .float .f32 p2, .float .f32 p3, .float .f32 p4, .float .f32 p5, .float .f32 p6, .float .f32 p7]] w fun e w' => e = .returned (.bool (plantV p0 p1 p2 p3 p4 p5 p6 p7)) ∧ Below w.heap.size w w' := by
  have HB : ∀ o1, Hid (Below w.heap.size w (w.alloc o1)) := fun _ => Lib.hid ((Below.refl _ _).alloc (Nat.le_refl _) _)
  have K1 : ∀ t, Hid (BlkL (w.alloc (.cells #[.float .f32 p0, .float .f32 p1, .float .f32 p2, .float .f32 p3, .float .f32 p4, .float .f32 p5, .float .f32 p6, .float .f32 p7] t)) w.heap.size [.float .f32 p0, .float .f32 p1, .float .f32 p2, .float .f32 p3, .float .f32 p4, .float .f32 p5, .float .f32 p6, .float .f32 p7]) := fun _ => Lib.hid (blkL_at w #[.float .f32 p0, .float .f32 p1, .float .f32 p2, .float .f32 p3, .float .f32 p4, .float .f32 p5, .float .f32 p6, .float .f32 p7] _ rfl)
  go_enter Tryz.func55, Tryz.ntmps55
  go_wp2_with fail
  refine (i_numbers p0 p1 p2 p3 p4 p5 p6 p7 _).mono ?_
  rintro e w1 ⟨b, rfl, hF, b1⟩
  have L1 : Hid (BlkL w1 w.heap.size [.float .f32 p0, .float .f32 p1, .float .f32 p2, .float .f32 p3, .float .f32 p4, .float .f32 p5, .float .f32 p6, .float .f32 p7]) := Lib.hid ((K1 _).out.below b1)
  have B1 : Hid (Below w.heap.size w w1) := Lib.hid (below_of (HB _).out (HB _).out.size b1)
  have HF := Lib.hid hF
  clear b1 K1 HB hF
  go_wp2_with fail
  refine (i_hasNoAmount (some ⟨b, 0, none⟩) 8 [p0, p1, p2, p3, p4, p5, p6, p7] _ HF.out (by simp)).mono ?_
  rintro e w' ⟨n, rfl, rfl⟩
  obtain ⟨k0, k1, k2, k3, k4, k5, k6, k7⟩ := L1.out.c8
  cases pa : amts [p0, p1, p2, p3, p4, p5, p6, p7] 8
  · go_wp2
    go_ret
    exact ⟨by rw [plantV_eq, pa]; rfl, below_draws B1.out _⟩
  · have PA := Lib.hid pa; clear pa
    cases g0 : (FloatKind.f32.format.order p0 0 == some .gt)
    · go_wp2
      go_ret
      exact ⟨by rw [plantV_eq, PA.out]; unfold plantR gtr32; rw [g0]; rfl, below_draws B1.out _⟩
    · skip
      cases g1 : (FloatKind.f32.format.order p2 0 == some .gt)
      · go_wp2
        go_ret
        exact ⟨by rw [plantV_eq, PA.out]; unfold plantR gtr32; rw [g0, g1]; rfl, below_draws B1.out _⟩
      · skip
        cases g2 : (FloatKind.f32.format.order p3 0 == some .gt)
        · go_wp2
          go_ret
          exact ⟨by rw [plantV_eq, PA.out]; unfold plantR gtr32; rw [g0, g1, g2]; rfl, below_draws B1.out _⟩
        · skip
          cases g3 : (FloatKind.f32.format.order p4 p3 == some .gt)
          · go_wp2
            go_ret
            exact ⟨by rw [plantV_eq, PA.out]; unfold plantR gtr32; rw [g0, g1, g2, g3]; rfl, below_draws B1.out _⟩
          · skip
            cases g4 : (FloatKind.f32.format.order p5 0 == some .gt)
            · go_wp2
              go_ret
              exact ⟨by rw [plantV_eq, PA.out]; unfold plantR gtr32; rw [g0, g1, g2, g3, g4]; rfl, below_draws B1.out _⟩
            · skip
              cases g5 : (FloatKind.f32.format.order p6 p5 == some .gt)
              · go_wp2
                go_ret
                exact ⟨by rw [plantV_eq, PA.out]; unfold plantR gtr32; rw [g0, g1, g2, g3, g4, g5]; rfl, below_draws B1.out _⟩
              · skip
                cases g6 : (FloatKind.f32.format.order p7 0 == some .gt)
                · go_wp2
                  go_ret
                  exact ⟨by rw [plantV_eq, PA.out]; unfold plantR gtr32; rw [g0, g1, g2, g3, g4, g5, g6]; rfl, below_draws B1.out _⟩
                · skip
                  go_wp2
                  go_ret
                  exact ⟨by rw [plantV_eq, PA.out]; unfold plantR gtr32; rw [g0, g1, g2, g3, g4, g5, g6]; rfl, below_draws B1.out _⟩
set_option maxHeartbeats 8000000 in
theorem s_l05Plant (p0 p1 p2 p3 p4 p5 p6 p7 : Nat) (B : Nat) (w : World) (hk : C8 w B p0 p1 p2 p3 p4 p5 p6 p7) :
    Calls Tryz.prog 85 #[.pointer (some ⟨B, 0, none⟩)] w fun e w' => ∃ n, e = .returned (.bool (plantV p0 p1 p2 p3 p4 p5 p6 p7)) ∧ w' = w.drewN n := by
  obtain ⟨k0, k1, k2, k3, k4, k5, k6, k7⟩ := hk
  have Q0 : ∀ W, Hid (Calls Tryz.prog 105 #[.float .f32 p0] W fun e w' => ∃ n, e = .returned (.bool (posi p0)) ∧ w' = W.drewN n) := fun W => Lib.hid (s_l02Above _ _)
  have Q1 : ∀ W, Hid (Calls Tryz.prog 86 #[.float .f32 p1] W fun e w' => ∃ n, e = .returned (.bool (amount p1)) ∧ w' = W.drewN n) := fun W => Lib.hid (s_l02Least _ _)
  have Q2 : ∀ W, Hid (Calls Tryz.prog 105 #[.float .f32 p2] W fun e w' => ∃ n, e = .returned (.bool (posi p2)) ∧ w' = W.drewN n) := fun W => Lib.hid (s_l02Above _ _)
  have Q3 : ∀ W, Hid (Calls Tryz.prog 105 #[.float .f32 p3] W fun e w' => ∃ n, e = .returned (.bool (posi p3)) ∧ w' = W.drewN n) := fun W => Lib.hid (s_l02Above _ _)
  have Q4 : ∀ W, Hid (Calls Tryz.prog 87 #[.float .f32 p4] W fun e w' => ∃ n, e = .returned (.bool (fin .f32 p4)) ∧ w' = W.drewN n) := fun W => Lib.hid (s_l01Finite _ _)
  have P5 : Hid ((FloatKind.f32.format.order p4 p3 == some .gt) = gtr32 p4 p3) := rfl
  have Q6 : ∀ W, Hid (Calls Tryz.prog 105 #[.float .f32 p5] W fun e w' => ∃ n, e = .returned (.bool (posi p5)) ∧ w' = W.drewN n) := fun W => Lib.hid (s_l02Above _ _)
  have Q7 : ∀ W, Hid (Calls Tryz.prog 87 #[.float .f32 p6] W fun e w' => ∃ n, e = .returned (.bool (fin .f32 p6)) ∧ w' = W.drewN n) := fun W => Lib.hid (s_l01Finite _ _)
  have P8 : Hid ((FloatKind.f32.format.order p6 p5 == some .gt) = gtr32 p6 p5) := rfl
  have Q9 : ∀ W, Hid (Calls Tryz.prog 105 #[.float .f32 p7] W fun e w' => ∃ n, e = .returned (.bool (posi p7)) ∧ w' = W.drewN n) := fun W => Lib.hid (s_l02Above _ _)
  have HE : Hid (plantV p0 p1 p2 p3 p4 p5 p6 p7 = (posi p0 && (amount p1 && (posi p2 && (posi p3 && (fin .f32 p4 && (gtr32 p4 p3 && (posi p5 && (fin .f32 p6 && (gtr32 p6 p5 && (posi p7))))))))))) := rfl
  generalize posi p0 = t0 at Q0 HE
  generalize amount p1 = t1 at Q1 HE
  generalize posi p2 = t2 at Q2 HE
  generalize posi p3 = t3 at Q3 HE
  generalize fin .f32 p4 = t4 at Q4 HE
  generalize gtr32 p4 p3 = t5 at P5 HE
  generalize posi p5 = t6 at Q6 HE
  generalize fin .f32 p6 = t7 at Q7 HE
  generalize gtr32 p6 p5 = t8 at P8 HE
  generalize posi p7 = t9 at Q9 HE
  generalize plantV p0 p1 p2 p3 p4 p5 p6 p7 = tt at HE
  have hdd : ∀ nn j, ∃ mm, (w.drewN nn).drewN j = w.drewN mm := fun nn j => ⟨nn + j, World.drewN_drewN ..⟩
  go_enter Tryz.func85, Tryz.ntmps85
  go_wp2_with fail
  refine wp_region_inv3 (fun iq v => match iq with
    | 0 => v = .pointer (some ⟨B, 0, none⟩)
    | 1 => v = .pointer (some ⟨B, 0, none⟩)
    | 2 => v = .pointer (some ⟨B, 0, none⟩)
    | 3 => v = .float .f32 p0
    | 4 => v = .bool t0
    | 5 => v = .bool t0
    | 6 => Gd t0 true (v = .pointer (some ⟨B, 0, none⟩)) v
    | 7 => Gd t0 true (v = .pointer (some ⟨B, 0, none⟩)) v
    | 8 => Gd t0 true (v = .pointer (some ⟨B, 1, none⟩)) v
    | 9 => Gd t0 true (v = .float .f32 p1) v
    | 10 => Gd t0 true (v = .bool t1) v
    | 11 => v = .bool (t0 && t1)
    | 12 => v = .bool (t0 && t1)
    | 13 => Gd ((t0 && t1)) true (v = .pointer (some ⟨B, 0, none⟩)) v
    | 14 => Gd ((t0 && t1)) true (v = .pointer (some ⟨B, 0, none⟩)) v
    | 15 => Gd ((t0 && t1)) true (v = .pointer (some ⟨B, 2, none⟩)) v
    | 16 => Gd ((t0 && t1)) true (v = .float .f32 p2) v
    | 17 => Gd ((t0 && t1)) true (v = .bool t2) v
    | 18 => v = .bool ((t0 && t1) && t2)
    | 19 => v = .bool ((t0 && t1) && t2)
    | 20 => Gd (((t0 && t1) && t2)) true (v = .pointer (some ⟨B, 0, none⟩)) v
    | 21 => Gd (((t0 && t1) && t2)) true (v = .pointer (some ⟨B, 0, none⟩)) v
    | 22 => Gd (((t0 && t1) && t2)) true (v = .pointer (some ⟨B, 3, none⟩)) v
    | 23 => Gd (((t0 && t1) && t2)) true (v = .float .f32 p3) v
    | 24 => Gd (((t0 && t1) && t2)) true (v = .bool t3) v
    | 25 => v = .bool (((t0 && t1) && t2) && t3)
    | 26 => v = .bool (((t0 && t1) && t2) && t3)
    | 27 => Gd ((((t0 && t1) && t2) && t3)) true (v = .pointer (some ⟨B, 0, none⟩)) v
    | 28 => Gd ((((t0 && t1) && t2) && t3)) true (v = .pointer (some ⟨B, 0, none⟩)) v
    | 29 => Gd ((((t0 && t1) && t2) && t3)) true (v = .pointer (some ⟨B, 4, none⟩)) v
    | 30 => Gd ((((t0 && t1) && t2) && t3)) true (v = .float .f32 p4) v
    | 31 => Gd ((((t0 && t1) && t2) && t3)) true (v = .bool t4) v
    | 32 => v = .bool ((((t0 && t1) && t2) && t3) && t4)
    | 33 => v = .bool ((((t0 && t1) && t2) && t3) && t4)
    | 34 => Gd (((((t0 && t1) && t2) && t3) && t4)) true (v = .pointer (some ⟨B, 0, none⟩)) v
    | 35 => Gd (((((t0 && t1) && t2) && t3) && t4)) true (v = .pointer (some ⟨B, 0, none⟩)) v
    | 36 => Gd (((((t0 && t1) && t2) && t3) && t4)) true (v = .pointer (some ⟨B, 4, none⟩)) v
    | 37 => Gd (((((t0 && t1) && t2) && t3) && t4)) true (v = .float .f32 p4) v
    | 38 => Gd (((((t0 && t1) && t2) && t3) && t4)) true (v = .pointer (some ⟨B, 0, none⟩)) v
    | 39 => Gd (((((t0 && t1) && t2) && t3) && t4)) true (v = .pointer (some ⟨B, 0, none⟩)) v
    | 40 => Gd (((((t0 && t1) && t2) && t3) && t4)) true (v = .pointer (some ⟨B, 3, none⟩)) v
    | 41 => Gd (((((t0 && t1) && t2) && t3) && t4)) true (v = .float .f32 p3) v
    | 42 => Gd (((((t0 && t1) && t2) && t3) && t4)) true (v = .bool t5) v
    | 43 => v = .bool (((((t0 && t1) && t2) && t3) && t4) && t5)
    | 44 => v = .bool (((((t0 && t1) && t2) && t3) && t4) && t5)
    | 45 => Gd ((((((t0 && t1) && t2) && t3) && t4) && t5)) true (v = .pointer (some ⟨B, 0, none⟩)) v
    | 46 => Gd ((((((t0 && t1) && t2) && t3) && t4) && t5)) true (v = .pointer (some ⟨B, 0, none⟩)) v
    | 47 => Gd ((((((t0 && t1) && t2) && t3) && t4) && t5)) true (v = .pointer (some ⟨B, 5, none⟩)) v
    | 48 => Gd ((((((t0 && t1) && t2) && t3) && t4) && t5)) true (v = .float .f32 p5) v
    | 49 => Gd ((((((t0 && t1) && t2) && t3) && t4) && t5)) true (v = .bool t6) v
    | 50 => v = .bool ((((((t0 && t1) && t2) && t3) && t4) && t5) && t6)
    | 51 => v = .bool ((((((t0 && t1) && t2) && t3) && t4) && t5) && t6)
    | 52 => Gd (((((((t0 && t1) && t2) && t3) && t4) && t5) && t6)) true (v = .pointer (some ⟨B, 0, none⟩)) v
    | 53 => Gd (((((((t0 && t1) && t2) && t3) && t4) && t5) && t6)) true (v = .pointer (some ⟨B, 0, none⟩)) v
    | 54 => Gd (((((((t0 && t1) && t2) && t3) && t4) && t5) && t6)) true (v = .pointer (some ⟨B, 6, none⟩)) v
    | 55 => Gd (((((((t0 && t1) && t2) && t3) && t4) && t5) && t6)) true (v = .float .f32 p6) v
    | 56 => Gd (((((((t0 && t1) && t2) && t3) && t4) && t5) && t6)) true (v = .bool t7) v
    | 57 => v = .bool (((((((t0 && t1) && t2) && t3) && t4) && t5) && t6) && t7)
    | 58 => v = .bool (((((((t0 && t1) && t2) && t3) && t4) && t5) && t6) && t7)
    | 59 => Gd ((((((((t0 && t1) && t2) && t3) && t4) && t5) && t6) && t7)) true (v = .pointer (some ⟨B, 0, none⟩)) v
    | 60 => Gd ((((((((t0 && t1) && t2) && t3) && t4) && t5) && t6) && t7)) true (v = .pointer (some ⟨B, 0, none⟩)) v
    | 61 => Gd ((((((((t0 && t1) && t2) && t3) && t4) && t5) && t6) && t7)) true (v = .pointer (some ⟨B, 6, none⟩)) v
    | 62 => Gd ((((((((t0 && t1) && t2) && t3) && t4) && t5) && t6) && t7)) true (v = .float .f32 p6) v
    | 63 => Gd ((((((((t0 && t1) && t2) && t3) && t4) && t5) && t6) && t7)) true (v = .pointer (some ⟨B, 0, none⟩)) v
    | 64 => Gd ((((((((t0 && t1) && t2) && t3) && t4) && t5) && t6) && t7)) true (v = .pointer (some ⟨B, 0, none⟩)) v
    | 65 => Gd ((((((((t0 && t1) && t2) && t3) && t4) && t5) && t6) && t7)) true (v = .pointer (some ⟨B, 5, none⟩)) v
    | 66 => Gd ((((((((t0 && t1) && t2) && t3) && t4) && t5) && t6) && t7)) true (v = .float .f32 p5) v
    | 67 => Gd ((((((((t0 && t1) && t2) && t3) && t4) && t5) && t6) && t7)) true (v = .bool t8) v
    | 68 => v = .bool ((((((((t0 && t1) && t2) && t3) && t4) && t5) && t6) && t7) && t8)
    | 69 => v = .bool ((((((((t0 && t1) && t2) && t3) && t4) && t5) && t6) && t7) && t8)
    | 70 => Gd (((((((((t0 && t1) && t2) && t3) && t4) && t5) && t6) && t7) && t8)) true (v = .pointer (some ⟨B, 0, none⟩)) v
    | 71 => Gd (((((((((t0 && t1) && t2) && t3) && t4) && t5) && t6) && t7) && t8)) true (v = .pointer (some ⟨B, 0, none⟩)) v
    | 72 => Gd (((((((((t0 && t1) && t2) && t3) && t4) && t5) && t6) && t7) && t8)) true (v = .pointer (some ⟨B, 7, none⟩)) v
    | 73 => Gd (((((((((t0 && t1) && t2) && t3) && t4) && t5) && t6) && t7) && t8)) true (v = .float .f32 p7) v
    | 74 => Gd (((((((((t0 && t1) && t2) && t3) && t4) && t5) && t6) && t7) && t8)) true (v = .bool t9) v
    | 75 => v = .bool (((((((((t0 && t1) && t2) && t3) && t4) && t5) && t6) && t7) && t8) && t9)
    | 76 => v = .bool (((((((((t0 && t1) && t2) && t3) && t4) && t5) && t6) && t7) && t8) && t9)
    | _ => False) (fun _ ww => ∃ nn, ww = w.drewN nn) (by kernel_rfl) (by kernel_rfl) ⟨1, rfl⟩ ?hop ?hend
  case hop =>
    intro q o hq listed act w3 hI hnot hcl hall
    obtain ⟨nn, rfl⟩ := hI.cls
    rcases q with _ | _ | _ | _ | _ | _ | _ | _ | _ | _ | _ | _ | _ | _ | _ | _ | _ | _ | _ | _ | _ | _ | _ | _ | _ | _ | _ | _ | _ | _ | _ | _ | _ | _ | _ | _ | _ | _ | _ | _ | _ | _ | _ | _ | _ | _ | _ | _ | _ | _ | _ | _ | _ | _ | _ | _ | _ | _ | _ | _ | _ | _ | _ | _ | _ | _ | _ | _ | _ | _ | _ | _ | _ | _ | _ | _ | _ | q
    · simp at hq; subst hq
      have g0 : act.tmps[0]?.getD undef = .pointer (some ⟨B, 0, none⟩) := hI.kept 0 (by kernel_rfl)
      clear hI hall hnot hcl
      refine .inl ⟨wanted_none rfl, ?_⟩
      unfold Oper.wp
      go_simp
      all_goals exact ⟨_, rfl, rfl, ⟨_, rfl⟩⟩
    · simp at hq; subst hq
      have g3 : act.tmps[3]?.getD undef = .pointer (some ⟨B, 0, none⟩) := hI.has 0 3 rfl (hall ⟨0, .data⟩ (by simp) rfl)
      clear hI hall hnot hcl
      refine .inl ⟨wanted_none rfl, ?_⟩
      unfold Oper.wp
      go_simp
      all_goals exact ⟨_, rfl, rfl, ⟨_, rfl⟩⟩
    · simp at hq; subst hq
      have g4 : act.tmps[4]?.getD undef = .pointer (some ⟨B, 0, none⟩) := hI.has 1 4 rfl (hall ⟨1, .data⟩ (by simp) rfl)
      clear hI hall hnot hcl
      refine .inl ⟨wanted_none rfl, ?_⟩
      unfold Oper.wp
      go_simp
      all_goals exact ⟨_, rfl, rfl, ⟨_, rfl⟩⟩
    · simp at hq; subst hq
      have g5 : act.tmps[5]?.getD undef = .pointer (some ⟨B, 0, none⟩) := hI.has 2 5 rfl (hall ⟨2, .data⟩ (by simp) rfl)
      clear hI hall hnot hcl
      refine .inl ⟨wanted_none rfl, ?_⟩
      unfold Oper.wp
      go_simp
      all_goals exact ⟨_, rfl, rfl, ⟨_, rfl⟩⟩
    · simp at hq; subst hq
      have g6 : act.tmps[6]?.getD undef = .float .f32 p0 := hI.has 3 6 rfl (hall ⟨3, .data⟩ (by simp) rfl)
      clear hI hall hnot hcl
      refine .inl ⟨wanted_none rfl, ?_⟩
      unfold Oper.wp
      go_simp
      refine (Q0 _).out.mono ?_
      rintro e w4 ⟨n4, rfl, rfl⟩
      exact ⟨_, rfl, rfl, hdd _ _⟩
    · simp at hq; subst hq
      have g7 : act.tmps[7]?.getD undef = .bool t0 := hI.has 4 7 rfl (hall ⟨4, .data⟩ (by simp) rfl)
      clear hI hall hnot hcl
      refine .inl ⟨wanted_none rfl, ?_⟩
      unfold Oper.wp
      go_simp
      all_goals exact ⟨_, rfl, rfl, ⟨_, rfl⟩⟩
    · simp at hq; subst hq
      have gg : act.tmps[8]?.getD undef = .bool t0 := hI.has 5 8 rfl (hall ⟨5, .guard⟩ (by simp) rfl)
      rcases Bool.eq_false_or_eq_true t0 with hc | hc
      case inr =>
        exact .inr ⟨(wanted_of rfl rfl (gg.trans (by rw [hc]))).trans rfl, Gd.no hc, ⟨_, rfl⟩⟩
      have g0 : act.tmps[0]?.getD undef = .pointer (some ⟨B, 0, none⟩) := hI.kept 0 (by kernel_rfl)
      clear hI hall hnot hcl
      refine .inl ⟨(wanted_of rfl rfl (gg.trans (by rw [hc]))).trans rfl, ?_⟩
      clear gg
      unfold Oper.wp
      go_simp
      all_goals exact ⟨_, rfl, Gd.yes (by first | rfl | exact hc) rfl, ⟨_, rfl⟩⟩
    · simp at hq; subst hq
      have gg : act.tmps[8]?.getD undef = .bool t0 := hI.has 5 8 rfl (hall ⟨5, .guard⟩ (by simp) rfl)
      rcases Bool.eq_false_or_eq_true t0 with hc | hc
      case inr =>
        exact .inr ⟨(wanted_of rfl rfl (gg.trans (by rw [hc]))).trans rfl, Gd.no hc, ⟨_, rfl⟩⟩
      have g9 : act.tmps[9]?.getD undef = .pointer (some ⟨B, 0, none⟩) := Gd.get (hI.has 6 9 rfl (hall ⟨6, .data⟩ (by simp) rfl)) hc
      clear hI hall hnot hcl
      refine .inl ⟨(wanted_of rfl rfl (gg.trans (by rw [hc]))).trans rfl, ?_⟩
      clear gg
      unfold Oper.wp
      go_simp
      all_goals exact ⟨_, rfl, Gd.yes (by first | rfl | exact hc) rfl, ⟨_, rfl⟩⟩
    · simp at hq; subst hq
      have gg : act.tmps[8]?.getD undef = .bool t0 := hI.has 5 8 rfl (hall ⟨5, .guard⟩ (by simp) rfl)
      rcases Bool.eq_false_or_eq_true t0 with hc | hc
      case inr =>
        exact .inr ⟨(wanted_of rfl rfl (gg.trans (by rw [hc]))).trans rfl, Gd.no hc, ⟨_, rfl⟩⟩
      have g10 : act.tmps[10]?.getD undef = .pointer (some ⟨B, 0, none⟩) := Gd.get (hI.has 7 10 rfl (hall ⟨7, .data⟩ (by simp) rfl)) hc
      clear hI hall hnot hcl
      refine .inl ⟨(wanted_of rfl rfl (gg.trans (by rw [hc]))).trans rfl, ?_⟩
      clear gg
      unfold Oper.wp
      go_simp
      all_goals exact ⟨_, rfl, Gd.yes (by first | rfl | exact hc) rfl, ⟨_, rfl⟩⟩
    · simp at hq; subst hq
      have gg : act.tmps[8]?.getD undef = .bool t0 := hI.has 5 8 rfl (hall ⟨5, .guard⟩ (by simp) rfl)
      rcases Bool.eq_false_or_eq_true t0 with hc | hc
      case inr =>
        exact .inr ⟨(wanted_of rfl rfl (gg.trans (by rw [hc]))).trans rfl, Gd.no hc, ⟨_, rfl⟩⟩
      have g11 : act.tmps[11]?.getD undef = .pointer (some ⟨B, 1, none⟩) := Gd.get (hI.has 8 11 rfl (hall ⟨8, .data⟩ (by simp) rfl)) hc
      clear hI hall hnot hcl
      refine .inl ⟨(wanted_of rfl rfl (gg.trans (by rw [hc]))).trans rfl, ?_⟩
      clear gg
      unfold Oper.wp
      go_simp
      all_goals exact ⟨_, rfl, Gd.yes (by first | rfl | exact hc) rfl, ⟨_, rfl⟩⟩
    · simp at hq; subst hq
      have gg : act.tmps[8]?.getD undef = .bool t0 := hI.has 5 8 rfl (hall ⟨5, .guard⟩ (by simp) rfl)
      rcases Bool.eq_false_or_eq_true t0 with hc | hc
      case inr =>
        exact .inr ⟨(wanted_of rfl rfl (gg.trans (by rw [hc]))).trans rfl, Gd.no hc, ⟨_, rfl⟩⟩
      have g12 : act.tmps[12]?.getD undef = .float .f32 p1 := Gd.get (hI.has 9 12 rfl (hall ⟨9, .data⟩ (by simp) rfl)) hc
      clear hI hall hnot hcl
      refine .inl ⟨(wanted_of rfl rfl (gg.trans (by rw [hc]))).trans rfl, ?_⟩
      clear gg
      unfold Oper.wp
      go_simp
      refine (Q1 _).out.mono ?_
      rintro e w4 ⟨n4, rfl, rfl⟩
      exact ⟨_, rfl, Gd.yes (by first | rfl | exact hc) rfl, hdd _ _⟩
    · simp at hq; subst hq
      have g8 : act.tmps[8]?.getD undef = .bool t0 := hI.has 5 8 rfl (hall ⟨5, .data⟩ (by simp) rfl)
      have G13 := hI.has 10 13 rfl (hall ⟨10, .data⟩ (by simp) rfl)
      clear hI hall hnot hcl
      refine .inl ⟨wanted_none rfl, ?_⟩
      unfold Oper.wp
      rcases Bool.eq_false_or_eq_true t0 with hc | hc
      · rw [hc] at g8
        have g13 := Gd.get G13 hc
        clear G13
        go_simp
        all_goals exact ⟨_, rfl, by first | rfl | (rw [hc]; rfl), ⟨_, rfl⟩⟩
      · rw [hc] at g8
        have g13 := Gd.un G13 hc
        clear G13
        go_simp
        all_goals exact ⟨_, rfl, by first | rfl | (rw [hc]; rfl), ⟨_, rfl⟩⟩
    · simp at hq; subst hq
      have g14 : act.tmps[14]?.getD undef = .bool (t0 && t1) := hI.has 11 14 rfl (hall ⟨11, .data⟩ (by simp) rfl)
      clear hI hall hnot hcl
      refine .inl ⟨wanted_none rfl, ?_⟩
      unfold Oper.wp
      go_simp
      all_goals exact ⟨_, rfl, rfl, ⟨_, rfl⟩⟩
    · simp at hq; subst hq
      have gg : act.tmps[15]?.getD undef = .bool ((t0 && t1)) := hI.has 12 15 rfl (hall ⟨12, .guard⟩ (by simp) rfl)
      rcases Bool.eq_false_or_eq_true ((t0 && t1)) with hc | hc
      case inr =>
        exact .inr ⟨(wanted_of rfl rfl (gg.trans (by rw [hc]))).trans rfl, Gd.no hc, ⟨_, rfl⟩⟩
      have g0 : act.tmps[0]?.getD undef = .pointer (some ⟨B, 0, none⟩) := hI.kept 0 (by kernel_rfl)
      clear hI hall hnot hcl
      refine .inl ⟨(wanted_of rfl rfl (gg.trans (by rw [hc]))).trans rfl, ?_⟩
      clear gg
      unfold Oper.wp
      go_simp
      all_goals exact ⟨_, rfl, Gd.yes (by first | rfl | exact hc) rfl, ⟨_, rfl⟩⟩
    · simp at hq; subst hq
      have gg : act.tmps[15]?.getD undef = .bool ((t0 && t1)) := hI.has 12 15 rfl (hall ⟨12, .guard⟩ (by simp) rfl)
      rcases Bool.eq_false_or_eq_true ((t0 && t1)) with hc | hc
      case inr =>
        exact .inr ⟨(wanted_of rfl rfl (gg.trans (by rw [hc]))).trans rfl, Gd.no hc, ⟨_, rfl⟩⟩
      have g16 : act.tmps[16]?.getD undef = .pointer (some ⟨B, 0, none⟩) := Gd.get (hI.has 13 16 rfl (hall ⟨13, .data⟩ (by simp) rfl)) hc
      clear hI hall hnot hcl
      refine .inl ⟨(wanted_of rfl rfl (gg.trans (by rw [hc]))).trans rfl, ?_⟩
      clear gg
      unfold Oper.wp
      go_simp
      all_goals exact ⟨_, rfl, Gd.yes (by first | rfl | exact hc) rfl, ⟨_, rfl⟩⟩
    · simp at hq; subst hq
      have gg : act.tmps[15]?.getD undef = .bool ((t0 && t1)) := hI.has 12 15 rfl (hall ⟨12, .guard⟩ (by simp) rfl)
      rcases Bool.eq_false_or_eq_true ((t0 && t1)) with hc | hc
      case inr =>
        exact .inr ⟨(wanted_of rfl rfl (gg.trans (by rw [hc]))).trans rfl, Gd.no hc, ⟨_, rfl⟩⟩
      have g17 : act.tmps[17]?.getD undef = .pointer (some ⟨B, 0, none⟩) := Gd.get (hI.has 14 17 rfl (hall ⟨14, .data⟩ (by simp) rfl)) hc
      clear hI hall hnot hcl
      refine .inl ⟨(wanted_of rfl rfl (gg.trans (by rw [hc]))).trans rfl, ?_⟩
      clear gg
      unfold Oper.wp
      go_simp
      all_goals exact ⟨_, rfl, Gd.yes (by first | rfl | exact hc) rfl, ⟨_, rfl⟩⟩
    · simp at hq; subst hq
      have gg : act.tmps[15]?.getD undef = .bool ((t0 && t1)) := hI.has 12 15 rfl (hall ⟨12, .guard⟩ (by simp) rfl)
      rcases Bool.eq_false_or_eq_true ((t0 && t1)) with hc | hc
      case inr =>
        exact .inr ⟨(wanted_of rfl rfl (gg.trans (by rw [hc]))).trans rfl, Gd.no hc, ⟨_, rfl⟩⟩
      have g18 : act.tmps[18]?.getD undef = .pointer (some ⟨B, 2, none⟩) := Gd.get (hI.has 15 18 rfl (hall ⟨15, .data⟩ (by simp) rfl)) hc
      clear hI hall hnot hcl
      refine .inl ⟨(wanted_of rfl rfl (gg.trans (by rw [hc]))).trans rfl, ?_⟩
      clear gg
      unfold Oper.wp
      go_simp
      all_goals exact ⟨_, rfl, Gd.yes (by first | rfl | exact hc) rfl, ⟨_, rfl⟩⟩
    · simp at hq; subst hq
      have gg : act.tmps[15]?.getD undef = .bool ((t0 && t1)) := hI.has 12 15 rfl (hall ⟨12, .guard⟩ (by simp) rfl)
      rcases Bool.eq_false_or_eq_true ((t0 && t1)) with hc | hc
      case inr =>
        exact .inr ⟨(wanted_of rfl rfl (gg.trans (by rw [hc]))).trans rfl, Gd.no hc, ⟨_, rfl⟩⟩
      have g19 : act.tmps[19]?.getD undef = .float .f32 p2 := Gd.get (hI.has 16 19 rfl (hall ⟨16, .data⟩ (by simp) rfl)) hc
      clear hI hall hnot hcl
      refine .inl ⟨(wanted_of rfl rfl (gg.trans (by rw [hc]))).trans rfl, ?_⟩
      clear gg
      unfold Oper.wp
      go_simp
      refine (Q2 _).out.mono ?_
      rintro e w4 ⟨n4, rfl, rfl⟩
      exact ⟨_, rfl, Gd.yes (by first | rfl | exact hc) rfl, hdd _ _⟩
    · simp at hq; subst hq
      have g15 : act.tmps[15]?.getD undef = .bool (t0 && t1) := hI.has 12 15 rfl (hall ⟨12, .data⟩ (by simp) rfl)
      have G20 := hI.has 17 20 rfl (hall ⟨17, .data⟩ (by simp) rfl)
      clear hI hall hnot hcl
      refine .inl ⟨wanted_none rfl, ?_⟩
      unfold Oper.wp
      rcases Bool.eq_false_or_eq_true ((t0 && t1)) with hc | hc
      · rw [hc] at g15
        have g20 := Gd.get G20 hc
        clear G20
        go_simp
        all_goals exact ⟨_, rfl, by first | rfl | (rw [hc]; rfl), ⟨_, rfl⟩⟩
      · rw [hc] at g15
        have g20 := Gd.un G20 hc
        clear G20
        go_simp
        all_goals exact ⟨_, rfl, by first | rfl | (rw [hc]; rfl), ⟨_, rfl⟩⟩
    · simp at hq; subst hq
      have g21 : act.tmps[21]?.getD undef = .bool ((t0 && t1) && t2) := hI.has 18 21 rfl (hall ⟨18, .data⟩ (by simp) rfl)
      clear hI hall hnot hcl
      refine .inl ⟨wanted_none rfl, ?_⟩
      unfold Oper.wp
      go_simp
      all_goals exact ⟨_, rfl, rfl, ⟨_, rfl⟩⟩
    · simp at hq; subst hq
      have gg : act.tmps[22]?.getD undef = .bool (((t0 && t1) && t2)) := hI.has 19 22 rfl (hall ⟨19, .guard⟩ (by simp) rfl)
      rcases Bool.eq_false_or_eq_true (((t0 && t1) && t2)) with hc | hc
      case inr =>
        exact .inr ⟨(wanted_of rfl rfl (gg.trans (by rw [hc]))).trans rfl, Gd.no hc, ⟨_, rfl⟩⟩
      have g0 : act.tmps[0]?.getD undef = .pointer (some ⟨B, 0, none⟩) := hI.kept 0 (by kernel_rfl)
      clear hI hall hnot hcl
      refine .inl ⟨(wanted_of rfl rfl (gg.trans (by rw [hc]))).trans rfl, ?_⟩
      clear gg
      unfold Oper.wp
      go_simp
      all_goals exact ⟨_, rfl, Gd.yes (by first | rfl | exact hc) rfl, ⟨_, rfl⟩⟩
    · simp at hq; subst hq
      have gg : act.tmps[22]?.getD undef = .bool (((t0 && t1) && t2)) := hI.has 19 22 rfl (hall ⟨19, .guard⟩ (by simp) rfl)
      rcases Bool.eq_false_or_eq_true (((t0 && t1) && t2)) with hc | hc
      case inr =>
        exact .inr ⟨(wanted_of rfl rfl (gg.trans (by rw [hc]))).trans rfl, Gd.no hc, ⟨_, rfl⟩⟩
      have g23 : act.tmps[23]?.getD undef = .pointer (some ⟨B, 0, none⟩) := Gd.get (hI.has 20 23 rfl (hall ⟨20, .data⟩ (by simp) rfl)) hc
      clear hI hall hnot hcl
      refine .inl ⟨(wanted_of rfl rfl (gg.trans (by rw [hc]))).trans rfl, ?_⟩
      clear gg
      unfold Oper.wp
      go_simp
      all_goals exact ⟨_, rfl, Gd.yes (by first | rfl | exact hc) rfl, ⟨_, rfl⟩⟩
    · simp at hq; subst hq
      have gg : act.tmps[22]?.getD undef = .bool (((t0 && t1) && t2)) := hI.has 19 22 rfl (hall ⟨19, .guard⟩ (by simp) rfl)
      rcases Bool.eq_false_or_eq_true (((t0 && t1) && t2)) with hc | hc
      case inr =>
        exact .inr ⟨(wanted_of rfl rfl (gg.trans (by rw [hc]))).trans rfl, Gd.no hc, ⟨_, rfl⟩⟩
      have g24 : act.tmps[24]?.getD undef = .pointer (some ⟨B, 0, none⟩) := Gd.get (hI.has 21 24 rfl (hall ⟨21, .data⟩ (by simp) rfl)) hc
      clear hI hall hnot hcl
      refine .inl ⟨(wanted_of rfl rfl (gg.trans (by rw [hc]))).trans rfl, ?_⟩
      clear gg
      unfold Oper.wp
      go_simp
      all_goals exact ⟨_, rfl, Gd.yes (by first | rfl | exact hc) rfl, ⟨_, rfl⟩⟩
    · simp at hq; subst hq
      have gg : act.tmps[22]?.getD undef = .bool (((t0 && t1) && t2)) := hI.has 19 22 rfl (hall ⟨19, .guard⟩ (by simp) rfl)
      rcases Bool.eq_false_or_eq_true (((t0 && t1) && t2)) with hc | hc
      case inr =>
        exact .inr ⟨(wanted_of rfl rfl (gg.trans (by rw [hc]))).trans rfl, Gd.no hc, ⟨_, rfl⟩⟩
      have g25 : act.tmps[25]?.getD undef = .pointer (some ⟨B, 3, none⟩) := Gd.get (hI.has 22 25 rfl (hall ⟨22, .data⟩ (by simp) rfl)) hc
      clear hI hall hnot hcl
      refine .inl ⟨(wanted_of rfl rfl (gg.trans (by rw [hc]))).trans rfl, ?_⟩
      clear gg
      unfold Oper.wp
      go_simp
      all_goals exact ⟨_, rfl, Gd.yes (by first | rfl | exact hc) rfl, ⟨_, rfl⟩⟩
    · simp at hq; subst hq
      have gg : act.tmps[22]?.getD undef = .bool (((t0 && t1) && t2)) := hI.has 19 22 rfl (hall ⟨19, .guard⟩ (by simp) rfl)
      rcases Bool.eq_false_or_eq_true (((t0 && t1) && t2)) with hc | hc
      case inr =>
        exact .inr ⟨(wanted_of rfl rfl (gg.trans (by rw [hc]))).trans rfl, Gd.no hc, ⟨_, rfl⟩⟩
      have g26 : act.tmps[26]?.getD undef = .float .f32 p3 := Gd.get (hI.has 23 26 rfl (hall ⟨23, .data⟩ (by simp) rfl)) hc
      clear hI hall hnot hcl
      refine .inl ⟨(wanted_of rfl rfl (gg.trans (by rw [hc]))).trans rfl, ?_⟩
      clear gg
      unfold Oper.wp
      go_simp
      refine (Q3 _).out.mono ?_
      rintro e w4 ⟨n4, rfl, rfl⟩
      exact ⟨_, rfl, Gd.yes (by first | rfl | exact hc) rfl, hdd _ _⟩
    · simp at hq; subst hq
      have g22 : act.tmps[22]?.getD undef = .bool ((t0 && t1) && t2) := hI.has 19 22 rfl (hall ⟨19, .data⟩ (by simp) rfl)
      have G27 := hI.has 24 27 rfl (hall ⟨24, .data⟩ (by simp) rfl)
      clear hI hall hnot hcl
      refine .inl ⟨wanted_none rfl, ?_⟩
      unfold Oper.wp
      rcases Bool.eq_false_or_eq_true (((t0 && t1) && t2)) with hc | hc
      · rw [hc] at g22
        have g27 := Gd.get G27 hc
        clear G27
        go_simp
        all_goals exact ⟨_, rfl, by first | rfl | (rw [hc]; rfl), ⟨_, rfl⟩⟩
      · rw [hc] at g22
        have g27 := Gd.un G27 hc
        clear G27
        go_simp
        all_goals exact ⟨_, rfl, by first | rfl | (rw [hc]; rfl), ⟨_, rfl⟩⟩
    · simp at hq; subst hq
      have g28 : act.tmps[28]?.getD undef = .bool (((t0 && t1) && t2) && t3) := hI.has 25 28 rfl (hall ⟨25, .data⟩ (by simp) rfl)
      clear hI hall hnot hcl
      refine .inl ⟨wanted_none rfl, ?_⟩
      unfold Oper.wp
      go_simp
      all_goals exact ⟨_, rfl, rfl, ⟨_, rfl⟩⟩
    · simp at hq; subst hq
      have gg : act.tmps[29]?.getD undef = .bool ((((t0 && t1) && t2) && t3)) := hI.has 26 29 rfl (hall ⟨26, .guard⟩ (by simp) rfl)
      rcases Bool.eq_false_or_eq_true ((((t0 && t1) && t2) && t3)) with hc | hc
      case inr =>
        exact .inr ⟨(wanted_of rfl rfl (gg.trans (by rw [hc]))).trans rfl, Gd.no hc, ⟨_, rfl⟩⟩
      have g0 : act.tmps[0]?.getD undef = .pointer (some ⟨B, 0, none⟩) := hI.kept 0 (by kernel_rfl)
      clear hI hall hnot hcl
      refine .inl ⟨(wanted_of rfl rfl (gg.trans (by rw [hc]))).trans rfl, ?_⟩
      clear gg
      unfold Oper.wp
      go_simp
      all_goals exact ⟨_, rfl, Gd.yes (by first | rfl | exact hc) rfl, ⟨_, rfl⟩⟩
    · simp at hq; subst hq
      have gg : act.tmps[29]?.getD undef = .bool ((((t0 && t1) && t2) && t3)) := hI.has 26 29 rfl (hall ⟨26, .guard⟩ (by simp) rfl)
      rcases Bool.eq_false_or_eq_true ((((t0 && t1) && t2) && t3)) with hc | hc
      case inr =>
        exact .inr ⟨(wanted_of rfl rfl (gg.trans (by rw [hc]))).trans rfl, Gd.no hc, ⟨_, rfl⟩⟩
      have g30 : act.tmps[30]?.getD undef = .pointer (some ⟨B, 0, none⟩) := Gd.get (hI.has 27 30 rfl (hall ⟨27, .data⟩ (by simp) rfl)) hc
      clear hI hall hnot hcl
      refine .inl ⟨(wanted_of rfl rfl (gg.trans (by rw [hc]))).trans rfl, ?_⟩
      clear gg
      unfold Oper.wp
      go_simp
      all_goals exact ⟨_, rfl, Gd.yes (by first | rfl | exact hc) rfl, ⟨_, rfl⟩⟩
    · simp at hq; subst hq
      have gg : act.tmps[29]?.getD undef = .bool ((((t0 && t1) && t2) && t3)) := hI.has 26 29 rfl (hall ⟨26, .guard⟩ (by simp) rfl)
      rcases Bool.eq_false_or_eq_true ((((t0 && t1) && t2) && t3)) with hc | hc
      case inr =>
        exact .inr ⟨(wanted_of rfl rfl (gg.trans (by rw [hc]))).trans rfl, Gd.no hc, ⟨_, rfl⟩⟩
      have g31 : act.tmps[31]?.getD undef = .pointer (some ⟨B, 0, none⟩) := Gd.get (hI.has 28 31 rfl (hall ⟨28, .data⟩ (by simp) rfl)) hc
      clear hI hall hnot hcl
      refine .inl ⟨(wanted_of rfl rfl (gg.trans (by rw [hc]))).trans rfl, ?_⟩
      clear gg
      unfold Oper.wp
      go_simp
      all_goals exact ⟨_, rfl, Gd.yes (by first | rfl | exact hc) rfl, ⟨_, rfl⟩⟩
    · simp at hq; subst hq
      have gg : act.tmps[29]?.getD undef = .bool ((((t0 && t1) && t2) && t3)) := hI.has 26 29 rfl (hall ⟨26, .guard⟩ (by simp) rfl)
      rcases Bool.eq_false_or_eq_true ((((t0 && t1) && t2) && t3)) with hc | hc
      case inr =>
        exact .inr ⟨(wanted_of rfl rfl (gg.trans (by rw [hc]))).trans rfl, Gd.no hc, ⟨_, rfl⟩⟩
      have g32 : act.tmps[32]?.getD undef = .pointer (some ⟨B, 4, none⟩) := Gd.get (hI.has 29 32 rfl (hall ⟨29, .data⟩ (by simp) rfl)) hc
      clear hI hall hnot hcl
      refine .inl ⟨(wanted_of rfl rfl (gg.trans (by rw [hc]))).trans rfl, ?_⟩
      clear gg
      unfold Oper.wp
      go_simp
      all_goals exact ⟨_, rfl, Gd.yes (by first | rfl | exact hc) rfl, ⟨_, rfl⟩⟩
    · simp at hq; subst hq
      have gg : act.tmps[29]?.getD undef = .bool ((((t0 && t1) && t2) && t3)) := hI.has 26 29 rfl (hall ⟨26, .guard⟩ (by simp) rfl)
      rcases Bool.eq_false_or_eq_true ((((t0 && t1) && t2) && t3)) with hc | hc
      case inr =>
        exact .inr ⟨(wanted_of rfl rfl (gg.trans (by rw [hc]))).trans rfl, Gd.no hc, ⟨_, rfl⟩⟩
      have g33 : act.tmps[33]?.getD undef = .float .f32 p4 := Gd.get (hI.has 30 33 rfl (hall ⟨30, .data⟩ (by simp) rfl)) hc
      clear hI hall hnot hcl
      refine .inl ⟨(wanted_of rfl rfl (gg.trans (by rw [hc]))).trans rfl, ?_⟩
      clear gg
      unfold Oper.wp
      go_simp
      refine (Q4 _).out.mono ?_
      rintro e w4 ⟨n4, rfl, rfl⟩
      exact ⟨_, rfl, Gd.yes (by first | rfl | exact hc) rfl, hdd _ _⟩
    · simp at hq; subst hq
      have g29 : act.tmps[29]?.getD undef = .bool (((t0 && t1) && t2) && t3) := hI.has 26 29 rfl (hall ⟨26, .data⟩ (by simp) rfl)
      have G34 := hI.has 31 34 rfl (hall ⟨31, .data⟩ (by simp) rfl)
      clear hI hall hnot hcl
      refine .inl ⟨wanted_none rfl, ?_⟩
      unfold Oper.wp
      rcases Bool.eq_false_or_eq_true ((((t0 && t1) && t2) && t3)) with hc | hc
      · rw [hc] at g29
        have g34 := Gd.get G34 hc
        clear G34
        go_simp
        all_goals exact ⟨_, rfl, by first | rfl | (rw [hc]; rfl), ⟨_, rfl⟩⟩
      · rw [hc] at g29
        have g34 := Gd.un G34 hc
        clear G34
        go_simp
        all_goals exact ⟨_, rfl, by first | rfl | (rw [hc]; rfl), ⟨_, rfl⟩⟩
    · simp at hq; subst hq
      have g35 : act.tmps[35]?.getD undef = .bool ((((t0 && t1) && t2) && t3) && t4) := hI.has 32 35 rfl (hall ⟨32, .data⟩ (by simp) rfl)
      clear hI hall hnot hcl
      refine .inl ⟨wanted_none rfl, ?_⟩
      unfold Oper.wp
      go_simp
      all_goals exact ⟨_, rfl, rfl, ⟨_, rfl⟩⟩
    · simp at hq; subst hq
      have gg : act.tmps[36]?.getD undef = .bool (((((t0 && t1) && t2) && t3) && t4)) := hI.has 33 36 rfl (hall ⟨33, .guard⟩ (by simp) rfl)
      rcases Bool.eq_false_or_eq_true (((((t0 && t1) && t2) && t3) && t4)) with hc | hc
      case inr =>
        exact .inr ⟨(wanted_of rfl rfl (gg.trans (by rw [hc]))).trans rfl, Gd.no hc, ⟨_, rfl⟩⟩
      have g0 : act.tmps[0]?.getD undef = .pointer (some ⟨B, 0, none⟩) := hI.kept 0 (by kernel_rfl)
      clear hI hall hnot hcl
      refine .inl ⟨(wanted_of rfl rfl (gg.trans (by rw [hc]))).trans rfl, ?_⟩
      clear gg
      unfold Oper.wp
      go_simp
      all_goals exact ⟨_, rfl, Gd.yes (by first | rfl | exact hc) rfl, ⟨_, rfl⟩⟩
    · simp at hq; subst hq
      have gg : act.tmps[36]?.getD undef = .bool (((((t0 && t1) && t2) && t3) && t4)) := hI.has 33 36 rfl (hall ⟨33, .guard⟩ (by simp) rfl)
      rcases Bool.eq_false_or_eq_true (((((t0 && t1) && t2) && t3) && t4)) with hc | hc
      case inr =>
        exact .inr ⟨(wanted_of rfl rfl (gg.trans (by rw [hc]))).trans rfl, Gd.no hc, ⟨_, rfl⟩⟩
      have g37 : act.tmps[37]?.getD undef = .pointer (some ⟨B, 0, none⟩) := Gd.get (hI.has 34 37 rfl (hall ⟨34, .data⟩ (by simp) rfl)) hc
      clear hI hall hnot hcl
      refine .inl ⟨(wanted_of rfl rfl (gg.trans (by rw [hc]))).trans rfl, ?_⟩
      clear gg
      unfold Oper.wp
      go_simp
      all_goals exact ⟨_, rfl, Gd.yes (by first | rfl | exact hc) rfl, ⟨_, rfl⟩⟩
    · simp at hq; subst hq
      have gg : act.tmps[36]?.getD undef = .bool (((((t0 && t1) && t2) && t3) && t4)) := hI.has 33 36 rfl (hall ⟨33, .guard⟩ (by simp) rfl)
      rcases Bool.eq_false_or_eq_true (((((t0 && t1) && t2) && t3) && t4)) with hc | hc
      case inr =>
        exact .inr ⟨(wanted_of rfl rfl (gg.trans (by rw [hc]))).trans rfl, Gd.no hc, ⟨_, rfl⟩⟩
      have g38 : act.tmps[38]?.getD undef = .pointer (some ⟨B, 0, none⟩) := Gd.get (hI.has 35 38 rfl (hall ⟨35, .data⟩ (by simp) rfl)) hc
      clear hI hall hnot hcl
      refine .inl ⟨(wanted_of rfl rfl (gg.trans (by rw [hc]))).trans rfl, ?_⟩
      clear gg
      unfold Oper.wp
      go_simp
      all_goals exact ⟨_, rfl, Gd.yes (by first | rfl | exact hc) rfl, ⟨_, rfl⟩⟩
    · simp at hq; subst hq
      have gg : act.tmps[36]?.getD undef = .bool (((((t0 && t1) && t2) && t3) && t4)) := hI.has 33 36 rfl (hall ⟨33, .guard⟩ (by simp) rfl)
      rcases Bool.eq_false_or_eq_true (((((t0 && t1) && t2) && t3) && t4)) with hc | hc
      case inr =>
        exact .inr ⟨(wanted_of rfl rfl (gg.trans (by rw [hc]))).trans rfl, Gd.no hc, ⟨_, rfl⟩⟩
      have g39 : act.tmps[39]?.getD undef = .pointer (some ⟨B, 4, none⟩) := Gd.get (hI.has 36 39 rfl (hall ⟨36, .data⟩ (by simp) rfl)) hc
      clear hI hall hnot hcl
      refine .inl ⟨(wanted_of rfl rfl (gg.trans (by rw [hc]))).trans rfl, ?_⟩
      clear gg
      unfold Oper.wp
      go_simp
      all_goals exact ⟨_, rfl, Gd.yes (by first | rfl | exact hc) rfl, ⟨_, rfl⟩⟩
    · simp at hq; subst hq
      have gg : act.tmps[36]?.getD undef = .bool (((((t0 && t1) && t2) && t3) && t4)) := hI.has 33 36 rfl (hall ⟨33, .guard⟩ (by simp) rfl)
      rcases Bool.eq_false_or_eq_true (((((t0 && t1) && t2) && t3) && t4)) with hc | hc
      case inr =>
        exact .inr ⟨(wanted_of rfl rfl (gg.trans (by rw [hc]))).trans rfl, Gd.no hc, ⟨_, rfl⟩⟩
      have g0 : act.tmps[0]?.getD undef = .pointer (some ⟨B, 0, none⟩) := hI.kept 0 (by kernel_rfl)
      clear hI hall hnot hcl
      refine .inl ⟨(wanted_of rfl rfl (gg.trans (by rw [hc]))).trans rfl, ?_⟩
      clear gg
      unfold Oper.wp
      go_simp
      all_goals exact ⟨_, rfl, Gd.yes (by first | rfl | exact hc) rfl, ⟨_, rfl⟩⟩
    · simp at hq; subst hq
      have gg : act.tmps[36]?.getD undef = .bool (((((t0 && t1) && t2) && t3) && t4)) := hI.has 33 36 rfl (hall ⟨33, .guard⟩ (by simp) rfl)
      rcases Bool.eq_false_or_eq_true (((((t0 && t1) && t2) && t3) && t4)) with hc | hc
      case inr =>
        exact .inr ⟨(wanted_of rfl rfl (gg.trans (by rw [hc]))).trans rfl, Gd.no hc, ⟨_, rfl⟩⟩
      have g41 : act.tmps[41]?.getD undef = .pointer (some ⟨B, 0, none⟩) := Gd.get (hI.has 38 41 rfl (hall ⟨38, .data⟩ (by simp) rfl)) hc
      clear hI hall hnot hcl
      refine .inl ⟨(wanted_of rfl rfl (gg.trans (by rw [hc]))).trans rfl, ?_⟩
      clear gg
      unfold Oper.wp
      go_simp
      all_goals exact ⟨_, rfl, Gd.yes (by first | rfl | exact hc) rfl, ⟨_, rfl⟩⟩
    · simp at hq; subst hq
      have gg : act.tmps[36]?.getD undef = .bool (((((t0 && t1) && t2) && t3) && t4)) := hI.has 33 36 rfl (hall ⟨33, .guard⟩ (by simp) rfl)
      rcases Bool.eq_false_or_eq_true (((((t0 && t1) && t2) && t3) && t4)) with hc | hc
      case inr =>
        exact .inr ⟨(wanted_of rfl rfl (gg.trans (by rw [hc]))).trans rfl, Gd.no hc, ⟨_, rfl⟩⟩
      have g42 : act.tmps[42]?.getD undef = .pointer (some ⟨B, 0, none⟩) := Gd.get (hI.has 39 42 rfl (hall ⟨39, .data⟩ (by simp) rfl)) hc
      clear hI hall hnot hcl
      refine .inl ⟨(wanted_of rfl rfl (gg.trans (by rw [hc]))).trans rfl, ?_⟩
      clear gg
      unfold Oper.wp
      go_simp
      all_goals exact ⟨_, rfl, Gd.yes (by first | rfl | exact hc) rfl, ⟨_, rfl⟩⟩
    · simp at hq; subst hq
      have gg : act.tmps[36]?.getD undef = .bool (((((t0 && t1) && t2) && t3) && t4)) := hI.has 33 36 rfl (hall ⟨33, .guard⟩ (by simp) rfl)
      rcases Bool.eq_false_or_eq_true (((((t0 && t1) && t2) && t3) && t4)) with hc | hc
      case inr =>
        exact .inr ⟨(wanted_of rfl rfl (gg.trans (by rw [hc]))).trans rfl, Gd.no hc, ⟨_, rfl⟩⟩
      have g43 : act.tmps[43]?.getD undef = .pointer (some ⟨B, 3, none⟩) := Gd.get (hI.has 40 43 rfl (hall ⟨40, .data⟩ (by simp) rfl)) hc
      clear hI hall hnot hcl
      refine .inl ⟨(wanted_of rfl rfl (gg.trans (by rw [hc]))).trans rfl, ?_⟩
      clear gg
      unfold Oper.wp
      go_simp
      all_goals exact ⟨_, rfl, Gd.yes (by first | rfl | exact hc) rfl, ⟨_, rfl⟩⟩
    · simp at hq; subst hq
      have gg : act.tmps[36]?.getD undef = .bool (((((t0 && t1) && t2) && t3) && t4)) := hI.has 33 36 rfl (hall ⟨33, .guard⟩ (by simp) rfl)
      rcases Bool.eq_false_or_eq_true (((((t0 && t1) && t2) && t3) && t4)) with hc | hc
      case inr =>
        exact .inr ⟨(wanted_of rfl rfl (gg.trans (by rw [hc]))).trans rfl, Gd.no hc, ⟨_, rfl⟩⟩
      have g40 : act.tmps[40]?.getD undef = .float .f32 p4 := Gd.get (hI.has 37 40 rfl (hall ⟨37, .data⟩ (by simp) rfl)) hc
      have g44 : act.tmps[44]?.getD undef = .float .f32 p3 := Gd.get (hI.has 41 44 rfl (hall ⟨41, .data⟩ (by simp) rfl)) hc
      clear hI hall hnot hcl
      refine .inl ⟨(wanted_of rfl rfl (gg.trans (by rw [hc]))).trans rfl, ?_⟩
      clear gg
      unfold Oper.wp
      go_simp
      rw [P5.out]
      exact ⟨_, rfl, Gd.yes (by first | rfl | exact hc) rfl, ⟨_, rfl⟩⟩
    · simp at hq; subst hq
      have g36 : act.tmps[36]?.getD undef = .bool ((((t0 && t1) && t2) && t3) && t4) := hI.has 33 36 rfl (hall ⟨33, .data⟩ (by simp) rfl)
      have G45 := hI.has 42 45 rfl (hall ⟨42, .data⟩ (by simp) rfl)
      clear hI hall hnot hcl
      refine .inl ⟨wanted_none rfl, ?_⟩
      unfold Oper.wp
      rcases Bool.eq_false_or_eq_true (((((t0 && t1) && t2) && t3) && t4)) with hc | hc
      · rw [hc] at g36
        have g45 := Gd.get G45 hc
        clear G45
        go_simp
        all_goals exact ⟨_, rfl, by first | rfl | (rw [hc]; rfl), ⟨_, rfl⟩⟩
      · rw [hc] at g36
        have g45 := Gd.un G45 hc
        clear G45
        go_simp
        all_goals exact ⟨_, rfl, by first | rfl | (rw [hc]; rfl), ⟨_, rfl⟩⟩
    · simp at hq; subst hq
      have g46 : act.tmps[46]?.getD undef = .bool (((((t0 && t1) && t2) && t3) && t4) && t5) := hI.has 43 46 rfl (hall ⟨43, .data⟩ (by simp) rfl)
      clear hI hall hnot hcl
      refine .inl ⟨wanted_none rfl, ?_⟩
      unfold Oper.wp
      go_simp
      all_goals exact ⟨_, rfl, rfl, ⟨_, rfl⟩⟩
    · simp at hq; subst hq
      have gg : act.tmps[47]?.getD undef = .bool ((((((t0 && t1) && t2) && t3) && t4) && t5)) := hI.has 44 47 rfl (hall ⟨44, .guard⟩ (by simp) rfl)
      rcases Bool.eq_false_or_eq_true ((((((t0 && t1) && t2) && t3) && t4) && t5)) with hc | hc
      case inr =>
        exact .inr ⟨(wanted_of rfl rfl (gg.trans (by rw [hc]))).trans rfl, Gd.no hc, ⟨_, rfl⟩⟩
      have g0 : act.tmps[0]?.getD undef = .pointer (some ⟨B, 0, none⟩) := hI.kept 0 (by kernel_rfl)
      clear hI hall hnot hcl
      refine .inl ⟨(wanted_of rfl rfl (gg.trans (by rw [hc]))).trans rfl, ?_⟩
      clear gg
      unfold Oper.wp
      go_simp
      all_goals exact ⟨_, rfl, Gd.yes (by first | rfl | exact hc) rfl, ⟨_, rfl⟩⟩
    · simp at hq; subst hq
      have gg : act.tmps[47]?.getD undef = .bool ((((((t0 && t1) && t2) && t3) && t4) && t5)) := hI.has 44 47 rfl (hall ⟨44, .guard⟩ (by simp) rfl)
      rcases Bool.eq_false_or_eq_true ((((((t0 && t1) && t2) && t3) && t4) && t5)) with hc | hc
      case inr =>
        exact .inr ⟨(wanted_of rfl rfl (gg.trans (by rw [hc]))).trans rfl, Gd.no hc, ⟨_, rfl⟩⟩
      have g48 : act.tmps[48]?.getD undef = .pointer (some ⟨B, 0, none⟩) := Gd.get (hI.has 45 48 rfl (hall ⟨45, .data⟩ (by simp) rfl)) hc
      clear hI hall hnot hcl
      refine .inl ⟨(wanted_of rfl rfl (gg.trans (by rw [hc]))).trans rfl, ?_⟩
      clear gg
      unfold Oper.wp
      go_simp
      all_goals exact ⟨_, rfl, Gd.yes (by first | rfl | exact hc) rfl, ⟨_, rfl⟩⟩
    · simp at hq; subst hq
      have gg : act.tmps[47]?.getD undef = .bool ((((((t0 && t1) && t2) && t3) && t4) && t5)) := hI.has 44 47 rfl (hall ⟨44, .guard⟩ (by simp) rfl)
      rcases Bool.eq_false_or_eq_true ((((((t0 && t1) && t2) && t3) && t4) && t5)) with hc | hc
      case inr =>
        exact .inr ⟨(wanted_of rfl rfl (gg.trans (by rw [hc]))).trans rfl, Gd.no hc, ⟨_, rfl⟩⟩
      have g49 : act.tmps[49]?.getD undef = .pointer (some ⟨B, 0, none⟩) := Gd.get (hI.has 46 49 rfl (hall ⟨46, .data⟩ (by simp) rfl)) hc
      clear hI hall hnot hcl
      refine .inl ⟨(wanted_of rfl rfl (gg.trans (by rw [hc]))).trans rfl, ?_⟩
      clear gg
      unfold Oper.wp
      go_simp
      all_goals exact ⟨_, rfl, Gd.yes (by first | rfl | exact hc) rfl, ⟨_, rfl⟩⟩
    · simp at hq; subst hq
      have gg : act.tmps[47]?.getD undef = .bool ((((((t0 && t1) && t2) && t3) && t4) && t5)) := hI.has 44 47 rfl (hall ⟨44, .guard⟩ (by simp) rfl)
      rcases Bool.eq_false_or_eq_true ((((((t0 && t1) && t2) && t3) && t4) && t5)) with hc | hc
      case inr =>
        exact .inr ⟨(wanted_of rfl rfl (gg.trans (by rw [hc]))).trans rfl, Gd.no hc, ⟨_, rfl⟩⟩
      have g50 : act.tmps[50]?.getD undef = .pointer (some ⟨B, 5, none⟩) := Gd.get (hI.has 47 50 rfl (hall ⟨47, .data⟩ (by simp) rfl)) hc
      clear hI hall hnot hcl
      refine .inl ⟨(wanted_of rfl rfl (gg.trans (by rw [hc]))).trans rfl, ?_⟩
      clear gg
      unfold Oper.wp
      go_simp
      all_goals exact ⟨_, rfl, Gd.yes (by first | rfl | exact hc) rfl, ⟨_, rfl⟩⟩
    · simp at hq; subst hq
      have gg : act.tmps[47]?.getD undef = .bool ((((((t0 && t1) && t2) && t3) && t4) && t5)) := hI.has 44 47 rfl (hall ⟨44, .guard⟩ (by simp) rfl)
      rcases Bool.eq_false_or_eq_true ((((((t0 && t1) && t2) && t3) && t4) && t5)) with hc | hc
      case inr =>
        exact .inr ⟨(wanted_of rfl rfl (gg.trans (by rw [hc]))).trans rfl, Gd.no hc, ⟨_, rfl⟩⟩
      have g51 : act.tmps[51]?.getD undef = .float .f32 p5 := Gd.get (hI.has 48 51 rfl (hall ⟨48, .data⟩ (by simp) rfl)) hc
      clear hI hall hnot hcl
      refine .inl ⟨(wanted_of rfl rfl (gg.trans (by rw [hc]))).trans rfl, ?_⟩
      clear gg
      unfold Oper.wp
      go_simp
      refine (Q6 _).out.mono ?_
      rintro e w4 ⟨n4, rfl, rfl⟩
      exact ⟨_, rfl, Gd.yes (by first | rfl | exact hc) rfl, hdd _ _⟩
    · simp at hq; subst hq
      have g47 : act.tmps[47]?.getD undef = .bool (((((t0 && t1) && t2) && t3) && t4) && t5) := hI.has 44 47 rfl (hall ⟨44, .data⟩ (by simp) rfl)
      have G52 := hI.has 49 52 rfl (hall ⟨49, .data⟩ (by simp) rfl)
      clear hI hall hnot hcl
      refine .inl ⟨wanted_none rfl, ?_⟩
      unfold Oper.wp
      rcases Bool.eq_false_or_eq_true ((((((t0 && t1) && t2) && t3) && t4) && t5)) with hc | hc
      · rw [hc] at g47
        have g52 := Gd.get G52 hc
        clear G52
        go_simp
        all_goals exact ⟨_, rfl, by first | rfl | (rw [hc]; rfl), ⟨_, rfl⟩⟩
      · rw [hc] at g47
        have g52 := Gd.un G52 hc
        clear G52
        go_simp
        all_goals exact ⟨_, rfl, by first | rfl | (rw [hc]; rfl), ⟨_, rfl⟩⟩
    · simp at hq; subst hq
      have g53 : act.tmps[53]?.getD undef = .bool ((((((t0 && t1) && t2) && t3) && t4) && t5) && t6) := hI.has 50 53 rfl (hall ⟨50, .data⟩ (by simp) rfl)
      clear hI hall hnot hcl
      refine .inl ⟨wanted_none rfl, ?_⟩
      unfold Oper.wp
      go_simp
      all_goals exact ⟨_, rfl, rfl, ⟨_, rfl⟩⟩
    · simp at hq; subst hq
      have gg : act.tmps[54]?.getD undef = .bool (((((((t0 && t1) && t2) && t3) && t4) && t5) && t6)) := hI.has 51 54 rfl (hall ⟨51, .guard⟩ (by simp) rfl)
      rcases Bool.eq_false_or_eq_true (((((((t0 && t1) && t2) && t3) && t4) && t5) && t6)) with hc | hc
      case inr =>
        exact .inr ⟨(wanted_of rfl rfl (gg.trans (by rw [hc]))).trans rfl, Gd.no hc, ⟨_, rfl⟩⟩
      have g0 : act.tmps[0]?.getD undef = .pointer (some ⟨B, 0, none⟩) := hI.kept 0 (by kernel_rfl)
      clear hI hall hnot hcl
      refine .inl ⟨(wanted_of rfl rfl (gg.trans (by rw [hc]))).trans rfl, ?_⟩
      clear gg
      unfold Oper.wp
      go_simp
      all_goals exact ⟨_, rfl, Gd.yes (by first | rfl | exact hc) rfl, ⟨_, rfl⟩⟩
    · simp at hq; subst hq
      have gg : act.tmps[54]?.getD undef = .bool (((((((t0 && t1) && t2) && t3) && t4) && t5) && t6)) := hI.has 51 54 rfl (hall ⟨51, .guard⟩ (by simp) rfl)
      rcases Bool.eq_false_or_eq_true (((((((t0 && t1) && t2) && t3) && t4) && t5) && t6)) with hc | hc
      case inr =>
        exact .inr ⟨(wanted_of rfl rfl (gg.trans (by rw [hc]))).trans rfl, Gd.no hc, ⟨_, rfl⟩⟩
      have g55 : act.tmps[55]?.getD undef = .pointer (some ⟨B, 0, none⟩) := Gd.get (hI.has 52 55 rfl (hall ⟨52, .data⟩ (by simp) rfl)) hc
      clear hI hall hnot hcl
      refine .inl ⟨(wanted_of rfl rfl (gg.trans (by rw [hc]))).trans rfl, ?_⟩
      clear gg
      unfold Oper.wp
      go_simp
      all_goals exact ⟨_, rfl, Gd.yes (by first | rfl | exact hc) rfl, ⟨_, rfl⟩⟩
    · simp at hq; subst hq
      have gg : act.tmps[54]?.getD undef = .bool (((((((t0 && t1) && t2) && t3) && t4) && t5) && t6)) := hI.has 51 54 rfl (hall ⟨51, .guard⟩ (by simp) rfl)
      rcases Bool.eq_false_or_eq_true (((((((t0 && t1) && t2) && t3) && t4) && t5) && t6)) with hc | hc
      case inr =>
        exact .inr ⟨(wanted_of rfl rfl (gg.trans (by rw [hc]))).trans rfl, Gd.no hc, ⟨_, rfl⟩⟩
      have g56 : act.tmps[56]?.getD undef = .pointer (some ⟨B, 0, none⟩) := Gd.get (hI.has 53 56 rfl (hall ⟨53, .data⟩ (by simp) rfl)) hc
      clear hI hall hnot hcl
      refine .inl ⟨(wanted_of rfl rfl (gg.trans (by rw [hc]))).trans rfl, ?_⟩
      clear gg
      unfold Oper.wp
      go_simp
      all_goals exact ⟨_, rfl, Gd.yes (by first | rfl | exact hc) rfl, ⟨_, rfl⟩⟩
    · simp at hq; subst hq
      have gg : act.tmps[54]?.getD undef = .bool (((((((t0 && t1) && t2) && t3) && t4) && t5) && t6)) := hI.has 51 54 rfl (hall ⟨51, .guard⟩ (by simp) rfl)
      rcases Bool.eq_false_or_eq_true (((((((t0 && t1) && t2) && t3) && t4) && t5) && t6)) with hc | hc
      case inr =>
        exact .inr ⟨(wanted_of rfl rfl (gg.trans (by rw [hc]))).trans rfl, Gd.no hc, ⟨_, rfl⟩⟩
      have g57 : act.tmps[57]?.getD undef = .pointer (some ⟨B, 6, none⟩) := Gd.get (hI.has 54 57 rfl (hall ⟨54, .data⟩ (by simp) rfl)) hc
      clear hI hall hnot hcl
      refine .inl ⟨(wanted_of rfl rfl (gg.trans (by rw [hc]))).trans rfl, ?_⟩
      clear gg
      unfold Oper.wp
      go_simp
      all_goals exact ⟨_, rfl, Gd.yes (by first | rfl | exact hc) rfl, ⟨_, rfl⟩⟩
    · simp at hq; subst hq
      have gg : act.tmps[54]?.getD undef = .bool (((((((t0 && t1) && t2) && t3) && t4) && t5) && t6)) := hI.has 51 54 rfl (hall ⟨51, .guard⟩ (by simp) rfl)
      rcases Bool.eq_false_or_eq_true (((((((t0 && t1) && t2) && t3) && t4) && t5) && t6)) with hc | hc
      case inr =>
        exact .inr ⟨(wanted_of rfl rfl (gg.trans (by rw [hc]))).trans rfl, Gd.no hc, ⟨_, rfl⟩⟩
      have g58 : act.tmps[58]?.getD undef = .float .f32 p6 := Gd.get (hI.has 55 58 rfl (hall ⟨55, .data⟩ (by simp) rfl)) hc
      clear hI hall hnot hcl
      refine .inl ⟨(wanted_of rfl rfl (gg.trans (by rw [hc]))).trans rfl, ?_⟩
      clear gg
      unfold Oper.wp
      go_simp
      refine (Q7 _).out.mono ?_
      rintro e w4 ⟨n4, rfl, rfl⟩
      exact ⟨_, rfl, Gd.yes (by first | rfl | exact hc) rfl, hdd _ _⟩
    · simp at hq; subst hq
      have g54 : act.tmps[54]?.getD undef = .bool ((((((t0 && t1) && t2) && t3) && t4) && t5) && t6) := hI.has 51 54 rfl (hall ⟨51, .data⟩ (by simp) rfl)
      have G59 := hI.has 56 59 rfl (hall ⟨56, .data⟩ (by simp) rfl)
      clear hI hall hnot hcl
      refine .inl ⟨wanted_none rfl, ?_⟩
      unfold Oper.wp
      rcases Bool.eq_false_or_eq_true (((((((t0 && t1) && t2) && t3) && t4) && t5) && t6)) with hc | hc
      · rw [hc] at g54
        have g59 := Gd.get G59 hc
        clear G59
        go_simp
        all_goals exact ⟨_, rfl, by first | rfl | (rw [hc]; rfl), ⟨_, rfl⟩⟩
      · rw [hc] at g54
        have g59 := Gd.un G59 hc
        clear G59
        go_simp
        all_goals exact ⟨_, rfl, by first | rfl | (rw [hc]; rfl), ⟨_, rfl⟩⟩
    · simp at hq; subst hq
      have g60 : act.tmps[60]?.getD undef = .bool (((((((t0 && t1) && t2) && t3) && t4) && t5) && t6) && t7) := hI.has 57 60 rfl (hall ⟨57, .data⟩ (by simp) rfl)
      clear hI hall hnot hcl
      refine .inl ⟨wanted_none rfl, ?_⟩
      unfold Oper.wp
      go_simp
      all_goals exact ⟨_, rfl, rfl, ⟨_, rfl⟩⟩
    · simp at hq; subst hq
      have gg : act.tmps[61]?.getD undef = .bool ((((((((t0 && t1) && t2) && t3) && t4) && t5) && t6) && t7)) := hI.has 58 61 rfl (hall ⟨58, .guard⟩ (by simp) rfl)
      rcases Bool.eq_false_or_eq_true ((((((((t0 && t1) && t2) && t3) && t4) && t5) && t6) && t7)) with hc | hc
      case inr =>
        exact .inr ⟨(wanted_of rfl rfl (gg.trans (by rw [hc]))).trans rfl, Gd.no hc, ⟨_, rfl⟩⟩
      have g0 : act.tmps[0]?.getD undef = .pointer (some ⟨B, 0, none⟩) := hI.kept 0 (by kernel_rfl)
      clear hI hall hnot hcl
      refine .inl ⟨(wanted_of rfl rfl (gg.trans (by rw [hc]))).trans rfl, ?_⟩
      clear gg
      unfold Oper.wp
      go_simp
      all_goals exact ⟨_, rfl, Gd.yes (by first | rfl | exact hc) rfl, ⟨_, rfl⟩⟩
    · simp at hq; subst hq
      have gg : act.tmps[61]?.getD undef = .bool ((((((((t0 && t1) && t2) && t3) && t4) && t5) && t6) && t7)) := hI.has 58 61 rfl (hall ⟨58, .guard⟩ (by simp) rfl)
      rcases Bool.eq_false_or_eq_true ((((((((t0 && t1) && t2) && t3) && t4) && t5) && t6) && t7)) with hc | hc
      case inr =>
        exact .inr ⟨(wanted_of rfl rfl (gg.trans (by rw [hc]))).trans rfl, Gd.no hc, ⟨_, rfl⟩⟩
      have g62 : act.tmps[62]?.getD undef = .pointer (some ⟨B, 0, none⟩) := Gd.get (hI.has 59 62 rfl (hall ⟨59, .data⟩ (by simp) rfl)) hc
      clear hI hall hnot hcl
      refine .inl ⟨(wanted_of rfl rfl (gg.trans (by rw [hc]))).trans rfl, ?_⟩
      clear gg
      unfold Oper.wp
      go_simp
      all_goals exact ⟨_, rfl, Gd.yes (by first | rfl | exact hc) rfl, ⟨_, rfl⟩⟩
    · simp at hq; subst hq
      have gg : act.tmps[61]?.getD undef = .bool ((((((((t0 && t1) && t2) && t3) && t4) && t5) && t6) && t7)) := hI.has 58 61 rfl (hall ⟨58, .guard⟩ (by simp) rfl)
      rcases Bool.eq_false_or_eq_true ((((((((t0 && t1) && t2) && t3) && t4) && t5) && t6) && t7)) with hc | hc
      case inr =>
        exact .inr ⟨(wanted_of rfl rfl (gg.trans (by rw [hc]))).trans rfl, Gd.no hc, ⟨_, rfl⟩⟩
      have g63 : act.tmps[63]?.getD undef = .pointer (some ⟨B, 0, none⟩) := Gd.get (hI.has 60 63 rfl (hall ⟨60, .data⟩ (by simp) rfl)) hc
      clear hI hall hnot hcl
      refine .inl ⟨(wanted_of rfl rfl (gg.trans (by rw [hc]))).trans rfl, ?_⟩
      clear gg
      unfold Oper.wp
      go_simp
      all_goals exact ⟨_, rfl, Gd.yes (by first | rfl | exact hc) rfl, ⟨_, rfl⟩⟩
    · simp at hq; subst hq
      have gg : act.tmps[61]?.getD undef = .bool ((((((((t0 && t1) && t2) && t3) && t4) && t5) && t6) && t7)) := hI.has 58 61 rfl (hall ⟨58, .guard⟩ (by simp) rfl)
      rcases Bool.eq_false_or_eq_true ((((((((t0 && t1) && t2) && t3) && t4) && t5) && t6) && t7)) with hc | hc
      case inr =>
        exact .inr ⟨(wanted_of rfl rfl (gg.trans (by rw [hc]))).trans rfl, Gd.no hc, ⟨_, rfl⟩⟩
      have g64 : act.tmps[64]?.getD undef = .pointer (some ⟨B, 6, none⟩) := Gd.get (hI.has 61 64 rfl (hall ⟨61, .data⟩ (by simp) rfl)) hc
      clear hI hall hnot hcl
      refine .inl ⟨(wanted_of rfl rfl (gg.trans (by rw [hc]))).trans rfl, ?_⟩
      clear gg
      unfold Oper.wp
      go_simp
      all_goals exact ⟨_, rfl, Gd.yes (by first | rfl | exact hc) rfl, ⟨_, rfl⟩⟩
    · simp at hq; subst hq
      have gg : act.tmps[61]?.getD undef = .bool ((((((((t0 && t1) && t2) && t3) && t4) && t5) && t6) && t7)) := hI.has 58 61 rfl (hall ⟨58, .guard⟩ (by simp) rfl)
      rcases Bool.eq_false_or_eq_true ((((((((t0 && t1) && t2) && t3) && t4) && t5) && t6) && t7)) with hc | hc
      case inr =>
        exact .inr ⟨(wanted_of rfl rfl (gg.trans (by rw [hc]))).trans rfl, Gd.no hc, ⟨_, rfl⟩⟩
      have g0 : act.tmps[0]?.getD undef = .pointer (some ⟨B, 0, none⟩) := hI.kept 0 (by kernel_rfl)
      clear hI hall hnot hcl
      refine .inl ⟨(wanted_of rfl rfl (gg.trans (by rw [hc]))).trans rfl, ?_⟩
      clear gg
      unfold Oper.wp
      go_simp
      all_goals exact ⟨_, rfl, Gd.yes (by first | rfl | exact hc) rfl, ⟨_, rfl⟩⟩
    · simp at hq; subst hq
      have gg : act.tmps[61]?.getD undef = .bool ((((((((t0 && t1) && t2) && t3) && t4) && t5) && t6) && t7)) := hI.has 58 61 rfl (hall ⟨58, .guard⟩ (by simp) rfl)
      rcases Bool.eq_false_or_eq_true ((((((((t0 && t1) && t2) && t3) && t4) && t5) && t6) && t7)) with hc | hc
      case inr =>
        exact .inr ⟨(wanted_of rfl rfl (gg.trans (by rw [hc]))).trans rfl, Gd.no hc, ⟨_, rfl⟩⟩
      have g66 : act.tmps[66]?.getD undef = .pointer (some ⟨B, 0, none⟩) := Gd.get (hI.has 63 66 rfl (hall ⟨63, .data⟩ (by simp) rfl)) hc
      clear hI hall hnot hcl
      refine .inl ⟨(wanted_of rfl rfl (gg.trans (by rw [hc]))).trans rfl, ?_⟩
      clear gg
      unfold Oper.wp
      go_simp
      all_goals exact ⟨_, rfl, Gd.yes (by first | rfl | exact hc) rfl, ⟨_, rfl⟩⟩
    · simp at hq; subst hq
      have gg : act.tmps[61]?.getD undef = .bool ((((((((t0 && t1) && t2) && t3) && t4) && t5) && t6) && t7)) := hI.has 58 61 rfl (hall ⟨58, .guard⟩ (by simp) rfl)
      rcases Bool.eq_false_or_eq_true ((((((((t0 && t1) && t2) && t3) && t4) && t5) && t6) && t7)) with hc | hc
      case inr =>
        exact .inr ⟨(wanted_of rfl rfl (gg.trans (by rw [hc]))).trans rfl, Gd.no hc, ⟨_, rfl⟩⟩
      have g67 : act.tmps[67]?.getD undef = .pointer (some ⟨B, 0, none⟩) := Gd.get (hI.has 64 67 rfl (hall ⟨64, .data⟩ (by simp) rfl)) hc
      clear hI hall hnot hcl
      refine .inl ⟨(wanted_of rfl rfl (gg.trans (by rw [hc]))).trans rfl, ?_⟩
      clear gg
      unfold Oper.wp
      go_simp
      all_goals exact ⟨_, rfl, Gd.yes (by first | rfl | exact hc) rfl, ⟨_, rfl⟩⟩
    · simp at hq; subst hq
      have gg : act.tmps[61]?.getD undef = .bool ((((((((t0 && t1) && t2) && t3) && t4) && t5) && t6) && t7)) := hI.has 58 61 rfl (hall ⟨58, .guard⟩ (by simp) rfl)
      rcases Bool.eq_false_or_eq_true ((((((((t0 && t1) && t2) && t3) && t4) && t5) && t6) && t7)) with hc | hc
      case inr =>
        exact .inr ⟨(wanted_of rfl rfl (gg.trans (by rw [hc]))).trans rfl, Gd.no hc, ⟨_, rfl⟩⟩
      have g68 : act.tmps[68]?.getD undef = .pointer (some ⟨B, 5, none⟩) := Gd.get (hI.has 65 68 rfl (hall ⟨65, .data⟩ (by simp) rfl)) hc
      clear hI hall hnot hcl
      refine .inl ⟨(wanted_of rfl rfl (gg.trans (by rw [hc]))).trans rfl, ?_⟩
      clear gg
      unfold Oper.wp
      go_simp
      all_goals exact ⟨_, rfl, Gd.yes (by first | rfl | exact hc) rfl, ⟨_, rfl⟩⟩
    · simp at hq; subst hq
      have gg : act.tmps[61]?.getD undef = .bool ((((((((t0 && t1) && t2) && t3) && t4) && t5) && t6) && t7)) := hI.has 58 61 rfl (hall ⟨58, .guard⟩ (by simp) rfl)
      rcases Bool.eq_false_or_eq_true ((((((((t0 && t1) && t2) && t3) && t4) && t5) && t6) && t7)) with hc | hc
      case inr =>
        exact .inr ⟨(wanted_of rfl rfl (gg.trans (by rw [hc]))).trans rfl, Gd.no hc, ⟨_, rfl⟩⟩
      have g65 : act.tmps[65]?.getD undef = .float .f32 p6 := Gd.get (hI.has 62 65 rfl (hall ⟨62, .data⟩ (by simp) rfl)) hc
      have g69 : act.tmps[69]?.getD undef = .float .f32 p5 := Gd.get (hI.has 66 69 rfl (hall ⟨66, .data⟩ (by simp) rfl)) hc
      clear hI hall hnot hcl
      refine .inl ⟨(wanted_of rfl rfl (gg.trans (by rw [hc]))).trans rfl, ?_⟩
      clear gg
      unfold Oper.wp
      go_simp
      rw [P8.out]
      exact ⟨_, rfl, Gd.yes (by first | rfl | exact hc) rfl, ⟨_, rfl⟩⟩
    · simp at hq; subst hq
      have g61 : act.tmps[61]?.getD undef = .bool (((((((t0 && t1) && t2) && t3) && t4) && t5) && t6) && t7) := hI.has 58 61 rfl (hall ⟨58, .data⟩ (by simp) rfl)
      have G70 := hI.has 67 70 rfl (hall ⟨67, .data⟩ (by simp) rfl)
      clear hI hall hnot hcl
      refine .inl ⟨wanted_none rfl, ?_⟩
      unfold Oper.wp
      rcases Bool.eq_false_or_eq_true ((((((((t0 && t1) && t2) && t3) && t4) && t5) && t6) && t7)) with hc | hc
      · rw [hc] at g61
        have g70 := Gd.get G70 hc
        clear G70
        go_simp
        all_goals exact ⟨_, rfl, by first | rfl | (rw [hc]; rfl), ⟨_, rfl⟩⟩
      · rw [hc] at g61
        have g70 := Gd.un G70 hc
        clear G70
        go_simp
        all_goals exact ⟨_, rfl, by first | rfl | (rw [hc]; rfl), ⟨_, rfl⟩⟩
    · simp at hq; subst hq
      have g71 : act.tmps[71]?.getD undef = .bool ((((((((t0 && t1) && t2) && t3) && t4) && t5) && t6) && t7) && t8) := hI.has 68 71 rfl (hall ⟨68, .data⟩ (by simp) rfl)
      clear hI hall hnot hcl
      refine .inl ⟨wanted_none rfl, ?_⟩
      unfold Oper.wp
      go_simp
      all_goals exact ⟨_, rfl, rfl, ⟨_, rfl⟩⟩
    · simp at hq; subst hq
      have gg : act.tmps[72]?.getD undef = .bool (((((((((t0 && t1) && t2) && t3) && t4) && t5) && t6) && t7) && t8)) := hI.has 69 72 rfl (hall ⟨69, .guard⟩ (by simp) rfl)
      rcases Bool.eq_false_or_eq_true (((((((((t0 && t1) && t2) && t3) && t4) && t5) && t6) && t7) && t8)) with hc | hc
      case inr =>
        exact .inr ⟨(wanted_of rfl rfl (gg.trans (by rw [hc]))).trans rfl, Gd.no hc, ⟨_, rfl⟩⟩
      have g0 : act.tmps[0]?.getD undef = .pointer (some ⟨B, 0, none⟩) := hI.kept 0 (by kernel_rfl)
      clear hI hall hnot hcl
      refine .inl ⟨(wanted_of rfl rfl (gg.trans (by rw [hc]))).trans rfl, ?_⟩
      clear gg
      unfold Oper.wp
      go_simp
      all_goals exact ⟨_, rfl, Gd.yes (by first | rfl | exact hc) rfl, ⟨_, rfl⟩⟩
    · simp at hq; subst hq
      have gg : act.tmps[72]?.getD undef = .bool (((((((((t0 && t1) && t2) && t3) && t4) && t5) && t6) && t7) && t8)) := hI.has 69 72 rfl (hall ⟨69, .guard⟩ (by simp) rfl)
      rcases Bool.eq_false_or_eq_true (((((((((t0 && t1) && t2) && t3) && t4) && t5) && t6) && t7) && t8)) with hc | hc
      case inr =>
        exact .inr ⟨(wanted_of rfl rfl (gg.trans (by rw [hc]))).trans rfl, Gd.no hc, ⟨_, rfl⟩⟩
      have g73 : act.tmps[73]?.getD undef = .pointer (some ⟨B, 0, none⟩) := Gd.get (hI.has 70 73 rfl (hall ⟨70, .data⟩ (by simp) rfl)) hc
      clear hI hall hnot hcl
      refine .inl ⟨(wanted_of rfl rfl (gg.trans (by rw [hc]))).trans rfl, ?_⟩
      clear gg
      unfold Oper.wp
      go_simp
      all_goals exact ⟨_, rfl, Gd.yes (by first | rfl | exact hc) rfl, ⟨_, rfl⟩⟩
    · simp at hq; subst hq
      have gg : act.tmps[72]?.getD undef = .bool (((((((((t0 && t1) && t2) && t3) && t4) && t5) && t6) && t7) && t8)) := hI.has 69 72 rfl (hall ⟨69, .guard⟩ (by simp) rfl)
      rcases Bool.eq_false_or_eq_true (((((((((t0 && t1) && t2) && t3) && t4) && t5) && t6) && t7) && t8)) with hc | hc
      case inr =>
        exact .inr ⟨(wanted_of rfl rfl (gg.trans (by rw [hc]))).trans rfl, Gd.no hc, ⟨_, rfl⟩⟩
      have g74 : act.tmps[74]?.getD undef = .pointer (some ⟨B, 0, none⟩) := Gd.get (hI.has 71 74 rfl (hall ⟨71, .data⟩ (by simp) rfl)) hc
      clear hI hall hnot hcl
      refine .inl ⟨(wanted_of rfl rfl (gg.trans (by rw [hc]))).trans rfl, ?_⟩
      clear gg
      unfold Oper.wp
      go_simp
      all_goals exact ⟨_, rfl, Gd.yes (by first | rfl | exact hc) rfl, ⟨_, rfl⟩⟩
    · simp at hq; subst hq
      have gg : act.tmps[72]?.getD undef = .bool (((((((((t0 && t1) && t2) && t3) && t4) && t5) && t6) && t7) && t8)) := hI.has 69 72 rfl (hall ⟨69, .guard⟩ (by simp) rfl)
      rcases Bool.eq_false_or_eq_true (((((((((t0 && t1) && t2) && t3) && t4) && t5) && t6) && t7) && t8)) with hc | hc
      case inr =>
        exact .inr ⟨(wanted_of rfl rfl (gg.trans (by rw [hc]))).trans rfl, Gd.no hc, ⟨_, rfl⟩⟩
      have g75 : act.tmps[75]?.getD undef = .pointer (some ⟨B, 7, none⟩) := Gd.get (hI.has 72 75 rfl (hall ⟨72, .data⟩ (by simp) rfl)) hc
      clear hI hall hnot hcl
      refine .inl ⟨(wanted_of rfl rfl (gg.trans (by rw [hc]))).trans rfl, ?_⟩
      clear gg
      unfold Oper.wp
      go_simp
      all_goals exact ⟨_, rfl, Gd.yes (by first | rfl | exact hc) rfl, ⟨_, rfl⟩⟩
    · simp at hq; subst hq
      have gg : act.tmps[72]?.getD undef = .bool (((((((((t0 && t1) && t2) && t3) && t4) && t5) && t6) && t7) && t8)) := hI.has 69 72 rfl (hall ⟨69, .guard⟩ (by simp) rfl)
      rcases Bool.eq_false_or_eq_true (((((((((t0 && t1) && t2) && t3) && t4) && t5) && t6) && t7) && t8)) with hc | hc
      case inr =>
        exact .inr ⟨(wanted_of rfl rfl (gg.trans (by rw [hc]))).trans rfl, Gd.no hc, ⟨_, rfl⟩⟩
      have g76 : act.tmps[76]?.getD undef = .float .f32 p7 := Gd.get (hI.has 73 76 rfl (hall ⟨73, .data⟩ (by simp) rfl)) hc
      clear hI hall hnot hcl
      refine .inl ⟨(wanted_of rfl rfl (gg.trans (by rw [hc]))).trans rfl, ?_⟩
      clear gg
      unfold Oper.wp
      go_simp
      refine (Q9 _).out.mono ?_
      rintro e w4 ⟨n4, rfl, rfl⟩
      exact ⟨_, rfl, Gd.yes (by first | rfl | exact hc) rfl, hdd _ _⟩
    · simp at hq; subst hq
      have g72 : act.tmps[72]?.getD undef = .bool ((((((((t0 && t1) && t2) && t3) && t4) && t5) && t6) && t7) && t8) := hI.has 69 72 rfl (hall ⟨69, .data⟩ (by simp) rfl)
      have G77 := hI.has 74 77 rfl (hall ⟨74, .data⟩ (by simp) rfl)
      clear hI hall hnot hcl
      refine .inl ⟨wanted_none rfl, ?_⟩
      unfold Oper.wp
      rcases Bool.eq_false_or_eq_true (((((((((t0 && t1) && t2) && t3) && t4) && t5) && t6) && t7) && t8)) with hc | hc
      · rw [hc] at g72
        have g77 := Gd.get G77 hc
        clear G77
        go_simp
        all_goals exact ⟨_, rfl, by first | rfl | (rw [hc]; rfl), ⟨_, rfl⟩⟩
      · rw [hc] at g72
        have g77 := Gd.un G77 hc
        clear G77
        go_simp
        all_goals exact ⟨_, rfl, by first | rfl | (rw [hc]; rfl), ⟨_, rfl⟩⟩
    · simp at hq; subst hq
      have g78 : act.tmps[78]?.getD undef = .bool (((((((((t0 && t1) && t2) && t3) && t4) && t5) && t6) && t7) && t8) && t9) := hI.has 75 78 rfl (hall ⟨75, .data⟩ (by simp) rfl)
      clear hI hall hnot hcl
      refine .inl ⟨wanted_none rfl, ?_⟩
      unfold Oper.wp
      go_simp
      all_goals exact ⟨_, rfl, rfl, ⟨_, rfl⟩⟩
    · simp at hq
  case hend =>
    intro listed act w3 hI hall
    obtain ⟨nn, rfl⟩ := hI.cls
    have g2 : act.tmps[2]?.getD undef = .bool (((((((((t0 && t1) && t2) && t3) && t4) && t5) && t6) && t7) && t8) && t9) := hI.has 76 2 rfl (hall 76 (by decide))
    have hd := hI.defers
    clear hI hall
    go_wp2
    refine bodyPost_ret (v := .bool (((((((((t0 && t1) && t2) && t3) && t4) && t5) && t6) && t7) && t8) && t9)) (by simp [results, Tryz.results85, g2, go_sem]) (by first | rfl | exact hd) ?_
    first | refine ⟨?_, nn, rfl⟩ | refine ⟨nn, ?_, rfl⟩
    rw [HE.out]
    simp only [Bool.and_assoc]
theorem i_isState (x : Int) (w : World) :
    Calls Tryz.prog 56 #[.int .i64 x] w fun e w' => e = .returned (.bool (stateV x)) ∧ w' = w := by
  have h5 : decide (x < 5) = decide (x ≤ 4) := by rw [decide_eq_decide]; omega
  cases h : decide (0 ≤ x)
  all_goals
    go_enter Tryz.func56, Tryz.ntmps56
    go_wp2
    go_ret
  · exact ⟨by unfold stateV; rw [h]; rfl, rfl⟩
  · exact ⟨by unfold stateV; rw [h, ← h5]; rfl, rfl⟩
set_option maxHeartbeats 8000000 in
theorem i_ValidDrive (p0 p1 p2 p3 p4 p5 p6 p7 : Nat) (st : Int) (sp pi en : Nat) (w : World) :
    Calls Tryz.prog 27 #[.agg #[.float .f32 p0, .float .f32 p1, .float .f32 p2, .float .f32 p3, .float .f32 p4, .float .f32 p5, .float .f32 p6, .float .f32 p7, .int .i64 st, .float .f32 sp, .float .f32 pi, .float .f32 en]] w fun e w' => e = .returned (.bool (driveV p0 p1 p2 p3 p4 p5 p6 p7 st sp pi en)) ∧ Below w.heap.size w w' := by
  have HB : ∀ o1, Hid (Below w.heap.size w (w.alloc o1)) := fun _ => Lib.hid ((Below.refl _ _).alloc (Nat.le_refl _) _)
  have K1 : ∀ t, Hid (BlkL (w.alloc (.cells #[.float .f32 p0, .float .f32 p1, .float .f32 p2, .float .f32 p3, .float .f32 p4, .float .f32 p5, .float .f32 p6, .float .f32 p7, .int .i64 st, .float .f32 sp, .float .f32 pi, .float .f32 en] t)) w.heap.size [.float .f32 p0, .float .f32 p1, .float .f32 p2, .float .f32 p3, .float .f32 p4, .float .f32 p5, .float .f32 p6, .float .f32 p7, .int .i64 st, .float .f32 sp, .float .f32 pi, .float .f32 en]) := fun _ => Lib.hid (blkL_at w #[.float .f32 p0, .float .f32 p1, .float .f32 p2, .float .f32 p3, .float .f32 p4, .float .f32 p5, .float .f32 p6, .float .f32 p7, .int .i64 st, .float .f32 sp, .float .f32 pi, .float .f32 en] _ rfl)
  go_enter Tryz.func27, Tryz.ntmps27
  go_wp2_with fail
  refine (i_ValidPlant p0 p1 p2 p3 p4 p5 p6 p7 _).mono ?_
  rintro e w1 ⟨rfl, b1⟩
  have L1 : Hid (BlkL w1 w.heap.size [.float .f32 p0, .float .f32 p1, .float .f32 p2, .float .f32 p3, .float .f32 p4, .float .f32 p5, .float .f32 p6, .float .f32 p7, .int .i64 st, .float .f32 sp, .float .f32 pi, .float .f32 en]) := Lib.hid ((K1 _).out.below b1)
  have B1 : Hid (Below w.heap.size w w1) := Lib.hid (below_of (HB _).out (HB _).out.size b1)
  obtain ⟨-, k8, k9, k10, k11⟩ := L1.out.c12
  clear b1 K1 HB
  cases g0 : plantV p0 p1 p2 p3 p4 p5 p6 p7
  · go_wp2
    go_ret
    exact ⟨by unfold driveV; rw [g0]; rfl, by repeat (first | exact B1.out | refine below_draws ?_ _)⟩
  · skip
    go_wp2_with fail
    refine (i_isState _ _).mono ?_
    rintro e w' ⟨rfl, rfl⟩
    cases g1 : stateV st
    · go_wp2
      go_ret
      exact ⟨by unfold driveV; rw [g0, g1]; rfl, by repeat (first | exact B1.out | refine below_draws ?_ _)⟩
    · skip
      go_wp2_with fail
      refine (i_notAmount _ _).mono ?_
      rintro e w' ⟨n2, rfl, rfl⟩
      cases g2 : amount sp
      · go_wp2
        go_ret
        exact ⟨by unfold driveV; rw [g0, g1, g2]; rfl, by repeat (first | exact B1.out | refine below_draws ?_ _)⟩
      · skip
        go_wp2_with fail
        refine (i_isWithin _ _ _ _).mono ?_
        rintro e w' ⟨rfl, rfl⟩
        cases g3 : within pi 0 1065353216
        · go_wp2
          go_ret
          exact ⟨by unfold driveV; rw [g0, g1, g2, g3]; rfl, by repeat (first | exact B1.out | refine below_draws ?_ _)⟩
        · skip
          go_wp2_with fail
          refine (i_IsFinite _ _).mono ?_
          rintro e w' ⟨n4, rfl, rfl⟩
          go_wp2
          go_ret
          exact ⟨by unfold driveV; rw [g0, g1, g2, g3]; rfl, by repeat (first | exact B1.out | refine below_draws ?_ _)⟩
set_option maxHeartbeats 8000000 in
theorem s_l05Is (p0 p1 p2 p3 p4 p5 p6 p7 : Nat) (st : Int) (sp pi en : Nat) (B : Nat) (w : World) (hk : C12 w B p0 p1 p2 p3 p4 p5 p6 p7 st sp pi en) :
    Calls Tryz.prog 52 #[.pointer (some ⟨B, 0, none⟩)] w fun e w' => ∃ n, e = .returned (.bool (driveV p0 p1 p2 p3 p4 p5 p6 p7 st sp pi en)) ∧ w' = w.drewN n := by
  have HK := Lib.hid hk
  obtain ⟨-, k8, k9, k10, k11⟩ := hk
  go_enter Tryz.func52, Tryz.ntmps52
  go_wp2_with fail
  refine (s_l05Plant p0 p1 p2 p3 p4 p5 p6 p7 _ _ HK.out.1).mono ?_
  rintro e w' ⟨n0, rfl, rfl⟩
  cases g0 : plantV p0 p1 p2 p3 p4 p5 p6 p7
  · go_wp2
    go_ret
    exact ⟨_, by unfold driveV within geq32 leq32; rw [g0]; rfl, by first | rfl | (simp only [World.drewN_drewN]; rfl)⟩
  · skip
    go_wp2_with fail
    refine (s_l00In _ _ _ _).mono ?_
    rintro e w' ⟨rfl, rfl⟩
    rw [show (decide ((0 : Int) ≤ st) && decide (st ≤ 4)) = stateV st from rfl]
    cases g1 : stateV st
    · go_wp2
      go_ret
      exact ⟨_, by unfold driveV within geq32 leq32; rw [g0, g1]; rfl, by first | rfl | (simp only [World.drewN_drewN]; rfl)⟩
    · skip
      go_wp2_with fail
      refine (s_l02Least _ _).mono ?_
      rintro e w' ⟨n2, rfl, rfl⟩
      cases g2 : amount sp
      · go_wp2
        go_ret
        exact ⟨_, by unfold driveV within geq32 leq32; rw [g0, g1, g2]; rfl, by first | rfl | (simp only [World.drewN_drewN]; rfl)⟩
      · skip
        cases g3 : (FloatKind.f32.format.order pi 0 == some .gt || FloatKind.f32.format.order pi 0 == some .eq)
        · go_wp2
          go_ret
          exact ⟨_, by unfold driveV within geq32 leq32; rw [g0, g1, g2, g3]; rfl, by first | rfl | (simp only [World.drewN_drewN]; rfl)⟩
        · skip
          cases g4 : (FloatKind.f32.format.order pi 1065353216 == some .lt || FloatKind.f32.format.order pi 1065353216 == some .eq)
          · go_wp2
            go_ret
            exact ⟨_, by unfold driveV within geq32 leq32; rw [g0, g1, g2, g3, g4]; rfl, by first | rfl | (simp only [World.drewN_drewN]; rfl)⟩
          · skip
            go_wp2_with fail
            refine (s_l01Finite _ _).mono ?_
            rintro e w' ⟨n4, rfl, rfl⟩
            go_wp2
            go_ret
            exact ⟨_, by unfold driveV within geq32 leq32; rw [g0, g1, g2, g3, g4]; rfl, by first | rfl | (simp only [World.drewN_drewN]; rfl)⟩
end Go.Proofs.YtknabmknboffgaaGreatDoor
