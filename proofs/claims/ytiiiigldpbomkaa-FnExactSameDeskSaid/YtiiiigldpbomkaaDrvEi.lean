/- Plants and drives that are the same: both sides. No statement is proved here. -/
import Derived.Test.YtiiiigldpbomkaaDrv
import Derived.Test.YtiiiigldpbomkaaSame
import Derived.Test.YtiiiigldpbomkaaInv4
namespace Go.Proofs.Ytiiiigldpbomkaa
open Go Go.RowKit
def sm (x y : Nat) : Bool := decide (canon .f32 x = canon .f32 y)
/-- the same plants -/
def plantE (p0 p1 p2 p3 p4 p5 p6 p7 : Nat) (q0 q1 q2 q3 q4 q5 q6 q7 : Nat) : Bool := sm p0 q0 && (sm p1 q1 && (sm p2 q2 && (sm p3 q3 && (sm p4 q4 && (sm p5 q5 && (sm p6 q6 && (sm p7 q7)))))))
def driveE (p0 p1 p2 p3 p4 p5 p6 p7 : Nat) (st : Int) (sp pi en : Nat) (q0 q1 q2 q3 q4 q5 q6 q7 : Nat) (st' : Int) (sp' pi' en' : Nat) : Bool := plantE p0 p1 p2 p3 p4 p5 p6 p7 q0 q1 q2 q3 q4 q5 q6 q7 && (decide (st = st') && (sm sp sp' && (sm pi pi' && sm en en')))
def W8 (p0 p1 p2 p3 p4 p5 p6 p7 : Nat) : Prop := canon .f32 p0 < 4294967296 ∧ canon .f32 p1 < 4294967296 ∧ canon .f32 p2 < 4294967296 ∧ canon .f32 p3 < 4294967296 ∧ canon .f32 p4 < 4294967296 ∧ canon .f32 p5 < 4294967296 ∧ canon .f32 p6 < 4294967296 ∧ canon .f32 p7 < 4294967296
theorem sameL_plant (p0 p1 p2 p3 p4 p5 p6 p7 : Nat) (q0 q1 q2 q3 q4 q5 q6 q7 : Nat) : sameL [p0, p1, p2, p3, p4, p5, p6, p7] [q0, q1, q2, q3, q4, q5, q6, q7] = plantE p0 p1 p2 p3 p4 p5 p6 p7 q0 q1 q2 q3 q4 q5 q6 q7 := by
  unfold sameL plantE sm
  simp only [sameN, sameAt, List.length_cons, List.length_nil, decide_true, Bool.true_and, List.getD_cons_zero, List.getD_cons_succ, Bool.and_assoc]
theorem words_plant (p0 p1 p2 p3 p4 p5 p6 p7 : Nat) (h : W8 p0 p1 p2 p3 p4 p5 p6 p7) : Words [p0, p1, p2, p3, p4, p5, p6, p7] := by
  obtain ⟨h0, h1, h2, h3, h4, h5, h6, h7⟩ := h
  intro k hk
  rcases k with _ | _ | _ | _ | _ | _ | _ | _ | k
  all_goals first | assumption | (simp at hk; done) | skip
  simp at hk; omega
set_option maxHeartbeats 8000000 in
set_option maxRecDepth 100000 in
theorem i_SamePlant (p0 p1 p2 p3 p4 p5 p6 p7 : Nat) (q0 q1 q2 q3 q4 q5 q6 q7 : Nat) (w : World) (hw : W8 p0 p1 p2 p3 p4 p5 p6 p7) (hw' : W8 q0 q1 q2 q3 q4 q5 q6 q7) :
    Calls Try.prog 185 #[.agg #[.float .f32 p0, .float .f32 p1, .float .f32 p2, .float .f32 p3, .float .f32 p4, .float .f32 p5, .float .f32 p6, .float .f32 p7], .agg #[.float .f32 q0, .float .f32 q1, .float .f32 q2, .float .f32 q3, .float .f32 q4, .float .f32 q5, .float .f32 q6, .float .f32 q7]] w fun e w' => e = .returned (.bool (plantE p0 p1 p2 p3 p4 p5 p6 p7 q0 q1 q2 q3 q4 q5 q6 q7)) ∧ Below w.heap.size w w' := by
  have WP := Lib.hid (words_plant p0 p1 p2 p3 p4 p5 p6 p7 hw)
  have WQ := Lib.hid (words_plant q0 q1 q2 q3 q4 q5 q6 q7 hw')
  clear hw hw'
  obtain ⟨w1, hw1⟩ : ∃ w1, w1 = (w.alloc (.cells #[.float .f32 p0, .float .f32 p1, .float .f32 p2, .float .f32 p3, .float .f32 p4, .float .f32 p5, .float .f32 p6, .float .f32 p7] 98)).alloc (.cells #[.float .f32 q0, .float .f32 q1, .float .f32 q2, .float .f32 q3, .float .f32 q4, .float .f32 q5, .float .f32 q6, .float .f32 q7] 98) := ⟨_, rfl⟩
  have B1 : Hid (Below w.heap.size w w1) := Lib.hid (by rw [hw1]; exact ((Below.refl _ _).alloc (Nat.le_refl _) _).alloc (by simp) _)
  have K1 := Lib.hid (show BlkL w1 w.heap.size [.float .f32 p0, .float .f32 p1, .float .f32 p2, .float .f32 p3, .float .f32 p4, .float .f32 p5, .float .f32 p6, .float .f32 p7] by rw [hw1]; exact (blkL_at w #[.float .f32 p0, .float .f32 p1, .float .f32 p2, .float .f32 p3, .float .f32 p4, .float .f32 p5, .float .f32 p6, .float .f32 p7] _ rfl).alloc _)
  have K2 := Lib.hid (show BlkL w1 (w.heap.size + 1) [.float .f32 q0, .float .f32 q1, .float .f32 q2, .float .f32 q3, .float .f32 q4, .float .f32 q5, .float .f32 q6, .float .f32 q7] by rw [hw1]; exact blkL_at (w.alloc _) #[.float .f32 q0, .float .f32 q1, .float .f32 q2, .float .f32 q3, .float .f32 q4, .float .f32 q5, .float .f32 q6, .float .f32 q7] _ (by simp))
  go_enter Try.func185, Try.ntmps185
  go_wp2_with fail
  rw [← hw1]
  clear hw1
  refine wp_region_inv4 (fun iq wv v => match iq with
    | 0 => v = .agg #[.float .f32 p0, .float .f32 p1, .float .f32 p2, .float .f32 p3, .float .f32 p4, .float .f32 p5, .float .f32 p6, .float .f32 p7]
    | 1 => ∃ b, v = .slice (some ⟨b, 0, none⟩) 8 8 ∧ Fl wv (some ⟨b, 0, none⟩) [p0, p1, p2, p3, p4, p5, p6, p7]
    | 2 => v = .agg #[.float .f32 q0, .float .f32 q1, .float .f32 q2, .float .f32 q3, .float .f32 q4, .float .f32 q5, .float .f32 q6, .float .f32 q7]
    | 3 => ∃ b, v = .slice (some ⟨b, 0, none⟩) 8 8 ∧ Fl wv (some ⟨b, 0, none⟩) [q0, q1, q2, q3, q4, q5, q6, q7]
    | 4 => v = .bool (plantE p0 p1 p2 p3 p4 p5 p6 p7 q0 q1 q2 q3 q4 q5 q6 q7)
    | 5 => v = .bool (plantE p0 p1 p2 p3 p4 p5 p6 p7 q0 q1 q2 q3 q4 q5 q6 q7)
    | _ => False) (fun _ ww => Below w1.heap.size w1 ww) (fun w w' => Below w.heap.size w w') ?hmono (by kernel_rfl) (by kernel_rfl) ((Below.refl _ _).drew) ?hop ?hend
  case hmono =>
    intro i wa wb v hR hV
    rcases i with _ | _ | _ | _ | _ | _ | i
    · exact hV
    · (obtain ⟨b, h1, h2⟩ := hV; exact ⟨b, h1, h2.below hR⟩)
    · exact hV
    · (obtain ⟨b, h1, h2⟩ := hV; exact ⟨b, h1, h2.below hR⟩)
    · exact hV
    · exact hV
    · exact hV
  case hop =>
    intro q o hq listed act w3 hI hnot hcl hall
    have hB := hI.cls
    obtain ⟨k0, k1, k2, k3, k4, k5, k6, k7⟩ := (K1.out.below hB).c8
    obtain ⟨l0, l1, l2, l3, l4, l5, l6, l7⟩ := (K2.out.below hB).c8
    rcases q with _ | _ | _ | _ | _ | _ | q
    · simp at hq; subst hq
      have g2 : act.tmps[2]?.getD undef = .pointer (some ⟨w.heap.size, 0, none⟩) := hI.kept 2 (by kernel_rfl)
      clear hI hall hnot hcl
      refine .inl ⟨wanted_none rfl, ?_⟩
      unfold Oper.wp
      go_simp
      all_goals first | exact ⟨_, rfl, Below.refl _ _, rfl, hB⟩ | exact ⟨Below.refl _ _, hB⟩ | exact Below.refl _ _
    · simp at hq; subst hq
      have g5 : act.tmps[5]?.getD undef = .agg #[.float .f32 p0, .float .f32 p1, .float .f32 p2, .float .f32 p3, .float .f32 p4, .float .f32 p5, .float .f32 p6, .float .f32 p7] := hI.has 0 5 rfl (hall ⟨0, .data⟩ (by simp) rfl)
      clear hI hall hnot hcl
      refine .inl ⟨wanted_none rfl, ?_⟩
      unfold Oper.wp
      go_simp
      refine (i_numbers p0 p1 p2 p3 p4 p5 p6 p7 _).mono ?_
      rintro e w4 ⟨b, rfl, hF, b4⟩
      exact ⟨_, rfl, b4, ⟨b, rfl, hF⟩, below_of hB hB.size b4⟩
    · simp at hq; subst hq
      have g3 : act.tmps[3]?.getD undef = .pointer (some ⟨(w.heap.size + 1), 0, none⟩) := hI.kept 3 (by kernel_rfl)
      clear hI hall hnot hcl
      refine .inl ⟨wanted_none rfl, ?_⟩
      unfold Oper.wp
      go_simp
      all_goals first | exact ⟨_, rfl, Below.refl _ _, rfl, hB⟩ | exact ⟨Below.refl _ _, hB⟩ | exact Below.refl _ _
    · simp at hq; subst hq
      have g7 : act.tmps[7]?.getD undef = .agg #[.float .f32 q0, .float .f32 q1, .float .f32 q2, .float .f32 q3, .float .f32 q4, .float .f32 q5, .float .f32 q6, .float .f32 q7] := hI.has 2 7 rfl (hall ⟨2, .data⟩ (by simp) rfl)
      clear hI hall hnot hcl
      refine .inl ⟨wanted_none rfl, ?_⟩
      unfold Oper.wp
      go_simp
      refine (i_numbers q0 q1 q2 q3 q4 q5 q6 q7 _).mono ?_
      rintro e w4 ⟨b, rfl, hF, b4⟩
      exact ⟨_, rfl, b4, ⟨b, rfl, hF⟩, below_of hB hB.size b4⟩
    · simp at hq; subst hq
      obtain ⟨b1, g6, h1a⟩ := hI.has 1 6 rfl (hall ⟨1, .data⟩ (by simp) rfl)
      obtain ⟨b3, g8, h3a⟩ := hI.has 3 8 rfl (hall ⟨3, .data⟩ (by simp) rfl)
      clear hI hall hnot hcl
      refine .inl ⟨wanted_none rfl, ?_⟩
      unfold Oper.wp
      go_simp
      refine (i_EqualSame (some ⟨b1, 0, none⟩) (some ⟨b3, 0, none⟩) 8 8 [p0, p1, p2, p3, p4, p5, p6, p7] [q0, q1, q2, q3, q4, q5, q6, q7] _ h1a h3a WP.out WQ.out (by simp)).mono ?_
      rintro e w4 ⟨rfl, n4, rfl⟩
      rw [sameL_plant]
      exact ⟨_, rfl, below_draws (Below.refl _ _) _, rfl, below_draws hB _⟩
    · simp at hq; subst hq
      have g9 : act.tmps[9]?.getD undef = .bool (plantE p0 p1 p2 p3 p4 p5 p6 p7 q0 q1 q2 q3 q4 q5 q6 q7) := hI.has 4 9 rfl (hall ⟨4, .data⟩ (by simp) rfl)
      clear hI hall hnot hcl
      refine .inl ⟨wanted_none rfl, ?_⟩
      unfold Oper.wp
      go_simp
      all_goals first | exact ⟨_, rfl, Below.refl _ _, rfl, hB⟩ | exact ⟨Below.refl _ _, hB⟩ | exact Below.refl _ _
    · simp at hq
  case hend =>
    intro listed act w3 hI hall
    have hB := hI.cls
    obtain ⟨k0, k1, k2, k3, k4, k5, k6, k7⟩ := (K1.out.below hB).c8
    obtain ⟨l0, l1, l2, l3, l4, l5, l6, l7⟩ := (K2.out.below hB).c8
    have g4 : act.tmps[4]?.getD undef = .bool (plantE p0 p1 p2 p3 p4 p5 p6 p7 q0 q1 q2 q3 q4 q5 q6 q7) := hI.has 5 4 rfl (hall 5 (by decide))
    have hd := hI.defers
    clear hI hall
    go_wp2
    refine bodyPost_ret (v := .bool (plantE p0 p1 p2 p3 p4 p5 p6 p7 q0 q1 q2 q3 q4 q5 q6 q7)) (by simp [results, Try.results185, g4, go_sem]) (by first | rfl | exact hd) ⟨rfl, below_of B1.out B1.out.size hB⟩
set_option maxHeartbeats 8000000 in
theorem i_SameDrive (p0 p1 p2 p3 p4 p5 p6 p7 : Nat) (st : Int) (sp pi en : Nat) (q0 q1 q2 q3 q4 q5 q6 q7 : Nat) (st' : Int) (sp' pi' en' : Nat) (w : World) (hw : W8 p0 p1 p2 p3 p4 p5 p6 p7) (hw' : W8 q0 q1 q2 q3 q4 q5 q6 q7) (hv : canon .f32 sp < 4294967296 ∧ canon .f32 pi < 4294967296 ∧ canon .f32 en < 4294967296) (hv' : canon .f32 sp' < 4294967296 ∧ canon .f32 pi' < 4294967296 ∧ canon .f32 en' < 4294967296) :
    Calls Try.prog 143 #[.agg #[.float .f32 p0, .float .f32 p1, .float .f32 p2, .float .f32 p3, .float .f32 p4, .float .f32 p5, .float .f32 p6, .float .f32 p7, .int .i64 st, .float .f32 sp, .float .f32 pi, .float .f32 en], .agg #[.float .f32 q0, .float .f32 q1, .float .f32 q2, .float .f32 q3, .float .f32 q4, .float .f32 q5, .float .f32 q6, .float .f32 q7, .int .i64 st', .float .f32 sp', .float .f32 pi', .float .f32 en']] w fun e w' => e = .returned (.bool (driveE p0 p1 p2 p3 p4 p5 p6 p7 st sp pi en q0 q1 q2 q3 q4 q5 q6 q7 st' sp' pi' en')) ∧ Below w.heap.size w w' := by
  have HW := Lib.hid hw
  have HW' := Lib.hid hw'
  obtain ⟨a0, a1, a2⟩ := hv
  obtain ⟨b0, b1, b2⟩ := hv'
  have Q0 : ∀ W, Hid (Calls Try.prog 184 #[.float .f32 sp, .float .f32 sp'] W fun e w' => ∃ n, e = .returned (.bool (sm sp sp')) ∧ w' = W.drewN n) := fun W => Lib.hid (i_SameNumber _ _ _ a0 b0)
  have Q1 : ∀ W, Hid (Calls Try.prog 184 #[.float .f32 pi, .float .f32 pi'] W fun e w' => ∃ n, e = .returned (.bool (sm pi pi')) ∧ w' = W.drewN n) := fun W => Lib.hid (i_SameNumber _ _ _ a1 b1)
  have Q2 : ∀ W, Hid (Calls Try.prog 184 #[.float .f32 en, .float .f32 en'] W fun e w' => ∃ n, e = .returned (.bool (sm en en')) ∧ w' = W.drewN n) := fun W => Lib.hid (i_SameNumber _ _ _ a2 b2)
  clear hw hw' a0 a1 a2 b0 b1 b2
  have HE : Hid (driveE p0 p1 p2 p3 p4 p5 p6 p7 st sp pi en q0 q1 q2 q3 q4 q5 q6 q7 st' sp' pi' en' = (plantE p0 p1 p2 p3 p4 p5 p6 p7 q0 q1 q2 q3 q4 q5 q6 q7 && (decide (st = st') && (sm sp sp' && (sm pi pi' && sm en en'))))) := rfl
  have QP : ∀ W, Hid (Calls Try.prog 185 #[.agg #[.float .f32 p0, .float .f32 p1, .float .f32 p2, .float .f32 p3, .float .f32 p4, .float .f32 p5, .float .f32 p6, .float .f32 p7], .agg #[.float .f32 q0, .float .f32 q1, .float .f32 q2, .float .f32 q3, .float .f32 q4, .float .f32 q5, .float .f32 q6, .float .f32 q7]] W fun e w' => e = .returned (.bool (plantE p0 p1 p2 p3 p4 p5 p6 p7 q0 q1 q2 q3 q4 q5 q6 q7)) ∧ Below W.heap.size W w') := fun W => Lib.hid (i_SamePlant p0 p1 p2 p3 p4 p5 p6 p7 q0 q1 q2 q3 q4 q5 q6 q7 W HW.out HW'.out)
  have PS : Hid ((st == st') = decide (st = st')) := Lib.hid (by rfl)
  generalize plantE p0 p1 p2 p3 p4 p5 p6 p7 q0 q1 q2 q3 q4 q5 q6 q7 = t at QP HE
  generalize decide (st = st') = ts at PS HE
  generalize sm sp sp' = t0 at Q0 HE
  generalize sm pi pi' = t1 at Q1 HE
  generalize sm en en' = t2 at Q2 HE
  generalize driveE p0 p1 p2 p3 p4 p5 p6 p7 st sp pi en q0 q1 q2 q3 q4 q5 q6 q7 st' sp' pi' en' = tt at HE
  obtain ⟨w1, hw1⟩ : ∃ w1, w1 = (w.alloc (.cells #[.float .f32 p0, .float .f32 p1, .float .f32 p2, .float .f32 p3, .float .f32 p4, .float .f32 p5, .float .f32 p6, .float .f32 p7, .int .i64 st, .float .f32 sp, .float .f32 pi, .float .f32 en] 100)).alloc (.cells #[.float .f32 q0, .float .f32 q1, .float .f32 q2, .float .f32 q3, .float .f32 q4, .float .f32 q5, .float .f32 q6, .float .f32 q7, .int .i64 st', .float .f32 sp', .float .f32 pi', .float .f32 en'] 100) := ⟨_, rfl⟩
  have B1 : Hid (Below w.heap.size w w1) := Lib.hid (by rw [hw1]; exact ((Below.refl _ _).alloc (Nat.le_refl _) _).alloc (by simp) _)
  have K1 := Lib.hid (show BlkL w1 w.heap.size [.float .f32 p0, .float .f32 p1, .float .f32 p2, .float .f32 p3, .float .f32 p4, .float .f32 p5, .float .f32 p6, .float .f32 p7, .int .i64 st, .float .f32 sp, .float .f32 pi, .float .f32 en] by rw [hw1]; exact (blkL_at w #[.float .f32 p0, .float .f32 p1, .float .f32 p2, .float .f32 p3, .float .f32 p4, .float .f32 p5, .float .f32 p6, .float .f32 p7, .int .i64 st, .float .f32 sp, .float .f32 pi, .float .f32 en] _ rfl).alloc _)
  have K2 := Lib.hid (show BlkL w1 (w.heap.size + 1) [.float .f32 q0, .float .f32 q1, .float .f32 q2, .float .f32 q3, .float .f32 q4, .float .f32 q5, .float .f32 q6, .float .f32 q7, .int .i64 st', .float .f32 sp', .float .f32 pi', .float .f32 en'] by rw [hw1]; exact blkL_at (w.alloc _) #[.float .f32 q0, .float .f32 q1, .float .f32 q2, .float .f32 q3, .float .f32 q4, .float .f32 q5, .float .f32 q6, .float .f32 q7, .int .i64 st', .float .f32 sp', .float .f32 pi', .float .f32 en'] _ (by simp))
  clear HW HW'
  cases pe : (st == st')
  · have PE := Lib.hid pe; clear pe
    have TS : Hid (ts = false) := Lib.hid (by rw [← PS.out]; exact PE.out)
    go_enter Try.func143, Try.ntmps143
    go_wp2_with fail
    rw [← hw1]
    clear hw1
    obtain ⟨⟨k0, k1, k2, k3, k4, k5, k6, k7⟩, -⟩ := K1.out.c12
    obtain ⟨⟨l0, l1, l2, l3, l4, l5, l6, l7⟩, -⟩ := K2.out.c12
    go_wp2_with fail
    clear k0 k1 k2 k3 k4 k5 k6 k7 l0 l1 l2 l3 l4 l5 l6 l7
    refine (QP _).out.mono ?_
    rintro e w2 ⟨rfl, b2⟩
    have B2 : Hid (Below w.heap.size w w2) := Lib.hid (below_of B1.out B1.out.size b2)
    obtain ⟨-, k8, k9, k10, k11⟩ := (K1.out.below b2).c12
    obtain ⟨-, l8, l9, l10, l11⟩ := (K2.out.below b2).c12
    clear b2 K1 K2 B1
    cases t
    · go_wp2
      go_ret
      exact ⟨by rw [HE.out]; rfl, B2.out⟩
    · have PE1 := PE.out
      go_wp2
      go_ret
      exact ⟨by rw [HE.out, TS.out]; rfl, B2.out⟩
  · have PE := Lib.hid pe; clear pe
    have TS : Hid (ts = true) := Lib.hid (by rw [← PS.out]; exact PE.out)
    go_enter Try.func143, Try.ntmps143
    go_wp2_with fail
    rw [← hw1]
    clear hw1
    obtain ⟨⟨k0, k1, k2, k3, k4, k5, k6, k7⟩, -⟩ := K1.out.c12
    obtain ⟨⟨l0, l1, l2, l3, l4, l5, l6, l7⟩, -⟩ := K2.out.c12
    go_wp2_with fail
    clear k0 k1 k2 k3 k4 k5 k6 k7 l0 l1 l2 l3 l4 l5 l6 l7
    refine (QP _).out.mono ?_
    rintro e w2 ⟨rfl, b2⟩
    have B2 : Hid (Below w.heap.size w w2) := Lib.hid (below_of B1.out B1.out.size b2)
    obtain ⟨-, k8, k9, k10, k11⟩ := (K1.out.below b2).c12
    obtain ⟨-, l8, l9, l10, l11⟩ := (K2.out.below b2).c12
    clear b2 K1 K2 B1
    cases t
    · go_wp2
      go_ret
      exact ⟨by rw [HE.out]; rfl, B2.out⟩
    · have PE1 := PE.out
      go_wp2_with fail
      refine (Q0 _).out.mono ?_
      rintro e w' ⟨n0, rfl, rfl⟩
      cases t0
      · go_wp2
        go_ret
        exact ⟨by rw [HE.out, TS.out]; rfl, by repeat (first | exact B2.out | refine below_draws ?_ _)⟩
      · skip
        go_wp2_with fail
        refine (Q1 _).out.mono ?_
        rintro e w' ⟨n1, rfl, rfl⟩
        cases t1
        · go_wp2
          go_ret
          exact ⟨by rw [HE.out, TS.out]; rfl, by repeat (first | exact B2.out | refine below_draws ?_ _)⟩
        · skip
          go_wp2_with fail
          refine (Q2 _).out.mono ?_
          rintro e w' ⟨n2, rfl, rfl⟩
          go_wp2
          go_ret
          exact ⟨by rw [HE.out, TS.out]; rfl, by repeat (first | exact B2.out | refine below_draws ?_ _)⟩
end Go.Proofs.Ytiiiigldpbomkaa
