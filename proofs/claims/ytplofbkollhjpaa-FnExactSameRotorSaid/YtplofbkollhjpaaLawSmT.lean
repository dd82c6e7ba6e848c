/- The law FnExactSameRotor. No statement is proved here. -/
import Derived.Test.YtplofbkollhjpaaRsmS
import Derived.Test.YtplofbkollhjpaaRotL
import Derived.Test.YtplofbkollhjpaaRotW
import Derived.Test.YtplofbkollhjpaaOpenWP
import Derived.Test.YtplofbkollhjpaaInv6
import Derived.Test.YtplofbkollhjpaaInv7
namespace Go.Proofs.Ytplofbkollhjpaa
open Go Go.RowKit
set_option maxHeartbeats 16000000 in
set_option maxRecDepth 100000 in
theorem law_FnExactSameRotor (A0 L0 D0 S0 : Option Addr) (ca0 cl0 cd0 n0 cs0 : Nat) (c0 : Int) (hub0 tip0 : Nat) (a0 l0 d0 s0 : List Nat) (A1 L1 D1 S1 : Option Addr) (ca1 cl1 cd1 n1 cs1 : Nat) (c1 : Int) (hub1 tip1 : Nat) (a1 l1 d1 s1 : List Nat) (w : World) (h0 : Rt w A0 L0 D0 S0 a0 l0 d0 s0) (hs0 : s0.length = n0 * 3) (ma0 : a0.length ≤ 9223372036854775807) (ml0 : l0.length ≤ 9223372036854775807) (md0 : d0.length ≤ 9223372036854775807) (ms0 : n0 ≤ 9223372036854775807) (hw0 : WordsP a0 l0 d0) (hz0 : ∀ x ∈ s0, x < words .f32) (_hc0 : (Lit.int .i64 c0).wf = true) (hv0 : hub0 < words .f32) (hx0 : tip0 < words .f32) (h1 : Rt w A1 L1 D1 S1 a1 l1 d1 s1) (hs1 : s1.length = n1 * 3) (ma1 : a1.length ≤ 9223372036854775807) (ml1 : l1.length ≤ 9223372036854775807) (md1 : d1.length ≤ 9223372036854775807) (ms1 : n1 ≤ 9223372036854775807) (hw1 : WordsP a1 l1 d1) (hz1 : ∀ x ∈ s1, x < words .f32) (_hc1 : (Lit.int .i64 c1).wf = true) (hv1 : hub1 < words .f32) (hx1 : tip1 < words .f32) :
    Calls Try.prog 10 #[.agg #[.slice A0 a0.length ca0, .slice L0 l0.length cl0, .slice D0 d0.length cd0, .slice S0 n0 cs0, .int .i64 c0, .float .f32 hub0, .float .f32 tip0], .agg #[.slice A1 a1.length ca1, .slice L1 l1.length cl1, .slice D1 d1.length cd1, .slice S1 n1 cs1, .int .i64 c1, .float .f32 hub1, .float .f32 tip1]] w fun e w' => e = .returned (.bool true) ∧ Below w.heap.size w w' := by
  have HP0 := Lib.hid h0
  clear h0
  have HW0 := Lib.hid hw0
  clear hw0
  have HSL0 := Lib.hid hs0
  have HZ0 := Lib.hid hz0
  have HX0 := Lib.hid hx0
  clear hs0 hz0 hx0 _hc0
  have HV0 := Lib.hid hv0
  clear hv0
  have HP1 := Lib.hid h1
  clear h1
  have HW1 := Lib.hid hw1
  clear hw1
  have HSL1 := Lib.hid hs1
  have HZ1 := Lib.hid hz1
  have HX1 := Lib.hid hx1
  clear hs1 hz1 hx1 _hc1
  have HV1 := Lib.hid hv1
  clear hv1
  by_cases hn0 : a0.length + l0.length + d0.length + n0 ≤ 1048576
  · skip
    by_cases hn1 : a0.length + l0.length + d0.length + n0 + (a1.length + l1.length + d1.length + n1) ≤ 1048576
    · skip
      have HN0 : Hid (FewR a0 l0 d0 s0 n0) := Lib.hid (by have := HSL0.out; unfold FewR; omega)
      have HN1 : Hid (FewR a1 l1 d1 s1 n1) := Lib.hid (by have := HSL1.out; unfold FewR; omega)
      obtain ⟨w0, hw0⟩ : ∃ x, x = ((w.alloc (.cells #[.slice A0 a0.length ca0, .slice L0 l0.length cl0, .slice D0 d0.length cd0, .slice S0 n0 cs0, .int .i64 c0, .float .f32 hub0, .float .f32 tip0] 46)).alloc (.cells #[.slice A1 a1.length ca1, .slice L1 l1.length cl1, .slice D1 d1.length cd1, .slice S1 n1 cs1, .int .i64 c1, .float .f32 hub1, .float .f32 tip1] 46)) := ⟨_, rfl⟩
      have B0 : Hid (Below w.heap.size w w0) := Lib.hid (by rw [hw0]; exact ((Below.refl _ _).alloc (Nat.le_refl _) _).alloc (by simp <;> omega) _)
      have Z0 : Hid (w0.heap.size = w.heap.size + 2) := Lib.hid (by rw [hw0]; simp)
      have K0 : Hid (BlkL w0 (w.heap.size) [.slice A0 a0.length ca0, .slice L0 l0.length cl0, .slice D0 d0.length cd0, .slice S0 n0 cs0, .int .i64 c0, .float .f32 hub0, .float .f32 tip0]) := Lib.hid (by rw [hw0]; exact (blkL_at w #[.slice A0 a0.length ca0, .slice L0 l0.length cl0, .slice D0 d0.length cd0, .slice S0 n0 cs0, .int .i64 c0, .float .f32 hub0, .float .f32 tip0] 46 rfl).alloc _)
      have K1 : Hid (BlkL w0 (w.heap.size + 1) [.slice A1 a1.length ca1, .slice L1 l1.length cl1, .slice D1 d1.length cd1, .slice S1 n1 cs1, .int .i64 c1, .float .f32 hub1, .float .f32 tip1]) := Lib.hid (by rw [hw0]; exact blkL_at (w.alloc (.cells #[.slice A0 a0.length ca0, .slice L0 l0.length cl0, .slice D0 d0.length cd0, .slice S0 n0 cs0, .int .i64 c0, .float .f32 hub0, .float .f32 tip0] 46)) #[.slice A1 a1.length ca1, .slice L1 l1.length cl1, .slice D1 d1.length cd1, .slice S1 n1 cs1, .int .i64 c1, .float .f32 hub1, .float .f32 tip1] 46 (by simp))
      go_enter Try.func10, Try.ntmps10
      go_wp2_with fail
      rw [← hw0]
      clear hw0
      have hq0 : (0 : Int) ≤ 1048576 - (a0.length : Int) - (l0.length : Int) - (d0.length : Int) - (n0 : Int) := by omega
      have hq1 : (0 : Int) ≤ 1048576 - (a0.length : Int) - (l0.length : Int) - (d0.length : Int) - (n0 : Int) - (a1.length : Int) - (l1.length : Int) - (d1.length : Int) - (n1 : Int) := by omega
      obtain ⟨K0x0, K0x1, K0x2, K0x3, K0x4, K0x5, K0x6⟩ := K0.out.seven
      obtain ⟨K1x0, K1x1, K1x2, K1x3, K1x4, K1x5, K1x6⟩ := K1.out.seven
      go_wp2_with fail
      refine (l_szRotor_yes A0 L0 D0 S0 _ ca0 _ cl0 _ cd0 n0 cs0 c0 hub0 tip0 _ _ (by omega) (by omega)).mono ?_
      rintro e wd1 ⟨rfl, b⟩
      have B1 : Hid (Below w.heap.size w wd1) := Lib.hid (below_of B0.out B0.out.size b)
      have Z1 : Hid (w0.heap.size ≤ wd1.heap.size) := Lib.hid b.size
      have K0_1 : Hid (BlkL wd1 (w.heap.size) [.slice A0 a0.length ca0, .slice L0 l0.length cl0, .slice D0 d0.length cd0, .slice S0 n0 cs0, .int .i64 c0, .float .f32 hub0, .float .f32 tip0]) := Lib.hid (K0.out.below b)
      have K1_1 : Hid (BlkL wd1 (w.heap.size + 1) [.slice A1 a1.length ca1, .slice L1 l1.length cl1, .slice D1 d1.length cd1, .slice S1 n1 cs1, .int .i64 c1, .float .f32 hub1, .float .f32 tip1]) := Lib.hid (K1.out.below b)
      clear K0x0 K0x1 K0x2 K0x3 K0x4 K0x5 K0x6 K1x0 K1x1 K1x2 K1x3 K1x4 K1x5 K1x6
      clear K0 K1
      clear b
      obtain ⟨K0x0, K0x1, K0x2, K0x3, K0x4, K0x5, K0x6⟩ := K0_1.out.seven
      obtain ⟨K1x0, K1x1, K1x2, K1x3, K1x4, K1x5, K1x6⟩ := K1_1.out.seven
      go_wp2_with fail
      refine (l_szRotor_yes A1 L1 D1 S1 _ ca1 _ cl1 _ cd1 n1 cs1 c1 hub1 tip1 _ _ (by omega) (by omega)).mono ?_
      rintro e wd2 ⟨rfl, b⟩
      have B2 : Hid (Below w.heap.size w wd2) := Lib.hid (below_of B1.out B1.out.size b)
      have Z2 : Hid (wd1.heap.size ≤ wd2.heap.size) := Lib.hid b.size
      have K0_2 : Hid (BlkL wd2 (w.heap.size) [.slice A0 a0.length ca0, .slice L0 l0.length cl0, .slice D0 d0.length cd0, .slice S0 n0 cs0, .int .i64 c0, .float .f32 hub0, .float .f32 tip0]) := Lib.hid (K0_1.out.below b)
      have K1_2 : Hid (BlkL wd2 (w.heap.size + 1) [.slice A1 a1.length ca1, .slice L1 l1.length cl1, .slice D1 d1.length cd1, .slice S1 n1 cs1, .int .i64 c1, .float .f32 hub1, .float .f32 tip1]) := Lib.hid (K1_1.out.below b)
      clear K0x0 K0x1 K0x2 K0x3 K0x4 K0x5 K0x6 K1x0 K1x1 K1x2 K1x3 K1x4 K1x5 K1x6
      clear K0_1 K1_1
      clear b
      obtain ⟨K0x0, K0x1, K0x2, K0x3, K0x4, K0x5, K0x6⟩ := K0_2.out.seven
      obtain ⟨K1x0, K1x1, K1x2, K1x3, K1x4, K1x5, K1x6⟩ := K1_2.out.seven
      go_wp2_with fail
      clear K0x0 K0x1 K0x2 K0x3 K0x4 K0x5 K0x6 K1x0 K1x1 K1x2 K1x3 K1x4 K1x5 K1x6
      refine wp_region_inv4 (fun iq wv v => match iq with
        | 0 => v = .agg #[.slice A0 a0.length ca0, .slice L0 l0.length cl0, .slice D0 d0.length cd0, .slice S0 n0 cs0, .int .i64 c0, .float .f32 hub0, .float .f32 tip0]
        | 1 => ∃ q1 q2 q3 q4, v = .agg #[.slice (some ⟨q1, 0, none⟩) a0.length a0.length, .slice (some ⟨q2, 0, none⟩) l0.length l0.length, .slice (some ⟨q3, 0, none⟩) d0.length d0.length, .slice (some ⟨q4, 0, none⟩) n0 n0, .int .i64 c0, .float .f32 hub0, .float .f32 tip0] ∧ OwnR wv wd2.heap.size q1 q2 q3 q4 a0 l0 d0 s0
        | 2 => v = .agg #[.slice A1 a1.length ca1, .slice L1 l1.length cl1, .slice D1 d1.length cd1, .slice S1 n1 cs1, .int .i64 c1, .float .f32 hub1, .float .f32 tip1]
        | 3 => ∃ q1 q2 q3 q4, v = .agg #[.slice (some ⟨q1, 0, none⟩) a1.length a1.length, .slice (some ⟨q2, 0, none⟩) l1.length l1.length, .slice (some ⟨q3, 0, none⟩) d1.length d1.length, .slice (some ⟨q4, 0, none⟩) n1 n1, .int .i64 c1, .float .f32 hub1, .float .f32 tip1] ∧ OwnR wv wd2.heap.size q1 q2 q3 q4 a1 l1 d1 s1
        | 4 => v = .bool (rotE a0 l0 d0 s0 n0 c0 hub0 tip0 a1 l1 d1 s1 n1 c1 hub1 tip1)
        | 5 => v = .bool (rotE a0 l0 d0 s0 n0 c0 hub0 tip0 a1 l1 d1 s1 n1 c1 hub1 tip1)
        | _ => False) (fun _ ww => Below wd2.heap.size wd2 ww) (fun w w' => Below w.heap.size w w') ?hmono (by kernel_rfl) (by kernel_rfl) ((Below.refl _ _).drew) ?hop ?hend
      case hmono =>
        intro i wa wb v hR hV
        rcases i with _ | _ | _ | _ | _ | _ | i
        · exact hV
        · obtain ⟨q1, q2, q3, q4, rfl, ho⟩ := hV; exact ⟨q1, q2, q3, q4, rfl, ho.below hR⟩
        · exact hV
        · obtain ⟨q1, q2, q3, q4, rfl, ho⟩ := hV; exact ⟨q1, q2, q3, q4, rfl, ho.below hR⟩
        · exact hV
        · exact hV
        · exact hV
      case hop =>
        intro q o hq listed act w3 hI hnot hcl hall
        have hB := hI.cls
        obtain ⟨K0x0, K0x1, K0x2, K0x3, K0x4, K0x5, K0x6⟩ := (K0_2.out.below hB).seven
        obtain ⟨K1x0, K1x1, K1x2, K1x3, K1x4, K1x5, K1x6⟩ := (K1_2.out.below hB).seven
        rcases q with _ | _ | _ | _ | _ | _ | q
        · simp at hq; subst hq
          have g2 : act.tmps[2]?.getD undef = .pointer (some ⟨w.heap.size, 0, none⟩) := hI.kept 2 (by kernel_rfl)
          clear hI hall hnot hcl
          refine .inl ⟨wanted_none rfl, ?_⟩
          unfold Oper.wp
          go_simp
          all_goals first | exact ⟨_, rfl, Below.refl _ _, rfl, hB⟩ | exact ⟨Below.refl _ _, hB⟩ | exact Below.refl _ _
        · simp at hq; subst hq
          have g20 : act.tmps[20]?.getD undef = .agg #[.slice A0 a0.length ca0, .slice L0 l0.length cl0, .slice D0 d0.length cd0, .slice S0 n0 cs0, .int .i64 c0, .float .f32 hub0, .float .f32 tip0] := hI.has 0 20 rfl (hall ⟨0, .data⟩ (by simp) rfl)
          clear hI hall hnot hcl
          refine .inl ⟨wanted_none rfl, ?_⟩
          unfold Oper.wp
          go_simp
          refine (l_toRotor A0 L0 D0 S0 ca0 cl0 cd0 n0 cs0 c0 hub0 tip0 a0 l0 d0 s0 _ (HP0.out.below (below_of B2.out B2.out.size hB)) HN0.out).mono ?_
          rintro e w4 ⟨q1, q2, q3, q4, rfl, ho, b4⟩
          exact ⟨_, rfl, b4, ⟨q1, q2, q3, q4, rfl, (⟨⟨by have := ho.1.1; have := hB.size; omega, ho.1.2⟩, ho.2⟩ : OwnR _ _ _ _ _ _ _ _ _ _)⟩, below_of hB hB.size b4⟩
        · simp at hq; subst hq
          have g3 : act.tmps[3]?.getD undef = .pointer (some ⟨(w.heap.size + 1), 0, none⟩) := hI.kept 3 (by kernel_rfl)
          clear hI hall hnot hcl
          refine .inl ⟨wanted_none rfl, ?_⟩
          unfold Oper.wp
          go_simp
          all_goals first | exact ⟨_, rfl, Below.refl _ _, rfl, hB⟩ | exact ⟨Below.refl _ _, hB⟩ | exact Below.refl _ _
        · simp at hq; subst hq
          have g22 : act.tmps[22]?.getD undef = .agg #[.slice A1 a1.length ca1, .slice L1 l1.length cl1, .slice D1 d1.length cd1, .slice S1 n1 cs1, .int .i64 c1, .float .f32 hub1, .float .f32 tip1] := hI.has 2 22 rfl (hall ⟨2, .data⟩ (by simp) rfl)
          clear hI hall hnot hcl
          refine .inl ⟨wanted_none rfl, ?_⟩
          unfold Oper.wp
          go_simp
          refine (l_toRotor A1 L1 D1 S1 ca1 cl1 cd1 n1 cs1 c1 hub1 tip1 a1 l1 d1 s1 _ (HP1.out.below (below_of B2.out B2.out.size hB)) HN1.out).mono ?_
          rintro e w4 ⟨q1, q2, q3, q4, rfl, ho, b4⟩
          exact ⟨_, rfl, b4, ⟨q1, q2, q3, q4, rfl, (⟨⟨by have := ho.1.1; have := hB.size; omega, ho.1.2⟩, ho.2⟩ : OwnR _ _ _ _ _ _ _ _ _ _)⟩, below_of hB hB.size b4⟩
        · simp at hq; subst hq
          obtain ⟨q11, q21, q31, q41, g21, h1a⟩ := hI.has 1 21 rfl (hall ⟨1, .data⟩ (by simp) rfl)
          obtain ⟨q13, q23, q33, q43, g23, h3a⟩ := hI.has 3 23 rfl (hall ⟨3, .data⟩ (by simp) rfl)
          clear hI hall hnot hcl
          refine .inl ⟨wanted_none rfl, ?_⟩
          unfold Oper.wp
          go_simp
          refine (s_SameRotor _ _ _ _ _ _ _ _ _ _ _ _ a0 l0 d0 s0 _ _ _ _ _ _ _ _ _ _ _ _ a1 l1 d1 s1 _ (OwnR.rt h1a) (OwnR.rt h3a) HN0.out HN1.out HW0.out HW1.out (words_of HZ0.out) (words_of HZ1.out) ⟨canon_lt HV0.out, canon_lt HX0.out⟩ ⟨canon_lt HV1.out, canon_lt HX1.out⟩).mono ?_
          rintro e w4 ⟨rfl, b4⟩
          exact ⟨_, rfl, b4, rfl, below_of hB hB.size b4⟩
        · simp at hq; subst hq
          have g24 : act.tmps[24]?.getD undef = .bool (rotE a0 l0 d0 s0 n0 c0 hub0 tip0 a1 l1 d1 s1 n1 c1 hub1 tip1) := hI.has 4 24 rfl (hall ⟨4, .data⟩ (by simp) rfl)
          clear hI hall hnot hcl
          refine .inl ⟨wanted_none rfl, ?_⟩
          unfold Oper.wp
          go_simp
          all_goals first | exact ⟨_, rfl, Below.refl _ _, rfl, hB⟩ | exact ⟨Below.refl _ _, hB⟩ | exact Below.refl _ _
        · simp at hq
      case hend =>
        intro listed act w3 hI hall
        have hB := hI.cls
        obtain ⟨K0x0, K0x1, K0x2, K0x3, K0x4, K0x5, K0x6⟩ := (K0_2.out.below hB).seven
        obtain ⟨K1x0, K1x1, K1x2, K1x3, K1x4, K1x5, K1x6⟩ := (K1_2.out.below hB).seven
        have g6 : act.tmps[6]?.getD undef = .bool (rotE a0 l0 d0 s0 n0 c0 hub0 tip0 a1 l1 d1 s1 n1 c1 hub1 tip1) := hI.has 5 6 rfl (hall 5 (by decide))
        have g0 := hI.kept 0 (by kernel_rfl)
        conv at g0 => rhs; whnf
        have g1 := hI.kept 1 (by kernel_rfl)
        conv at g1 => rhs; whnf
        have g2 := hI.kept 2 (by kernel_rfl)
        conv at g2 => rhs; whnf
        have g3 := hI.kept 3 (by kernel_rfl)
        conv at g3 => rhs; whnf
        have g4 := hI.kept 4 (by kernel_rfl)
        conv at g4 => rhs; whnf
        have g5 := hI.kept 5 (by kernel_rfl)
        conv at g5 => rhs; whnf
        have g7 : act.tmps[7]?.getD undef = undef := hI.kept 7 (by kernel_rfl)
        have g8 : act.tmps[8]?.getD undef = undef := hI.kept 8 (by kernel_rfl)
        have g9 : act.tmps[9]?.getD undef = undef := hI.kept 9 (by kernel_rfl)
        have g10 := hI.kept 10 (by kernel_rfl)
        conv at g10 => rhs; whnf
        have g11 := hI.kept 11 (by kernel_rfl)
        conv at g11 => rhs; whnf
        have g12 := hI.kept 12 (by kernel_rfl)
        conv at g12 => rhs; whnf
        have g13 := hI.kept 13 (by kernel_rfl)
        conv at g13 => rhs; whnf
        have g14 := hI.kept 14 (by kernel_rfl)
        conv at g14 => rhs; whnf
        have g15 := hI.kept 15 (by kernel_rfl)
        conv at g15 => rhs; whnf
        have g16 := hI.kept 16 (by kernel_rfl)
        conv at g16 => rhs; whnf
        have g17 := hI.kept 17 (by kernel_rfl)
        conv at g17 => rhs; whnf
        have g18 := hI.kept 18 (by kernel_rfl)
        conv at g18 => rhs; whnf
        have g19 := hI.kept 19 (by kernel_rfl)
        conv at g19 => rhs; whnf
        have g25 : act.tmps[25]?.getD undef = undef := hI.kept 25 (by kernel_rfl)
        have g26 : act.tmps[26]?.getD undef = undef := hI.kept 26 (by kernel_rfl)
        have g27 : act.tmps[27]?.getD undef = undef := hI.kept 27 (by kernel_rfl)
        have g28 : act.tmps[28]?.getD undef = undef := hI.kept 28 (by kernel_rfl)
        have g29 : act.tmps[29]?.getD undef = undef := hI.kept 29 (by kernel_rfl)
        have g30 : act.tmps[30]?.getD undef = undef := hI.kept 30 (by kernel_rfl)
        have g31 : act.tmps[31]?.getD undef = undef := hI.kept 31 (by kernel_rfl)
        have g32 : act.tmps[32]?.getD undef = undef := hI.kept 32 (by kernel_rfl)
        have g33 : act.tmps[33]?.getD undef = undef := hI.kept 33 (by kernel_rfl)
        have g34 : act.tmps[34]?.getD undef = undef := hI.kept 34 (by kernel_rfl)
        have g35 : act.tmps[35]?.getD undef = undef := hI.kept 35 (by kernel_rfl)
        have g36 : act.tmps[36]?.getD undef = undef := hI.kept 36 (by kernel_rfl)
        have g37 : act.tmps[37]?.getD undef = undef := hI.kept 37 (by kernel_rfl)
        have g38 : act.tmps[38]?.getD undef = undef := hI.kept 38 (by kernel_rfl)
        have g39 : act.tmps[39]?.getD undef = undef := hI.kept 39 (by kernel_rfl)
        have g40 : act.tmps[40]?.getD undef = undef := hI.kept 40 (by kernel_rfl)
        have g41 : act.tmps[41]?.getD undef = undef := hI.kept 41 (by kernel_rfl)
        have g42 : act.tmps[42]?.getD undef = undef := hI.kept 42 (by kernel_rfl)
        have g43 : act.tmps[43]?.getD undef = undef := hI.kept 43 (by kernel_rfl)
        have g44 : act.tmps[44]?.getD undef = undef := hI.kept 44 (by kernel_rfl)
        have hsz : act.tmps.size = 45 := hI.size.trans (by kernel_rfl)
        have hd := hI.defers
        clear hI hall K0x0 K0x1 K0x2 K0x3 K0x4 K0x5 K0x6 K1x0 K1x1 K1x2 K1x3 K1x4 K1x5 K1x6
        obtain ⟨tt, dd⟩ := act
        simp only at g0 g1 g2 g3 g4 g5 g6 g7 g8 g9 g10 g11 g12 g13 g14 g15 g16 g17 g18 g19 g25 g26 g27 g28 g29 g30 g31 g32 g33 g34 g35 g36 g37 g38 g39 g40 g41 g42 g43 g44 hsz hd
        subst hd
        have hl : tt = #[tt[0]?.getD undef, tt[1]?.getD undef, tt[2]?.getD undef, tt[3]?.getD undef, tt[4]?.getD undef, tt[5]?.getD undef, tt[6]?.getD undef, tt[7]?.getD undef, tt[8]?.getD undef, tt[9]?.getD undef, tt[10]?.getD undef, tt[11]?.getD undef, tt[12]?.getD undef, tt[13]?.getD undef, tt[14]?.getD undef, tt[15]?.getD undef, tt[16]?.getD undef, tt[17]?.getD undef, tt[18]?.getD undef, tt[19]?.getD undef, tt[20]?.getD undef, tt[21]?.getD undef, tt[22]?.getD undef, tt[23]?.getD undef, tt[24]?.getD undef, tt[25]?.getD undef, tt[26]?.getD undef, tt[27]?.getD undef, tt[28]?.getD undef, tt[29]?.getD undef, tt[30]?.getD undef, tt[31]?.getD undef, tt[32]?.getD undef, tt[33]?.getD undef, tt[34]?.getD undef, tt[35]?.getD undef, tt[36]?.getD undef, tt[37]?.getD undef, tt[38]?.getD undef, tt[39]?.getD undef, tt[40]?.getD undef, tt[41]?.getD undef, tt[42]?.getD undef, tt[43]?.getD undef, tt[44]?.getD undef] := (arr_lit hsz).trans rfl
        rw [g0, g1, g2, g3, g4, g5, g6, g7, g8, g9, g10, g11, g12, g13, g14, g15, g16, g17, g18, g19, g25, g26, g27, g28, g29, g30, g31, g32, g33, g34, g35, g36, g37, g38, g39, g40, g41, g42, g43, g44] at hl
        clear g0 g1 g2 g3 g4 g5 g6 g7 g8 g9 g10 g11 g12 g13 g14 g15 g16 g17 g18 g19 g25 g26 g27 g28 g29 g30 g31 g32 g33 g34 g35 g36 g37 g38 g39 g40 g41 g42 g43 g44 hsz
        generalize tt[20]?.getD undef = y20 at hl
        generalize tt[21]?.getD undef = y21 at hl
        generalize tt[22]?.getD undef = y22 at hl
        generalize tt[23]?.getD undef = y23 at hl
        generalize tt[24]?.getD undef = y24 at hl
        subst hl
        obtain ⟨wd3, hww⟩ : ∃ x, x = w3 := ⟨_, rfl⟩
        rw [← hww] at hB ⊢
        clear hww
        have B3 : Hid (Below w.heap.size w wd3) := Lib.hid (below_of B2.out B2.out.size hB)
        have Z3 : Hid (wd2.heap.size ≤ wd3.heap.size) := Lib.hid hB.size
        have K0_3 : Hid (BlkL wd3 (w.heap.size) [.slice A0 a0.length ca0, .slice L0 l0.length cl0, .slice D0 d0.length cd0, .slice S0 n0 cs0, .int .i64 c0, .float .f32 hub0, .float .f32 tip0]) := Lib.hid (K0_2.out.below hB)
        have K1_3 : Hid (BlkL wd3 (w.heap.size + 1) [.slice A1 a1.length ca1, .slice L1 l1.length cl1, .slice D1 d1.length cd1, .slice S1 n1 cs1, .int .i64 c1, .float .f32 hub1, .float .f32 tip1]) := Lib.hid (K1_2.out.below hB)
        clear K0_2 K1_2
        clear hB
        obtain ⟨K0x0, K0x1, K0x2, K0x3, K0x4, K0x5, K0x6⟩ := K0_3.out.seven
        obtain ⟨K1x0, K1x1, K1x2, K1x3, K1x4, K1x5, K1x6⟩ := K1_3.out.seven
        go_wp2_with fail
        refine (l_toRotor A0 L0 D0 S0 ca0 cl0 cd0 n0 cs0 c0 hub0 tip0 a0 l0 d0 s0 _ (HP0.out.below B3.out) HN0.out).mono ?_
        rintro e wd4 ⟨x01, x02, x03, x04, rfl, ho, b⟩
        have B4 : Hid (Below w.heap.size w wd4) := Lib.hid (below_of B3.out B3.out.size b)
        have Z4 : Hid (wd3.heap.size ≤ wd4.heap.size) := Lib.hid b.size
        have K0_4 : Hid (BlkL wd4 (w.heap.size) [.slice A0 a0.length ca0, .slice L0 l0.length cl0, .slice D0 d0.length cd0, .slice S0 n0 cs0, .int .i64 c0, .float .f32 hub0, .float .f32 tip0]) := Lib.hid (K0_3.out.below b)
        have K1_4 : Hid (BlkL wd4 (w.heap.size + 1) [.slice A1 a1.length ca1, .slice L1 l1.length cl1, .slice D1 d1.length cd1, .slice S1 n1 cs1, .int .i64 c1, .float .f32 hub1, .float .f32 tip1]) := Lib.hid (K1_3.out.below b)
        clear K0x0 K0x1 K0x2 K0x3 K0x4 K0x5 K0x6 K1x0 K1x1 K1x2 K1x3 K1x4 K1x5 K1x6
        clear K0_3 K1_3
        have Xx0 : Hid (OwnR wd4 wd3.heap.size x01 x02 x03 x04 a0 l0 d0 s0) := Lib.hid (ho)
        clear ho b
        obtain ⟨wd5, hw5⟩ : ∃ x, x = wd4.alloc (.cells #[.slice (some ⟨x01, 0, none⟩) a0.length a0.length, .slice (some ⟨x02, 0, none⟩) l0.length l0.length, .slice (some ⟨x03, 0, none⟩) d0.length d0.length, .slice (some ⟨x04, 0, none⟩) n0 n0, .int .i64 c0, .float .f32 hub0, .float .f32 tip0] 51) := ⟨_, rfl⟩
        have b : Below wd4.heap.size wd4 wd5 := by rw [hw5]; exact (Below.refl _ _).alloc (Nat.le_refl _) _
        have Y5 : Hid (wd4.heap.size + 1 ≤ wd5.heap.size) := Lib.hid (by rw [hw5]; simp)
        have B5 : Hid (Below w.heap.size w wd5) := Lib.hid (below_of B4.out B4.out.size b)
        have Z5 : Hid (wd4.heap.size ≤ wd5.heap.size) := Lib.hid b.size
        have K0_5 : Hid (BlkL wd5 (w.heap.size) [.slice A0 a0.length ca0, .slice L0 l0.length cl0, .slice D0 d0.length cd0, .slice S0 n0 cs0, .int .i64 c0, .float .f32 hub0, .float .f32 tip0]) := Lib.hid (K0_4.out.below b)
        have K1_5 : Hid (BlkL wd5 (w.heap.size + 1) [.slice A1 a1.length ca1, .slice L1 l1.length cl1, .slice D1 d1.length cd1, .slice S1 n1 cs1, .int .i64 c1, .float .f32 hub1, .float .f32 tip1]) := Lib.hid (K1_4.out.below b)
        have Xx0_1 : Hid (OwnR wd5 wd3.heap.size x01 x02 x03 x04 a0 l0 d0 s0) := Lib.hid (Xx0.out.below b)
        have V0 : Hid (BlkL wd5 (wd4.heap.size) [.slice (some ⟨x01, 0, none⟩) a0.length a0.length, .slice (some ⟨x02, 0, none⟩) l0.length l0.length, .slice (some ⟨x03, 0, none⟩) d0.length d0.length, .slice (some ⟨x04, 0, none⟩) n0 n0, .int .i64 c0, .float .f32 hub0, .float .f32 tip0]) := Lib.hid (by rw [hw5]; exact blkL_at wd4 #[.slice (some ⟨x01, 0, none⟩) a0.length a0.length, .slice (some ⟨x02, 0, none⟩) l0.length l0.length, .slice (some ⟨x03, 0, none⟩) d0.length d0.length, .slice (some ⟨x04, 0, none⟩) n0 n0, .int .i64 c0, .float .f32 hub0, .float .f32 tip0] 51 rfl)
        clear b
        have K0y0 := fun o => ((K0_4.out.alloc o).2 0 _ rfl).1
        have K0y1 := fun o => ((K0_4.out.alloc o).2 1 _ rfl).1
        have K0y2 := fun o => ((K0_4.out.alloc o).2 2 _ rfl).1
        have K0y3 := fun o => ((K0_4.out.alloc o).2 3 _ rfl).1
        have K0y4 := fun o => ((K0_4.out.alloc o).2 4 _ rfl).1
        have K0y5 := fun o => ((K0_4.out.alloc o).2 5 _ rfl).1
        have K0y6 := fun o => ((K0_4.out.alloc o).2 6 _ rfl).1
        have K1y0 := fun o => ((K1_4.out.alloc o).2 0 _ rfl).1
        have K1y1 := fun o => ((K1_4.out.alloc o).2 1 _ rfl).1
        have K1y2 := fun o => ((K1_4.out.alloc o).2 2 _ rfl).1
        have K1y3 := fun o => ((K1_4.out.alloc o).2 3 _ rfl).1
        have K1y4 := fun o => ((K1_4.out.alloc o).2 4 _ rfl).1
        have K1y5 := fun o => ((K1_4.out.alloc o).2 5 _ rfl).1
        have K1y6 := fun o => ((K1_4.out.alloc o).2 6 _ rfl).1
        go_wp2_with fail
        rw [← hw5]
        clear hw5
        clear K0y0 K0y1 K0y2 K0y3 K0y4 K0y5 K0y6 K1y0 K1y1 K1y2 K1y3 K1y4 K1y5 K1y6
        clear K0_4 K1_4 Xx0
        obtain ⟨K0x0, K0x1, K0x2, K0x3, K0x4, K0x5, K0x6⟩ := K0_5.out.seven
        obtain ⟨K1x0, K1x1, K1x2, K1x3, K1x4, K1x5, K1x6⟩ := K1_5.out.seven
        obtain ⟨V0x0, V0x1, V0x2, V0x3, V0x4, V0x5, V0x6⟩ := V0.out.seven
        go_wp2_with fail
        refine (l_toRotor A1 L1 D1 S1 ca1 cl1 cd1 n1 cs1 c1 hub1 tip1 a1 l1 d1 s1 _ (HP1.out.below B5.out) HN1.out).mono ?_
        rintro e wd6 ⟨x11, x12, x13, x14, rfl, ho, b⟩
        have B6 : Hid (Below w.heap.size w wd6) := Lib.hid (below_of B5.out B5.out.size b)
        have Z6 : Hid (wd5.heap.size ≤ wd6.heap.size) := Lib.hid b.size
        have K0_6 : Hid (BlkL wd6 (w.heap.size) [.slice A0 a0.length ca0, .slice L0 l0.length cl0, .slice D0 d0.length cd0, .slice S0 n0 cs0, .int .i64 c0, .float .f32 hub0, .float .f32 tip0]) := Lib.hid (K0_5.out.below b)
        have K1_6 : Hid (BlkL wd6 (w.heap.size + 1) [.slice A1 a1.length ca1, .slice L1 l1.length cl1, .slice D1 d1.length cd1, .slice S1 n1 cs1, .int .i64 c1, .float .f32 hub1, .float .f32 tip1]) := Lib.hid (K1_5.out.below b)
        have Xx0_2 : Hid (OwnR wd6 wd3.heap.size x01 x02 x03 x04 a0 l0 d0 s0) := Lib.hid (Xx0_1.out.below b)
        have V0_1 : Hid (BlkL wd6 (wd4.heap.size) [.slice (some ⟨x01, 0, none⟩) a0.length a0.length, .slice (some ⟨x02, 0, none⟩) l0.length l0.length, .slice (some ⟨x03, 0, none⟩) d0.length d0.length, .slice (some ⟨x04, 0, none⟩) n0 n0, .int .i64 c0, .float .f32 hub0, .float .f32 tip0]) := Lib.hid (V0.out.below b)
        clear K0x0 K0x1 K0x2 K0x3 K0x4 K0x5 K0x6 K1x0 K1x1 K1x2 K1x3 K1x4 K1x5 K1x6 V0x0 V0x1 V0x2 V0x3 V0x4 V0x5 V0x6
        clear K0_5 K1_5 Xx0_1 V0
        have Xx1 : Hid (OwnR wd6 wd5.heap.size x11 x12 x13 x14 a1 l1 d1 s1) := Lib.hid (ho)
        clear ho b
        obtain ⟨wd7, hw7⟩ : ∃ x, x = wd6.alloc (.cells #[.slice (some ⟨x11, 0, none⟩) a1.length a1.length, .slice (some ⟨x12, 0, none⟩) l1.length l1.length, .slice (some ⟨x13, 0, none⟩) d1.length d1.length, .slice (some ⟨x14, 0, none⟩) n1 n1, .int .i64 c1, .float .f32 hub1, .float .f32 tip1] 51) := ⟨_, rfl⟩
        have b : Below wd6.heap.size wd6 wd7 := by rw [hw7]; exact (Below.refl _ _).alloc (Nat.le_refl _) _
        have Y7 : Hid (wd6.heap.size + 1 ≤ wd7.heap.size) := Lib.hid (by rw [hw7]; simp)
        have B7 : Hid (Below w.heap.size w wd7) := Lib.hid (below_of B6.out B6.out.size b)
        have Z7 : Hid (wd6.heap.size ≤ wd7.heap.size) := Lib.hid b.size
        have K0_7 : Hid (BlkL wd7 (w.heap.size) [.slice A0 a0.length ca0, .slice L0 l0.length cl0, .slice D0 d0.length cd0, .slice S0 n0 cs0, .int .i64 c0, .float .f32 hub0, .float .f32 tip0]) := Lib.hid (K0_6.out.below b)
        have K1_7 : Hid (BlkL wd7 (w.heap.size + 1) [.slice A1 a1.length ca1, .slice L1 l1.length cl1, .slice D1 d1.length cd1, .slice S1 n1 cs1, .int .i64 c1, .float .f32 hub1, .float .f32 tip1]) := Lib.hid (K1_6.out.below b)
        have Xx0_3 : Hid (OwnR wd7 wd3.heap.size x01 x02 x03 x04 a0 l0 d0 s0) := Lib.hid (Xx0_2.out.below b)
        have V0_2 : Hid (BlkL wd7 (wd4.heap.size) [.slice (some ⟨x01, 0, none⟩) a0.length a0.length, .slice (some ⟨x02, 0, none⟩) l0.length l0.length, .slice (some ⟨x03, 0, none⟩) d0.length d0.length, .slice (some ⟨x04, 0, none⟩) n0 n0, .int .i64 c0, .float .f32 hub0, .float .f32 tip0]) := Lib.hid (V0_1.out.below b)
        have Xx1_1 : Hid (OwnR wd7 wd5.heap.size x11 x12 x13 x14 a1 l1 d1 s1) := Lib.hid (Xx1.out.below b)
        have V1 : Hid (BlkL wd7 (wd6.heap.size) [.slice (some ⟨x11, 0, none⟩) a1.length a1.length, .slice (some ⟨x12, 0, none⟩) l1.length l1.length, .slice (some ⟨x13, 0, none⟩) d1.length d1.length, .slice (some ⟨x14, 0, none⟩) n1 n1, .int .i64 c1, .float .f32 hub1, .float .f32 tip1]) := Lib.hid (by rw [hw7]; exact blkL_at wd6 #[.slice (some ⟨x11, 0, none⟩) a1.length a1.length, .slice (some ⟨x12, 0, none⟩) l1.length l1.length, .slice (some ⟨x13, 0, none⟩) d1.length d1.length, .slice (some ⟨x14, 0, none⟩) n1 n1, .int .i64 c1, .float .f32 hub1, .float .f32 tip1] 51 rfl)
        clear b
        have K0y0 := fun o => ((K0_6.out.alloc o).2 0 _ rfl).1
        have K0y1 := fun o => ((K0_6.out.alloc o).2 1 _ rfl).1
        have K0y2 := fun o => ((K0_6.out.alloc o).2 2 _ rfl).1
        have K0y3 := fun o => ((K0_6.out.alloc o).2 3 _ rfl).1
        have K0y4 := fun o => ((K0_6.out.alloc o).2 4 _ rfl).1
        have K0y5 := fun o => ((K0_6.out.alloc o).2 5 _ rfl).1
        have K0y6 := fun o => ((K0_6.out.alloc o).2 6 _ rfl).1
        have K1y0 := fun o => ((K1_6.out.alloc o).2 0 _ rfl).1
        have K1y1 := fun o => ((K1_6.out.alloc o).2 1 _ rfl).1
        have K1y2 := fun o => ((K1_6.out.alloc o).2 2 _ rfl).1
        have K1y3 := fun o => ((K1_6.out.alloc o).2 3 _ rfl).1
        have K1y4 := fun o => ((K1_6.out.alloc o).2 4 _ rfl).1
        have K1y5 := fun o => ((K1_6.out.alloc o).2 5 _ rfl).1
        have K1y6 := fun o => ((K1_6.out.alloc o).2 6 _ rfl).1
        have V0y0 := fun o => ((V0_1.out.alloc o).2 0 _ rfl).1
        have V0y1 := fun o => ((V0_1.out.alloc o).2 1 _ rfl).1
        have V0y2 := fun o => ((V0_1.out.alloc o).2 2 _ rfl).1
        have V0y3 := fun o => ((V0_1.out.alloc o).2 3 _ rfl).1
        have V0y4 := fun o => ((V0_1.out.alloc o).2 4 _ rfl).1
        have V0y5 := fun o => ((V0_1.out.alloc o).2 5 _ rfl).1
        have V0y6 := fun o => ((V0_1.out.alloc o).2 6 _ rfl).1
        go_wp2_with fail
        rw [← hw7]
        clear hw7
        clear K0y0 K0y1 K0y2 K0y3 K0y4 K0y5 K0y6 K1y0 K1y1 K1y2 K1y3 K1y4 K1y5 K1y6 V0y0 V0y1 V0y2 V0y3 V0y4 V0y5 V0y6
        clear K0_6 K1_6 Xx0_2 V0_1 Xx1
        obtain ⟨K0x0, K0x1, K0x2, K0x3, K0x4, K0x5, K0x6⟩ := K0_7.out.seven
        obtain ⟨K1x0, K1x1, K1x2, K1x3, K1x4, K1x5, K1x6⟩ := K1_7.out.seven
        obtain ⟨V0x0, V0x1, V0x2, V0x3, V0x4, V0x5, V0x6⟩ := V0_2.out.seven
        obtain ⟨V1x0, V1x1, V1x2, V1x3, V1x4, V1x5, V1x6⟩ := V1.out.seven
        go_wp2_with fail
        refine (i_SameRotor _ _ _ _ _ _ _ _ _ _ _ _ a0 l0 d0 s0 _ _ _ _ _ _ _ _ _ _ _ _ a1 l1 d1 s1 _ Xx0_3.out.rt Xx1_1.out.rt HN0.out HN1.out HW0.out HW1.out (words_of HZ0.out) (words_of HZ1.out) ⟨canon_lt HV0.out, canon_lt HX0.out⟩ ⟨canon_lt HV1.out, canon_lt HX1.out⟩).mono ?_
        rintro e wd8 ⟨rfl, b⟩
        have B8 : Hid (Below w.heap.size w wd8) := Lib.hid (below_of B7.out B7.out.size b)
        have Z8 : Hid (wd7.heap.size ≤ wd8.heap.size) := Lib.hid b.size
        have K0_8 : Hid (BlkL wd8 (w.heap.size) [.slice A0 a0.length ca0, .slice L0 l0.length cl0, .slice D0 d0.length cd0, .slice S0 n0 cs0, .int .i64 c0, .float .f32 hub0, .float .f32 tip0]) := Lib.hid (K0_7.out.below b)
        have K1_8 : Hid (BlkL wd8 (w.heap.size + 1) [.slice A1 a1.length ca1, .slice L1 l1.length cl1, .slice D1 d1.length cd1, .slice S1 n1 cs1, .int .i64 c1, .float .f32 hub1, .float .f32 tip1]) := Lib.hid (K1_7.out.below b)
        have Xx0_4 : Hid (OwnR wd8 wd3.heap.size x01 x02 x03 x04 a0 l0 d0 s0) := Lib.hid (Xx0_3.out.below b)
        have V0_3 : Hid (BlkL wd8 (wd4.heap.size) [.slice (some ⟨x01, 0, none⟩) a0.length a0.length, .slice (some ⟨x02, 0, none⟩) l0.length l0.length, .slice (some ⟨x03, 0, none⟩) d0.length d0.length, .slice (some ⟨x04, 0, none⟩) n0 n0, .int .i64 c0, .float .f32 hub0, .float .f32 tip0]) := Lib.hid (V0_2.out.below b)
        have Xx1_2 : Hid (OwnR wd8 wd5.heap.size x11 x12 x13 x14 a1 l1 d1 s1) := Lib.hid (Xx1_1.out.below b)
        have V1_1 : Hid (BlkL wd8 (wd6.heap.size) [.slice (some ⟨x11, 0, none⟩) a1.length a1.length, .slice (some ⟨x12, 0, none⟩) l1.length l1.length, .slice (some ⟨x13, 0, none⟩) d1.length d1.length, .slice (some ⟨x14, 0, none⟩) n1 n1, .int .i64 c1, .float .f32 hub1, .float .f32 tip1]) := Lib.hid (V1.out.below b)
        clear K0x0 K0x1 K0x2 K0x3 K0x4 K0x5 K0x6 K1x0 K1x1 K1x2 K1x3 K1x4 K1x5 K1x6 V0x0 V0x1 V0x2 V0x3 V0x4 V0x5 V0x6 V1x0 V1x1 V1x2 V1x3 V1x4 V1x5 V1x6
        clear K0_7 K1_7 Xx0_3 V0_2 Xx1_1 V1
        clear b
        obtain ⟨K0x0, K0x1, K0x2, K0x3, K0x4, K0x5, K0x6⟩ := K0_8.out.seven
        obtain ⟨K1x0, K1x1, K1x2, K1x3, K1x4, K1x5, K1x6⟩ := K1_8.out.seven
        obtain ⟨V0x0, V0x1, V0x2, V0x3, V0x4, V0x5, V0x6⟩ := V0_3.out.seven
        obtain ⟨V1x0, V1x1, V1x2, V1x3, V1x4, V1x5, V1x6⟩ := V1_1.out.seven
        go_wp2_with fail
        clear K0x0 K0x1 K0x2 K0x3 K0x4 K0x5 K0x6 K1x0 K1x1 K1x2 K1x3 K1x4 K1x5 K1x6 V0x0 V0x1 V0x2 V0x3 V0x4 V0x5 V0x6 V1x0 V1x1 V1x2 V1x3 V1x4 V1x5 V1x6
        refine wp_region_inv4 (fun iq wv v => match iq with
          | 0 => v = .agg #[.slice (some ⟨x01, 0, none⟩) a0.length a0.length, .slice (some ⟨x02, 0, none⟩) l0.length l0.length, .slice (some ⟨x03, 0, none⟩) d0.length d0.length, .slice (some ⟨x04, 0, none⟩) n0 n0, .int .i64 c0, .float .f32 hub0, .float .f32 tip0]
          | 1 => v = .agg #[.slice A0 a0.length ca0, .slice L0 l0.length cl0, .slice D0 d0.length cd0, .slice S0 n0 cs0, .int .i64 c0, .float .f32 hub0, .float .f32 tip0]
          | 2 => ∃ q1 q2 q3 q4, v = .agg #[.slice (some ⟨q1, 0, none⟩) a0.length a0.length, .slice (some ⟨q2, 0, none⟩) l0.length l0.length, .slice (some ⟨q3, 0, none⟩) d0.length d0.length, .slice (some ⟨q4, 0, none⟩) n0 n0, .int .i64 c0, .float .f32 hub0, .float .f32 tip0] ∧ OwnR wv wd8.heap.size q1 q2 q3 q4 a0 l0 d0 s0
          | 3 => v = .bool true
          | 4 => v = .bool false
          | _ => False) (fun _ ww => Below wd8.heap.size wd8 ww) (fun w w' => Below w.heap.size w w') ?hmono (by kernel_rfl) (by kernel_rfl) ((Below.refl _ _).drew) ?hop ?hend
        case hmono =>
          intro i wa wb v hR hV
          rcases i with _ | _ | _ | _ | _ | i
          · exact hV
          · exact hV
          · obtain ⟨q1, q2, q3, q4, rfl, ho⟩ := hV; exact ⟨q1, q2, q3, q4, rfl, ho.below hR⟩
          · exact hV
          · exact hV
          · exact hV
        case hop =>
          intro q o hq listed act w3 hI hnot hcl hall
          have hB := hI.cls
          obtain ⟨K0x0, K0x1, K0x2, K0x3, K0x4, K0x5, K0x6⟩ := (K0_8.out.below hB).seven
          obtain ⟨K1x0, K1x1, K1x2, K1x3, K1x4, K1x5, K1x6⟩ := (K1_8.out.below hB).seven
          obtain ⟨V0x0, V0x1, V0x2, V0x3, V0x4, V0x5, V0x6⟩ := (V0_3.out.below hB).seven
          obtain ⟨V1x0, V1x1, V1x2, V1x3, V1x4, V1x5, V1x6⟩ := (V1_1.out.below hB).seven
          rcases q with _ | _ | _ | _ | _ | q
          · simp at hq; subst hq
            have g7 : act.tmps[7]?.getD undef = .pointer (some ⟨wd4.heap.size, 0, none⟩) := hI.kept 7 (by kernel_rfl)
            clear hI hall hnot hcl
            refine .inl ⟨wanted_none rfl, ?_⟩
            unfold Oper.wp
            go_simp
            all_goals first | exact ⟨_, rfl, Below.refl _ _, rfl, hB⟩ | exact ⟨Below.refl _ _, hB⟩ | exact Below.refl _ _
          · simp at hq; subst hq
            have g2 : act.tmps[2]?.getD undef = .pointer (some ⟨w.heap.size, 0, none⟩) := hI.kept 2 (by kernel_rfl)
            clear hI hall hnot hcl
            refine .inl ⟨wanted_none rfl, ?_⟩
            unfold Oper.wp
            go_simp
            all_goals first | exact ⟨_, rfl, Below.refl _ _, rfl, hB⟩ | exact ⟨Below.refl _ _, hB⟩ | exact Below.refl _ _
          · simp at hq; subst hq
            have g36 : act.tmps[36]?.getD undef = .agg #[.slice A0 a0.length ca0, .slice L0 l0.length cl0, .slice D0 d0.length cd0, .slice S0 n0 cs0, .int .i64 c0, .float .f32 hub0, .float .f32 tip0] := hI.has 1 36 rfl (hall ⟨1, .data⟩ (by simp) rfl)
            clear hI hall hnot hcl
            refine .inl ⟨wanted_none rfl, ?_⟩
            unfold Oper.wp
            go_simp
            refine (l_toRotor A0 L0 D0 S0 ca0 cl0 cd0 n0 cs0 c0 hub0 tip0 a0 l0 d0 s0 _ (HP0.out.below (below_of B8.out B8.out.size hB)) HN0.out).mono ?_
            rintro e w4 ⟨q1, q2, q3, q4, rfl, ho, b4⟩
            exact ⟨_, rfl, b4, ⟨q1, q2, q3, q4, rfl, (⟨⟨by have := ho.1.1; have := hB.size; omega, ho.1.2⟩, ho.2⟩ : OwnR _ _ _ _ _ _ _ _ _ _)⟩, below_of hB hB.size b4⟩
          · simp at hq; subst hq
            have g35 : act.tmps[35]?.getD undef = .agg #[.slice (some ⟨x01, 0, none⟩) a0.length a0.length, .slice (some ⟨x02, 0, none⟩) l0.length l0.length, .slice (some ⟨x03, 0, none⟩) d0.length d0.length, .slice (some ⟨x04, 0, none⟩) n0 n0, .int .i64 c0, .float .f32 hub0, .float .f32 tip0] := hI.has 0 35 rfl (hall ⟨0, .data⟩ (by simp) rfl)
            obtain ⟨q12, q22, q32, q42, g37, h2a⟩ := hI.has 2 37 rfl (hall ⟨2, .data⟩ (by simp) rfl)
            clear hI hall hnot hcl
            refine .inl ⟨wanted_none rfl, ?_⟩
            unfold Oper.wp
            go_simp
            refine (l_eqRotor _ _ _ _ _ _ _ _ _ _ _ _ _ _ _ _ _ _ _ _ a0 l0 d0 s0 _ (Xx0_4.out.below hB).rt (OwnR.rt h2a) HN0.out).mono ?_
            rintro e w4 ⟨rfl, b4⟩
            exact ⟨_, rfl, b4, rfl, below_of hB hB.size b4⟩
          · simp at hq; subst hq
            have g38 : act.tmps[38]?.getD undef = .bool true := hI.has 3 38 rfl (hall ⟨3, .data⟩ (by simp) rfl)
            clear hI hall hnot hcl
            refine .inl ⟨wanted_none rfl, ?_⟩
            unfold Oper.wp
            go_simp
            all_goals first | exact ⟨_, rfl, Below.refl _ _, rfl, hB⟩ | exact ⟨Below.refl _ _, hB⟩ | exact Below.refl _ _
          · simp at hq
        case hend =>
          intro listed act w3 hI hall
          have hB := hI.cls
          obtain ⟨K0x0, K0x1, K0x2, K0x3, K0x4, K0x5, K0x6⟩ := (K0_8.out.below hB).seven
          obtain ⟨K1x0, K1x1, K1x2, K1x3, K1x4, K1x5, K1x6⟩ := (K1_8.out.below hB).seven
          obtain ⟨V0x0, V0x1, V0x2, V0x3, V0x4, V0x5, V0x6⟩ := (V0_3.out.below hB).seven
          obtain ⟨V1x0, V1x1, V1x2, V1x3, V1x4, V1x5, V1x6⟩ := (V1_1.out.below hB).seven
          have g39 : act.tmps[39]?.getD undef = .bool false := hI.has 4 39 rfl (hall 4 (by decide))
          have g0 := hI.kept 0 (by kernel_rfl)
          conv at g0 => rhs; whnf
          have g1 := hI.kept 1 (by kernel_rfl)
          conv at g1 => rhs; whnf
          have g2 := hI.kept 2 (by kernel_rfl)
          conv at g2 => rhs; whnf
          have g3 := hI.kept 3 (by kernel_rfl)
          conv at g3 => rhs; whnf
          have g4 := hI.kept 4 (by kernel_rfl)
          conv at g4 => rhs; whnf
          have g5 := hI.kept 5 (by kernel_rfl)
          conv at g5 => rhs; whnf
          have g6 := hI.kept 6 (by kernel_rfl)
          conv at g6 => rhs; whnf
          have g7 := hI.kept 7 (by kernel_rfl)
          conv at g7 => rhs; whnf
          have g8 := hI.kept 8 (by kernel_rfl)
          conv at g8 => rhs; whnf
          have g9 := hI.kept 9 (by kernel_rfl)
          conv at g9 => rhs; whnf
          have g10 := hI.kept 10 (by kernel_rfl)
          conv at g10 => rhs; whnf
          have g11 := hI.kept 11 (by kernel_rfl)
          conv at g11 => rhs; whnf
          have g12 := hI.kept 12 (by kernel_rfl)
          conv at g12 => rhs; whnf
          have g13 := hI.kept 13 (by kernel_rfl)
          conv at g13 => rhs; whnf
          have g14 := hI.kept 14 (by kernel_rfl)
          conv at g14 => rhs; whnf
          have g15 := hI.kept 15 (by kernel_rfl)
          conv at g15 => rhs; whnf
          have g16 := hI.kept 16 (by kernel_rfl)
          conv at g16 => rhs; whnf
          have g17 := hI.kept 17 (by kernel_rfl)
          conv at g17 => rhs; whnf
          have g18 := hI.kept 18 (by kernel_rfl)
          conv at g18 => rhs; whnf
          have g19 := hI.kept 19 (by kernel_rfl)
          conv at g19 => rhs; whnf
          have g20 := hI.kept 20 (by kernel_rfl)
          conv at g20 => rhs; whnf
          have g21 := hI.kept 21 (by kernel_rfl)
          conv at g21 => rhs; whnf
          have g22 := hI.kept 22 (by kernel_rfl)
          conv at g22 => rhs; whnf
          have g23 := hI.kept 23 (by kernel_rfl)
          conv at g23 => rhs; whnf
          have g24 := hI.kept 24 (by kernel_rfl)
          conv at g24 => rhs; whnf
          have g25 := hI.kept 25 (by kernel_rfl)
          conv at g25 => rhs; whnf
          have g26 := hI.kept 26 (by kernel_rfl)
          conv at g26 => rhs; whnf
          have g27 := hI.kept 27 (by kernel_rfl)
          conv at g27 => rhs; whnf
          have g28 := hI.kept 28 (by kernel_rfl)
          conv at g28 => rhs; whnf
          have g29 := hI.kept 29 (by kernel_rfl)
          conv at g29 => rhs; whnf
          have g30 := hI.kept 30 (by kernel_rfl)
          conv at g30 => rhs; whnf
          have g31 := hI.kept 31 (by kernel_rfl)
          conv at g31 => rhs; whnf
          have g32 := hI.kept 32 (by kernel_rfl)
          conv at g32 => rhs; whnf
          have g33 := hI.kept 33 (by kernel_rfl)
          conv at g33 => rhs; whnf
          have g34 := hI.kept 34 (by kernel_rfl)
          conv at g34 => rhs; whnf
          have g40 : act.tmps[40]?.getD undef = undef := hI.kept 40 (by kernel_rfl)
          have g41 : act.tmps[41]?.getD undef = undef := hI.kept 41 (by kernel_rfl)
          have g42 : act.tmps[42]?.getD undef = undef := hI.kept 42 (by kernel_rfl)
          have g43 : act.tmps[43]?.getD undef = undef := hI.kept 43 (by kernel_rfl)
          have g44 : act.tmps[44]?.getD undef = undef := hI.kept 44 (by kernel_rfl)
          have hsz : act.tmps.size = 45 := hI.size.trans (by kernel_rfl)
          have hd := hI.defers
          clear hI hall K0x0 K0x1 K0x2 K0x3 K0x4 K0x5 K0x6 K1x0 K1x1 K1x2 K1x3 K1x4 K1x5 K1x6 V0x0 V0x1 V0x2 V0x3 V0x4 V0x5 V0x6 V1x0 V1x1 V1x2 V1x3 V1x4 V1x5 V1x6
          obtain ⟨tt, dd⟩ := act
          simp only at g0 g1 g2 g3 g4 g5 g6 g7 g8 g9 g10 g11 g12 g13 g14 g15 g16 g17 g18 g19 g20 g21 g22 g23 g24 g25 g26 g27 g28 g29 g30 g31 g32 g33 g34 g39 g40 g41 g42 g43 g44 hsz hd
          subst hd
          have hl : tt = #[tt[0]?.getD undef, tt[1]?.getD undef, tt[2]?.getD undef, tt[3]?.getD undef, tt[4]?.getD undef, tt[5]?.getD undef, tt[6]?.getD undef, tt[7]?.getD undef, tt[8]?.getD undef, tt[9]?.getD undef, tt[10]?.getD undef, tt[11]?.getD undef, tt[12]?.getD undef, tt[13]?.getD undef, tt[14]?.getD undef, tt[15]?.getD undef, tt[16]?.getD undef, tt[17]?.getD undef, tt[18]?.getD undef, tt[19]?.getD undef, tt[20]?.getD undef, tt[21]?.getD undef, tt[22]?.getD undef, tt[23]?.getD undef, tt[24]?.getD undef, tt[25]?.getD undef, tt[26]?.getD undef, tt[27]?.getD undef, tt[28]?.getD undef, tt[29]?.getD undef, tt[30]?.getD undef, tt[31]?.getD undef, tt[32]?.getD undef, tt[33]?.getD undef, tt[34]?.getD undef, tt[35]?.getD undef, tt[36]?.getD undef, tt[37]?.getD undef, tt[38]?.getD undef, tt[39]?.getD undef, tt[40]?.getD undef, tt[41]?.getD undef, tt[42]?.getD undef, tt[43]?.getD undef, tt[44]?.getD undef] := (arr_lit hsz).trans rfl
          rw [g0, g1, g2, g3, g4, g5, g6, g7, g8, g9, g10, g11, g12, g13, g14, g15, g16, g17, g18, g19, g20, g21, g22, g23, g24, g25, g26, g27, g28, g29, g30, g31, g32, g33, g34, g39, g40, g41, g42, g43, g44] at hl
          clear g0 g1 g2 g3 g4 g5 g6 g7 g8 g9 g10 g11 g12 g13 g14 g15 g16 g17 g18 g19 g20 g21 g22 g23 g24 g25 g26 g27 g28 g29 g30 g31 g32 g33 g34 g39 g40 g41 g42 g43 g44 hsz
          generalize tt[35]?.getD undef = y35 at hl
          generalize tt[36]?.getD undef = y36 at hl
          generalize tt[37]?.getD undef = y37 at hl
          generalize tt[38]?.getD undef = y38 at hl
          subst hl
          obtain ⟨wd9, hww⟩ : ∃ x, x = w3 := ⟨_, rfl⟩
          rw [← hww] at hB ⊢
          clear hww
          have B9 : Hid (Below w.heap.size w wd9) := Lib.hid (below_of B8.out B8.out.size hB)
          have Z9 : Hid (wd8.heap.size ≤ wd9.heap.size) := Lib.hid hB.size
          have K0_9 : Hid (BlkL wd9 (w.heap.size) [.slice A0 a0.length ca0, .slice L0 l0.length cl0, .slice D0 d0.length cd0, .slice S0 n0 cs0, .int .i64 c0, .float .f32 hub0, .float .f32 tip0]) := Lib.hid (K0_8.out.below hB)
          have K1_9 : Hid (BlkL wd9 (w.heap.size + 1) [.slice A1 a1.length ca1, .slice L1 l1.length cl1, .slice D1 d1.length cd1, .slice S1 n1 cs1, .int .i64 c1, .float .f32 hub1, .float .f32 tip1]) := Lib.hid (K1_8.out.below hB)
          have Xx0_5 : Hid (OwnR wd9 wd3.heap.size x01 x02 x03 x04 a0 l0 d0 s0) := Lib.hid (Xx0_4.out.below hB)
          have V0_4 : Hid (BlkL wd9 (wd4.heap.size) [.slice (some ⟨x01, 0, none⟩) a0.length a0.length, .slice (some ⟨x02, 0, none⟩) l0.length l0.length, .slice (some ⟨x03, 0, none⟩) d0.length d0.length, .slice (some ⟨x04, 0, none⟩) n0 n0, .int .i64 c0, .float .f32 hub0, .float .f32 tip0]) := Lib.hid (V0_3.out.below hB)
          have Xx1_3 : Hid (OwnR wd9 wd5.heap.size x11 x12 x13 x14 a1 l1 d1 s1) := Lib.hid (Xx1_2.out.below hB)
          have V1_2 : Hid (BlkL wd9 (wd6.heap.size) [.slice (some ⟨x11, 0, none⟩) a1.length a1.length, .slice (some ⟨x12, 0, none⟩) l1.length l1.length, .slice (some ⟨x13, 0, none⟩) d1.length d1.length, .slice (some ⟨x14, 0, none⟩) n1 n1, .int .i64 c1, .float .f32 hub1, .float .f32 tip1]) := Lib.hid (V1_1.out.below hB)
          clear K0_8 K1_8 Xx0_4 V0_3 Xx1_2 V1_1
          clear hB
          obtain ⟨K0x0, K0x1, K0x2, K0x3, K0x4, K0x5, K0x6⟩ := K0_9.out.seven
          obtain ⟨K1x0, K1x1, K1x2, K1x3, K1x4, K1x5, K1x6⟩ := K1_9.out.seven
          obtain ⟨V0x0, V0x1, V0x2, V0x3, V0x4, V0x5, V0x6⟩ := V0_4.out.seven
          obtain ⟨V1x0, V1x1, V1x2, V1x3, V1x4, V1x5, V1x6⟩ := V1_2.out.seven
          go_wp2_with fail
          clear K0x0 K0x1 K0x2 K0x3 K0x4 K0x5 K0x6 K1x0 K1x1 K1x2 K1x3 K1x4 K1x5 K1x6 V0x0 V0x1 V0x2 V0x3 V0x4 V0x5 V0x6 V1x0 V1x1 V1x2 V1x3 V1x4 V1x5 V1x6
          refine wp_region_inv4 (fun iq wv v => match iq with
            | 0 => v = .agg #[.slice (some ⟨x11, 0, none⟩) a1.length a1.length, .slice (some ⟨x12, 0, none⟩) l1.length l1.length, .slice (some ⟨x13, 0, none⟩) d1.length d1.length, .slice (some ⟨x14, 0, none⟩) n1 n1, .int .i64 c1, .float .f32 hub1, .float .f32 tip1]
            | 1 => v = .agg #[.slice A1 a1.length ca1, .slice L1 l1.length cl1, .slice D1 d1.length cd1, .slice S1 n1 cs1, .int .i64 c1, .float .f32 hub1, .float .f32 tip1]
            | 2 => ∃ q1 q2 q3 q4, v = .agg #[.slice (some ⟨q1, 0, none⟩) a1.length a1.length, .slice (some ⟨q2, 0, none⟩) l1.length l1.length, .slice (some ⟨q3, 0, none⟩) d1.length d1.length, .slice (some ⟨q4, 0, none⟩) n1 n1, .int .i64 c1, .float .f32 hub1, .float .f32 tip1] ∧ OwnR wv wd9.heap.size q1 q2 q3 q4 a1 l1 d1 s1
            | 3 => v = .bool true
            | 4 => v = .bool false
            | _ => False) (fun _ ww => Below wd9.heap.size wd9 ww) (fun w w' => Below w.heap.size w w') ?hmono (by kernel_rfl) (by kernel_rfl) ((Below.refl _ _).drew) ?hop ?hend
          case hmono =>
            intro i wa wb v hR hV
            rcases i with _ | _ | _ | _ | _ | i
            · exact hV
            · exact hV
            · obtain ⟨q1, q2, q3, q4, rfl, ho⟩ := hV; exact ⟨q1, q2, q3, q4, rfl, ho.below hR⟩
            · exact hV
            · exact hV
            · exact hV
          case hop =>
            intro q o hq listed act w3 hI hnot hcl hall
            have hB := hI.cls
            obtain ⟨K0x0, K0x1, K0x2, K0x3, K0x4, K0x5, K0x6⟩ := (K0_9.out.below hB).seven
            obtain ⟨K1x0, K1x1, K1x2, K1x3, K1x4, K1x5, K1x6⟩ := (K1_9.out.below hB).seven
            obtain ⟨V0x0, V0x1, V0x2, V0x3, V0x4, V0x5, V0x6⟩ := (V0_4.out.below hB).seven
            obtain ⟨V1x0, V1x1, V1x2, V1x3, V1x4, V1x5, V1x6⟩ := (V1_2.out.below hB).seven
            rcases q with _ | _ | _ | _ | _ | q
            · simp at hq; subst hq
              have g8 : act.tmps[8]?.getD undef = .pointer (some ⟨wd6.heap.size, 0, none⟩) := hI.kept 8 (by kernel_rfl)
              clear hI hall hnot hcl
              refine .inl ⟨wanted_none rfl, ?_⟩
              unfold Oper.wp
              go_simp
              all_goals first | exact ⟨_, rfl, Below.refl _ _, rfl, hB⟩ | exact ⟨Below.refl _ _, hB⟩ | exact Below.refl _ _
            · simp at hq; subst hq
              have g3 : act.tmps[3]?.getD undef = .pointer (some ⟨(w.heap.size + 1), 0, none⟩) := hI.kept 3 (by kernel_rfl)
              clear hI hall hnot hcl
              refine .inl ⟨wanted_none rfl, ?_⟩
              unfold Oper.wp
              go_simp
              all_goals first | exact ⟨_, rfl, Below.refl _ _, rfl, hB⟩ | exact ⟨Below.refl _ _, hB⟩ | exact Below.refl _ _
            · simp at hq; subst hq
              have g41 : act.tmps[41]?.getD undef = .agg #[.slice A1 a1.length ca1, .slice L1 l1.length cl1, .slice D1 d1.length cd1, .slice S1 n1 cs1, .int .i64 c1, .float .f32 hub1, .float .f32 tip1] := hI.has 1 41 rfl (hall ⟨1, .data⟩ (by simp) rfl)
              clear hI hall hnot hcl
              refine .inl ⟨wanted_none rfl, ?_⟩
              unfold Oper.wp
              go_simp
              refine (l_toRotor A1 L1 D1 S1 ca1 cl1 cd1 n1 cs1 c1 hub1 tip1 a1 l1 d1 s1 _ (HP1.out.below (below_of B9.out B9.out.size hB)) HN1.out).mono ?_
              rintro e w4 ⟨q1, q2, q3, q4, rfl, ho, b4⟩
              exact ⟨_, rfl, b4, ⟨q1, q2, q3, q4, rfl, (⟨⟨by have := ho.1.1; have := hB.size; omega, ho.1.2⟩, ho.2⟩ : OwnR _ _ _ _ _ _ _ _ _ _)⟩, below_of hB hB.size b4⟩
            · simp at hq; subst hq
              have g40 : act.tmps[40]?.getD undef = .agg #[.slice (some ⟨x11, 0, none⟩) a1.length a1.length, .slice (some ⟨x12, 0, none⟩) l1.length l1.length, .slice (some ⟨x13, 0, none⟩) d1.length d1.length, .slice (some ⟨x14, 0, none⟩) n1 n1, .int .i64 c1, .float .f32 hub1, .float .f32 tip1] := hI.has 0 40 rfl (hall ⟨0, .data⟩ (by simp) rfl)
              obtain ⟨q12, q22, q32, q42, g42, h2a⟩ := hI.has 2 42 rfl (hall ⟨2, .data⟩ (by simp) rfl)
              clear hI hall hnot hcl
              refine .inl ⟨wanted_none rfl, ?_⟩
              unfold Oper.wp
              go_simp
              refine (l_eqRotor _ _ _ _ _ _ _ _ _ _ _ _ _ _ _ _ _ _ _ _ a1 l1 d1 s1 _ (Xx1_3.out.below hB).rt (OwnR.rt h2a) HN1.out).mono ?_
              rintro e w4 ⟨rfl, b4⟩
              exact ⟨_, rfl, b4, rfl, below_of hB hB.size b4⟩
            · simp at hq; subst hq
              have g43 : act.tmps[43]?.getD undef = .bool true := hI.has 3 43 rfl (hall ⟨3, .data⟩ (by simp) rfl)
              clear hI hall hnot hcl
              refine .inl ⟨wanted_none rfl, ?_⟩
              unfold Oper.wp
              go_simp
              all_goals first | exact ⟨_, rfl, Below.refl _ _, rfl, hB⟩ | exact ⟨Below.refl _ _, hB⟩ | exact Below.refl _ _
            · simp at hq
          case hend =>
            intro listed act w3 hI hall
            have hB := hI.cls
            obtain ⟨K0x0, K0x1, K0x2, K0x3, K0x4, K0x5, K0x6⟩ := (K0_9.out.below hB).seven
            obtain ⟨K1x0, K1x1, K1x2, K1x3, K1x4, K1x5, K1x6⟩ := (K1_9.out.below hB).seven
            obtain ⟨V0x0, V0x1, V0x2, V0x3, V0x4, V0x5, V0x6⟩ := (V0_4.out.below hB).seven
            obtain ⟨V1x0, V1x1, V1x2, V1x3, V1x4, V1x5, V1x6⟩ := (V1_2.out.below hB).seven
            have g44 : act.tmps[44]?.getD undef = .bool false := hI.has 4 44 rfl (hall 4 (by decide))
            have g0 := hI.kept 0 (by kernel_rfl)
            conv at g0 => rhs; whnf
            have g1 := hI.kept 1 (by kernel_rfl)
            conv at g1 => rhs; whnf
            have g2 := hI.kept 2 (by kernel_rfl)
            conv at g2 => rhs; whnf
            have g3 := hI.kept 3 (by kernel_rfl)
            conv at g3 => rhs; whnf
            have g4 := hI.kept 4 (by kernel_rfl)
            conv at g4 => rhs; whnf
            have g5 := hI.kept 5 (by kernel_rfl)
            conv at g5 => rhs; whnf
            have g6 := hI.kept 6 (by kernel_rfl)
            conv at g6 => rhs; whnf
            have g7 := hI.kept 7 (by kernel_rfl)
            conv at g7 => rhs; whnf
            have g8 := hI.kept 8 (by kernel_rfl)
            conv at g8 => rhs; whnf
            have g9 := hI.kept 9 (by kernel_rfl)
            conv at g9 => rhs; whnf
            have g10 := hI.kept 10 (by kernel_rfl)
            conv at g10 => rhs; whnf
            have g11 := hI.kept 11 (by kernel_rfl)
            conv at g11 => rhs; whnf
            have g12 := hI.kept 12 (by kernel_rfl)
            conv at g12 => rhs; whnf
            have g13 := hI.kept 13 (by kernel_rfl)
            conv at g13 => rhs; whnf
            have g14 := hI.kept 14 (by kernel_rfl)
            conv at g14 => rhs; whnf
            have g15 := hI.kept 15 (by kernel_rfl)
            conv at g15 => rhs; whnf
            have g16 := hI.kept 16 (by kernel_rfl)
            conv at g16 => rhs; whnf
            have g17 := hI.kept 17 (by kernel_rfl)
            conv at g17 => rhs; whnf
            have g18 := hI.kept 18 (by kernel_rfl)
            conv at g18 => rhs; whnf
            have g19 := hI.kept 19 (by kernel_rfl)
            conv at g19 => rhs; whnf
            have g20 := hI.kept 20 (by kernel_rfl)
            conv at g20 => rhs; whnf
            have g21 := hI.kept 21 (by kernel_rfl)
            conv at g21 => rhs; whnf
            have g22 := hI.kept 22 (by kernel_rfl)
            conv at g22 => rhs; whnf
            have g23 := hI.kept 23 (by kernel_rfl)
            conv at g23 => rhs; whnf
            have g24 := hI.kept 24 (by kernel_rfl)
            conv at g24 => rhs; whnf
            have g25 := hI.kept 25 (by kernel_rfl)
            conv at g25 => rhs; whnf
            have g26 := hI.kept 26 (by kernel_rfl)
            conv at g26 => rhs; whnf
            have g27 := hI.kept 27 (by kernel_rfl)
            conv at g27 => rhs; whnf
            have g28 := hI.kept 28 (by kernel_rfl)
            conv at g28 => rhs; whnf
            have g29 := hI.kept 29 (by kernel_rfl)
            conv at g29 => rhs; whnf
            have g30 := hI.kept 30 (by kernel_rfl)
            conv at g30 => rhs; whnf
            have g31 := hI.kept 31 (by kernel_rfl)
            conv at g31 => rhs; whnf
            have g32 := hI.kept 32 (by kernel_rfl)
            conv at g32 => rhs; whnf
            have g33 := hI.kept 33 (by kernel_rfl)
            conv at g33 => rhs; whnf
            have g34 := hI.kept 34 (by kernel_rfl)
            conv at g34 => rhs; whnf
            have g35 := hI.kept 35 (by kernel_rfl)
            conv at g35 => rhs; whnf
            have g36 := hI.kept 36 (by kernel_rfl)
            conv at g36 => rhs; whnf
            have g37 := hI.kept 37 (by kernel_rfl)
            conv at g37 => rhs; whnf
            have g38 := hI.kept 38 (by kernel_rfl)
            conv at g38 => rhs; whnf
            have g39 := hI.kept 39 (by kernel_rfl)
            conv at g39 => rhs; whnf
            have hsz : act.tmps.size = 45 := hI.size.trans (by kernel_rfl)
            have hd := hI.defers
            clear hI hall K0x0 K0x1 K0x2 K0x3 K0x4 K0x5 K0x6 K1x0 K1x1 K1x2 K1x3 K1x4 K1x5 K1x6 V0x0 V0x1 V0x2 V0x3 V0x4 V0x5 V0x6 V1x0 V1x1 V1x2 V1x3 V1x4 V1x5 V1x6
            obtain ⟨tt, dd⟩ := act
            simp only at g0 g1 g2 g3 g4 g5 g6 g7 g8 g9 g10 g11 g12 g13 g14 g15 g16 g17 g18 g19 g20 g21 g22 g23 g24 g25 g26 g27 g28 g29 g30 g31 g32 g33 g34 g35 g36 g37 g38 g39 g44 hsz hd
            subst hd
            have hl : tt = #[tt[0]?.getD undef, tt[1]?.getD undef, tt[2]?.getD undef, tt[3]?.getD undef, tt[4]?.getD undef, tt[5]?.getD undef, tt[6]?.getD undef, tt[7]?.getD undef, tt[8]?.getD undef, tt[9]?.getD undef, tt[10]?.getD undef, tt[11]?.getD undef, tt[12]?.getD undef, tt[13]?.getD undef, tt[14]?.getD undef, tt[15]?.getD undef, tt[16]?.getD undef, tt[17]?.getD undef, tt[18]?.getD undef, tt[19]?.getD undef, tt[20]?.getD undef, tt[21]?.getD undef, tt[22]?.getD undef, tt[23]?.getD undef, tt[24]?.getD undef, tt[25]?.getD undef, tt[26]?.getD undef, tt[27]?.getD undef, tt[28]?.getD undef, tt[29]?.getD undef, tt[30]?.getD undef, tt[31]?.getD undef, tt[32]?.getD undef, tt[33]?.getD undef, tt[34]?.getD undef, tt[35]?.getD undef, tt[36]?.getD undef, tt[37]?.getD undef, tt[38]?.getD undef, tt[39]?.getD undef, tt[40]?.getD undef, tt[41]?.getD undef, tt[42]?.getD undef, tt[43]?.getD undef, tt[44]?.getD undef] := (arr_lit hsz).trans rfl
            rw [g0, g1, g2, g3, g4, g5, g6, g7, g8, g9, g10, g11, g12, g13, g14, g15, g16, g17, g18, g19, g20, g21, g22, g23, g24, g25, g26, g27, g28, g29, g30, g31, g32, g33, g34, g35, g36, g37, g38, g39, g44] at hl
            clear g0 g1 g2 g3 g4 g5 g6 g7 g8 g9 g10 g11 g12 g13 g14 g15 g16 g17 g18 g19 g20 g21 g22 g23 g24 g25 g26 g27 g28 g29 g30 g31 g32 g33 g34 g35 g36 g37 g38 g39 g44 hsz
            generalize tt[40]?.getD undef = y40 at hl
            generalize tt[41]?.getD undef = y41 at hl
            generalize tt[42]?.getD undef = y42 at hl
            generalize tt[43]?.getD undef = y43 at hl
            subst hl
            obtain ⟨wd10, hww⟩ : ∃ x, x = w3 := ⟨_, rfl⟩
            rw [← hww] at hB ⊢
            clear hww
            have B10 : Hid (Below w.heap.size w wd10) := Lib.hid (below_of B9.out B9.out.size hB)
            have Z10 : Hid (wd9.heap.size ≤ wd10.heap.size) := Lib.hid hB.size
            have K0_10 : Hid (BlkL wd10 (w.heap.size) [.slice A0 a0.length ca0, .slice L0 l0.length cl0, .slice D0 d0.length cd0, .slice S0 n0 cs0, .int .i64 c0, .float .f32 hub0, .float .f32 tip0]) := Lib.hid (K0_9.out.below hB)
            have K1_10 : Hid (BlkL wd10 (w.heap.size + 1) [.slice A1 a1.length ca1, .slice L1 l1.length cl1, .slice D1 d1.length cd1, .slice S1 n1 cs1, .int .i64 c1, .float .f32 hub1, .float .f32 tip1]) := Lib.hid (K1_9.out.below hB)
            have Xx0_6 : Hid (OwnR wd10 wd3.heap.size x01 x02 x03 x04 a0 l0 d0 s0) := Lib.hid (Xx0_5.out.below hB)
            have V0_5 : Hid (BlkL wd10 (wd4.heap.size) [.slice (some ⟨x01, 0, none⟩) a0.length a0.length, .slice (some ⟨x02, 0, none⟩) l0.length l0.length, .slice (some ⟨x03, 0, none⟩) d0.length d0.length, .slice (some ⟨x04, 0, none⟩) n0 n0, .int .i64 c0, .float .f32 hub0, .float .f32 tip0]) := Lib.hid (V0_4.out.below hB)
            have Xx1_4 : Hid (OwnR wd10 wd5.heap.size x11 x12 x13 x14 a1 l1 d1 s1) := Lib.hid (Xx1_3.out.below hB)
            have V1_3 : Hid (BlkL wd10 (wd6.heap.size) [.slice (some ⟨x11, 0, none⟩) a1.length a1.length, .slice (some ⟨x12, 0, none⟩) l1.length l1.length, .slice (some ⟨x13, 0, none⟩) d1.length d1.length, .slice (some ⟨x14, 0, none⟩) n1 n1, .int .i64 c1, .float .f32 hub1, .float .f32 tip1]) := Lib.hid (V1_2.out.below hB)
            clear K0_9 K1_9 Xx0_5 V0_4 Xx1_3 V1_2
            clear hB
            obtain ⟨K0x0, K0x1, K0x2, K0x3, K0x4, K0x5, K0x6⟩ := K0_10.out.seven
            obtain ⟨K1x0, K1x1, K1x2, K1x3, K1x4, K1x5, K1x6⟩ := K1_10.out.seven
            obtain ⟨V0x0, V0x1, V0x2, V0x3, V0x4, V0x5, V0x6⟩ := V0_5.out.seven
            obtain ⟨V1x0, V1x1, V1x2, V1x3, V1x4, V1x5, V1x6⟩ := V1_3.out.seven
            go_wp2
            go_ret
            exact ⟨rfl, B10.out⟩
    · skip
      have HN0 : Hid (FewR a0 l0 d0 s0 n0) := Lib.hid (by have := HSL0.out; unfold FewR; omega)
      obtain ⟨w0, hw0⟩ : ∃ x, x = ((w.alloc (.cells #[.slice A0 a0.length ca0, .slice L0 l0.length cl0, .slice D0 d0.length cd0, .slice S0 n0 cs0, .int .i64 c0, .float .f32 hub0, .float .f32 tip0] 46)).alloc (.cells #[.slice A1 a1.length ca1, .slice L1 l1.length cl1, .slice D1 d1.length cd1, .slice S1 n1 cs1, .int .i64 c1, .float .f32 hub1, .float .f32 tip1] 46)) := ⟨_, rfl⟩
      have B0 : Hid (Below w.heap.size w w0) := Lib.hid (by rw [hw0]; exact ((Below.refl _ _).alloc (Nat.le_refl _) _).alloc (by simp <;> omega) _)
      have Z0 : Hid (w0.heap.size = w.heap.size + 2) := Lib.hid (by rw [hw0]; simp)
      have K0 : Hid (BlkL w0 (w.heap.size) [.slice A0 a0.length ca0, .slice L0 l0.length cl0, .slice D0 d0.length cd0, .slice S0 n0 cs0, .int .i64 c0, .float .f32 hub0, .float .f32 tip0]) := Lib.hid (by rw [hw0]; exact (blkL_at w #[.slice A0 a0.length ca0, .slice L0 l0.length cl0, .slice D0 d0.length cd0, .slice S0 n0 cs0, .int .i64 c0, .float .f32 hub0, .float .f32 tip0] 46 rfl).alloc _)
      have K1 : Hid (BlkL w0 (w.heap.size + 1) [.slice A1 a1.length ca1, .slice L1 l1.length cl1, .slice D1 d1.length cd1, .slice S1 n1 cs1, .int .i64 c1, .float .f32 hub1, .float .f32 tip1]) := Lib.hid (by rw [hw0]; exact blkL_at (w.alloc (.cells #[.slice A0 a0.length ca0, .slice L0 l0.length cl0, .slice D0 d0.length cd0, .slice S0 n0 cs0, .int .i64 c0, .float .f32 hub0, .float .f32 tip0] 46)) #[.slice A1 a1.length ca1, .slice L1 l1.length cl1, .slice D1 d1.length cd1, .slice S1 n1 cs1, .int .i64 c1, .float .f32 hub1, .float .f32 tip1] 46 (by simp))
      go_enter Try.func10, Try.ntmps10
      go_wp2_with fail
      rw [← hw0]
      clear hw0
      have hq0 : (0 : Int) ≤ 1048576 - (a0.length : Int) - (l0.length : Int) - (d0.length : Int) - (n0 : Int) := by omega
      obtain ⟨K0x0, K0x1, K0x2, K0x3, K0x4, K0x5, K0x6⟩ := K0.out.seven
      obtain ⟨K1x0, K1x1, K1x2, K1x3, K1x4, K1x5, K1x6⟩ := K1.out.seven
      go_wp2_with fail
      refine (l_szRotor_yes A0 L0 D0 S0 _ ca0 _ cl0 _ cd0 n0 cs0 c0 hub0 tip0 _ _ (by omega) (by omega)).mono ?_
      rintro e wd1 ⟨rfl, b⟩
      have B1 : Hid (Below w.heap.size w wd1) := Lib.hid (below_of B0.out B0.out.size b)
      have Z1 : Hid (w0.heap.size ≤ wd1.heap.size) := Lib.hid b.size
      have K0_1 : Hid (BlkL wd1 (w.heap.size) [.slice A0 a0.length ca0, .slice L0 l0.length cl0, .slice D0 d0.length cd0, .slice S0 n0 cs0, .int .i64 c0, .float .f32 hub0, .float .f32 tip0]) := Lib.hid (K0.out.below b)
      have K1_1 : Hid (BlkL wd1 (w.heap.size + 1) [.slice A1 a1.length ca1, .slice L1 l1.length cl1, .slice D1 d1.length cd1, .slice S1 n1 cs1, .int .i64 c1, .float .f32 hub1, .float .f32 tip1]) := Lib.hid (K1.out.below b)
      clear K0x0 K0x1 K0x2 K0x3 K0x4 K0x5 K0x6 K1x0 K1x1 K1x2 K1x3 K1x4 K1x5 K1x6
      clear K0 K1
      clear b
      obtain ⟨K0x0, K0x1, K0x2, K0x3, K0x4, K0x5, K0x6⟩ := K0_1.out.seven
      obtain ⟨K1x0, K1x1, K1x2, K1x3, K1x4, K1x5, K1x6⟩ := K1_1.out.seven
      go_wp2_with fail
      refine (l_szRotor_no A1 L1 D1 S1 _ ca1 _ cl1 _ cd1 n1 cs1 c1 hub1 tip1 _ _ (by omega) (by omega) (by omega) ma1 ml1 md1 ms1).mono ?_
      rintro e wd2 ⟨rfl, b⟩
      have B2 : Hid (Below w.heap.size w wd2) := Lib.hid (below_of B1.out B1.out.size b)
      have Z2 : Hid (wd1.heap.size ≤ wd2.heap.size) := Lib.hid b.size
      have K0_2 : Hid (BlkL wd2 (w.heap.size) [.slice A0 a0.length ca0, .slice L0 l0.length cl0, .slice D0 d0.length cd0, .slice S0 n0 cs0, .int .i64 c0, .float .f32 hub0, .float .f32 tip0]) := Lib.hid (K0_1.out.below b)
      have K1_2 : Hid (BlkL wd2 (w.heap.size + 1) [.slice A1 a1.length ca1, .slice L1 l1.length cl1, .slice D1 d1.length cd1, .slice S1 n1 cs1, .int .i64 c1, .float .f32 hub1, .float .f32 tip1]) := Lib.hid (K1_1.out.below b)
      clear K0x0 K0x1 K0x2 K0x3 K0x4 K0x5 K0x6 K1x0 K1x1 K1x2 K1x3 K1x4 K1x5 K1x6
      clear K0_1 K1_1
      clear b
      obtain ⟨K0x0, K0x1, K0x2, K0x3, K0x4, K0x5, K0x6⟩ := K0_2.out.seven
      obtain ⟨K1x0, K1x1, K1x2, K1x3, K1x4, K1x5, K1x6⟩ := K1_2.out.seven
      go_wp2
      go_ret
      exact ⟨rfl, B2.out⟩
  · skip
    obtain ⟨w0, hw0⟩ : ∃ x, x = ((w.alloc (.cells #[.slice A0 a0.length ca0, .slice L0 l0.length cl0, .slice D0 d0.length cd0, .slice S0 n0 cs0, .int .i64 c0, .float .f32 hub0, .float .f32 tip0] 46)).alloc (.cells #[.slice A1 a1.length ca1, .slice L1 l1.length cl1, .slice D1 d1.length cd1, .slice S1 n1 cs1, .int .i64 c1, .float .f32 hub1, .float .f32 tip1] 46)) := ⟨_, rfl⟩
    have B0 : Hid (Below w.heap.size w w0) := Lib.hid (by rw [hw0]; exact ((Below.refl _ _).alloc (Nat.le_refl _) _).alloc (by simp <;> omega) _)
    have Z0 : Hid (w0.heap.size = w.heap.size + 2) := Lib.hid (by rw [hw0]; simp)
    have K0 : Hid (BlkL w0 (w.heap.size) [.slice A0 a0.length ca0, .slice L0 l0.length cl0, .slice D0 d0.length cd0, .slice S0 n0 cs0, .int .i64 c0, .float .f32 hub0, .float .f32 tip0]) := Lib.hid (by rw [hw0]; exact (blkL_at w #[.slice A0 a0.length ca0, .slice L0 l0.length cl0, .slice D0 d0.length cd0, .slice S0 n0 cs0, .int .i64 c0, .float .f32 hub0, .float .f32 tip0] 46 rfl).alloc _)
    have K1 : Hid (BlkL w0 (w.heap.size + 1) [.slice A1 a1.length ca1, .slice L1 l1.length cl1, .slice D1 d1.length cd1, .slice S1 n1 cs1, .int .i64 c1, .float .f32 hub1, .float .f32 tip1]) := Lib.hid (by rw [hw0]; exact blkL_at (w.alloc (.cells #[.slice A0 a0.length ca0, .slice L0 l0.length cl0, .slice D0 d0.length cd0, .slice S0 n0 cs0, .int .i64 c0, .float .f32 hub0, .float .f32 tip0] 46)) #[.slice A1 a1.length ca1, .slice L1 l1.length cl1, .slice D1 d1.length cd1, .slice S1 n1 cs1, .int .i64 c1, .float .f32 hub1, .float .f32 tip1] 46 (by simp))
    go_enter Try.func10, Try.ntmps10
    go_wp2_with fail
    rw [← hw0]
    clear hw0
    obtain ⟨K0x0, K0x1, K0x2, K0x3, K0x4, K0x5, K0x6⟩ := K0.out.seven
    obtain ⟨K1x0, K1x1, K1x2, K1x3, K1x4, K1x5, K1x6⟩ := K1.out.seven
    go_wp2_with fail
    refine (l_szRotor_no A0 L0 D0 S0 _ ca0 _ cl0 _ cd0 n0 cs0 c0 hub0 tip0 _ _ (by omega) (by omega) (by omega) ma0 ml0 md0 ms0).mono ?_
    rintro e wd1 ⟨rfl, b⟩
    have B1 : Hid (Below w.heap.size w wd1) := Lib.hid (below_of B0.out B0.out.size b)
    have Z1 : Hid (w0.heap.size ≤ wd1.heap.size) := Lib.hid b.size
    have K0_1 : Hid (BlkL wd1 (w.heap.size) [.slice A0 a0.length ca0, .slice L0 l0.length cl0, .slice D0 d0.length cd0, .slice S0 n0 cs0, .int .i64 c0, .float .f32 hub0, .float .f32 tip0]) := Lib.hid (K0.out.below b)
    have K1_1 : Hid (BlkL wd1 (w.heap.size + 1) [.slice A1 a1.length ca1, .slice L1 l1.length cl1, .slice D1 d1.length cd1, .slice S1 n1 cs1, .int .i64 c1, .float .f32 hub1, .float .f32 tip1]) := Lib.hid (K1.out.below b)
    clear K0x0 K0x1 K0x2 K0x3 K0x4 K0x5 K0x6 K1x0 K1x1 K1x2 K1x3 K1x4 K1x5 K1x6
    clear K0 K1
    clear b
    obtain ⟨K0x0, K0x1, K0x2, K0x3, K0x4, K0x5, K0x6⟩ := K0_1.out.seven
    obtain ⟨K1x0, K1x1, K1x2, K1x3, K1x4, K1x5, K1x6⟩ := K1_1.out.seven
    go_wp2
    go_ret
    exact ⟨rfl, B1.out⟩
end Go.Proofs.Ytplofbkollhjpaa
