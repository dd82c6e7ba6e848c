/- The law FnExactFarmPower. No statement is proved here. -/
import Derived.Test.YtmadlabnhjhfiaaMgFa
import Derived.Test.YtmadlabnhjhfiaaFrmK
import Derived.Test.YtmadlabnhjhfiaaOpenF
import Derived.Test.YtmadlabnhjhfiaaOpenW
import Derived.Test.YtmadlabnhjhfiaaMarkR
import Derived.Test.YtmadlabnhjhfiaaInv5
namespace Go.Proofs.Ytmadlabnhjhfiaa
open Go Go.RowKit
set_option maxHeartbeats 16000000 in
set_option maxRecDepth 100000 in
theorem law_FnExactFarmPower (X0 Y0 : Option Addr) (cx0 cy0 : Nat) (fx0 fy0 : List Nat) (fr0 fd0 fs0 : Nat) (A1 L1 : Option Addr) (ca1 cl1 : Nat) (a1 l1 : List Nat) (u2 : Nat) (w : World) (h0 : Rs w X0 Y0 fx0 fy0) (ma0 : fx0.length ≤ 9223372036854775807) (ml0 : fy0.length ≤ 9223372036854775807) (_hw0 : (∀ x ∈ fx0, x < words .f32) ∧ ∀ x ∈ fy0, x < words .f32) (_hv0 : fr0 < words .f32 ∧ fd0 < words .f32 ∧ fs0 < words .f32) (h1 : Rs w A1 L1 a1 l1) (ma1 : a1.length ≤ 9223372036854775807) (ml1 : l1.length ≤ 9223372036854775807) (_hu2 : u2 < words .f32) :
    Calls Try.prog 8 #[.agg #[.slice X0 fx0.length cx0, .slice Y0 fy0.length cy0, .float .f32 fr0, .float .f32 fd0, .float .f32 fs0], .agg #[.slice A1 a1.length ca1, .slice L1 l1.length cl1], .float .f32 u2] w fun e w' => e = .returned (.bool true) ∧ Below w.heap.size w w' := by
  have HP0 := Lib.hid h0
  clear h0
  have HP1 := Lib.hid h1
  clear h1
  by_cases hn0 : fx0.length + fy0.length ≤ 1048576
  · skip
    by_cases hn1 : fx0.length + fy0.length + (a1.length + l1.length) ≤ 1048576
    · skip
      have HN0 : Hid (FewS fx0 fy0) := Lib.hid (by unfold FewS; omega)
      have HN1 : Hid (FewS a1 l1) := Lib.hid (by unfold FewS; omega)
      obtain ⟨w0, hw0⟩ : ∃ x, x = ((w.alloc (.cells #[.slice X0 fx0.length cx0, .slice Y0 fy0.length cy0, .float .f32 fr0, .float .f32 fd0, .float .f32 fs0] 47)).alloc (.cells #[.slice A1 a1.length ca1, .slice L1 l1.length cl1] 56)) := ⟨_, rfl⟩
      have B0 : Hid (Below w.heap.size w w0) := Lib.hid (by rw [hw0]; exact ((Below.refl _ _).alloc (Nat.le_refl _) _).alloc (by simp <;> omega) _)
      have Z0 : Hid (w0.heap.size = w.heap.size + 2) := Lib.hid (by rw [hw0]; simp)
      have K0 : Hid (BlkL w0 (w.heap.size) [.slice X0 fx0.length cx0, .slice Y0 fy0.length cy0, .float .f32 fr0, .float .f32 fd0, .float .f32 fs0]) := Lib.hid (by rw [hw0]; exact (blkL_at w #[.slice X0 fx0.length cx0, .slice Y0 fy0.length cy0, .float .f32 fr0, .float .f32 fd0, .float .f32 fs0] 47 rfl).alloc _)
      have K1 : Hid (BlkL w0 (w.heap.size + 1) [.slice A1 a1.length ca1, .slice L1 l1.length cl1]) := Lib.hid (by rw [hw0]; exact blkL_at (w.alloc (.cells #[.slice X0 fx0.length cx0, .slice Y0 fy0.length cy0, .float .f32 fr0, .float .f32 fd0, .float .f32 fs0] 47)) #[.slice A1 a1.length ca1, .slice L1 l1.length cl1] 56 (by simp))
      go_enter Try.func8, Try.ntmps8
      go_wp2_with fail
      rw [← hw0]
      clear hw0
      have hq0 : (0 : Int) ≤ 1048576 - (fx0.length : Int) - (fy0.length : Int) := by omega
      have hq1 : (0 : Int) ≤ 1048576 - (fx0.length : Int) - (fy0.length : Int) - (a1.length : Int) - (l1.length : Int) := by omega
      obtain ⟨K0x0, K0x1, K0x2, K0x3, K0x4⟩ := K0.out.five
      obtain ⟨K1x0, K1x1⟩ := K1.out.two
      go_wp2_with fail
      refine (l_szFarm_yes X0 Y0 _ cx0 _ cy0 fr0 fd0 fs0 _ _ (by omega) (by omega)).mono ?_
      rintro e wd1 ⟨rfl, b⟩
      have B1 : Hid (Below w.heap.size w wd1) := Lib.hid (below_of B0.out B0.out.size b)
      have Z1 : Hid (w0.heap.size ≤ wd1.heap.size) := Lib.hid b.size
      have K0_1 : Hid (BlkL wd1 (w.heap.size) [.slice X0 fx0.length cx0, .slice Y0 fy0.length cy0, .float .f32 fr0, .float .f32 fd0, .float .f32 fs0]) := Lib.hid (K0.out.below b)
      have K1_1 : Hid (BlkL wd1 (w.heap.size + 1) [.slice A1 a1.length ca1, .slice L1 l1.length cl1]) := Lib.hid (K1.out.below b)
      clear K0x0 K0x1 K0x2 K0x3 K0x4 K1x0 K1x1
      clear K0 K1
      clear b
      obtain ⟨K0x0, K0x1, K0x2, K0x3, K0x4⟩ := K0_1.out.five
      obtain ⟨K1x0, K1x1⟩ := K1_1.out.two
      go_wp2_with fail
      refine (l_szRose_yes A1 L1 _ ca1 _ cl1 _ _ (by omega) (by omega)).mono ?_
      rintro e wd2 ⟨rfl, b⟩
      have B2 : Hid (Below w.heap.size w wd2) := Lib.hid (below_of B1.out B1.out.size b)
      have Z2 : Hid (wd1.heap.size ≤ wd2.heap.size) := Lib.hid b.size
      have K0_2 : Hid (BlkL wd2 (w.heap.size) [.slice X0 fx0.length cx0, .slice Y0 fy0.length cy0, .float .f32 fr0, .float .f32 fd0, .float .f32 fs0]) := Lib.hid (K0_1.out.below b)
      have K1_2 : Hid (BlkL wd2 (w.heap.size + 1) [.slice A1 a1.length ca1, .slice L1 l1.length cl1]) := Lib.hid (K1_1.out.below b)
      clear K0x0 K0x1 K0x2 K0x3 K0x4 K1x0 K1x1
      clear K0_1 K1_1
      clear b
      obtain ⟨K0x0, K0x1, K0x2, K0x3, K0x4⟩ := K0_2.out.five
      obtain ⟨K1x0, K1x1⟩ := K1_2.out.two
      go_wp2_with fail
      clear K0x0 K0x1 K0x2 K0x3 K0x4 K1x0 K1x1
      refine wp_region_inv5 (fun iq wv v => match iq with
        | 0 => v = .agg #[.slice X0 fx0.length cx0, .slice Y0 fy0.length cy0, .float .f32 fr0, .float .f32 fd0, .float .f32 fs0]
        | 1 => ∃ q1 q2, v = .agg #[.slice (some ⟨q1, 0, none⟩) fx0.length fx0.length, .slice (some ⟨q2, 0, none⟩) fy0.length fy0.length, .float .f32 fr0, .float .f32 fd0, .float .f32 fs0] ∧ OwnR2 wv wd2.heap.size (some ⟨q1, 0, none⟩) (some ⟨q2, 0, none⟩) q1 q2 fx0 fy0
        | 2 => v = .agg #[.slice A1 a1.length ca1, .slice L1 l1.length cl1]
        | 3 => ∃ q1 q2, v = .agg #[.slice (some ⟨q1, 0, none⟩) a1.length a1.length, .slice (some ⟨q2, 0, none⟩) l1.length l1.length] ∧ OwnR2 wv wd2.heap.size (some ⟨q1, 0, none⟩) (some ⟨q2, 0, none⟩) q1 q2 a1 l1
        | 4 => v = .float .f32 u2
        | 5 => ∃ r, v = .tuple #[.float .f32 r, .bool (fpO fx0 fy0 fr0 fd0 fs0 u2 a1 l1)] ∧ canon .f32 r = canon .f32 (fpR fx0 fy0 fr0 fd0 fs0 u2 a1 l1)
        | 6 => ∃ r, v = .tuple #[.float .f32 r, .bool (fpO fx0 fy0 fr0 fd0 fs0 u2 a1 l1)] ∧ canon .f32 r = canon .f32 (fpR fx0 fy0 fr0 fd0 fs0 u2 a1 l1)
        | 7 => ∃ r, v = .float .f32 r ∧ canon .f32 r = canon .f32 (fpR fx0 fy0 fr0 fd0 fs0 u2 a1 l1)
        | 8 => v = .bool (fpO fx0 fy0 fr0 fd0 fs0 u2 a1 l1)
        | 9 => ∃ r, v = .float .f32 r ∧ canon .f32 r = canon .f32 (fpR fx0 fy0 fr0 fd0 fs0 u2 a1 l1)
        | 10 => v = .bool (fpO fx0 fy0 fr0 fd0 fs0 u2 a1 l1)
        | _ => False) (fun _ ww => Below wd2.heap.size wd2 ww) (fun w w' => Below w.heap.size w w') ?hmono (by kernel_rfl) (by kernel_rfl) ((Below.refl _ _).drew) ?hop ?hend
      case hmono =>
        intro i wa wb v hR hV
        rcases i with _ | _ | _ | _ | _ | _ | _ | _ | _ | _ | _ | i
        · exact hV
        · obtain ⟨q1, q2, rfl, ho⟩ := hV; exact ⟨q1, q2, rfl, ho.below hR⟩
        · exact hV
        · obtain ⟨q1, q2, rfl, ho⟩ := hV; exact ⟨q1, q2, rfl, ho.below hR⟩
        · exact hV
        · exact hV
        · exact hV
        · exact hV
        · exact hV
        · exact hV
        · exact hV
        · exact hV
      case hop =>
        intro q o hq listed act w3 hI hnot hcl hall
        have hB := hI.cls
        obtain ⟨K0x0, K0x1, K0x2, K0x3, K0x4⟩ := (K0_2.out.below hB).five
        obtain ⟨K1x0, K1x1⟩ := (K1_2.out.below hB).two
        rcases q with _ | _ | _ | _ | _ | _ | _ | _ | _ | _ | _ | q
        · simp at hq; subst hq
          have g3 : act.tmps[3]?.getD undef = .pointer (some ⟨w.heap.size, 0, none⟩) := hI.kept 3 (by kernel_rfl)
          clear hI hall hnot hcl
          refine .inl ⟨wanted_none rfl, ?_⟩
          unfold Oper.wp
          go_simp
          all_goals first | exact ⟨_, rfl, Below.refl _ _, rfl, hB⟩ | exact ⟨Below.refl _ _, hB⟩ | exact Below.refl _ _
        · simp at hq; subst hq
          have g25 : act.tmps[25]?.getD undef = .agg #[.slice X0 fx0.length cx0, .slice Y0 fy0.length cy0, .float .f32 fr0, .float .f32 fd0, .float .f32 fs0] := hI.has 0 25 rfl (hall ⟨0, .data⟩ (by simp) rfl)
          clear hI hall hnot hcl
          refine .inl ⟨wanted_none rfl, ?_⟩
          unfold Oper.wp
          go_simp
          refine (l_toFarm X0 Y0 cx0 cy0 fx0 fy0 fr0 fd0 fs0 _ (HP0.out.below (below_of B2.out B2.out.size hB)) HN0.out).mono ?_
          rintro e w4 ⟨q1, q2, rfl, ho, b4⟩
          exact ⟨_, rfl, b4, ⟨q1, q2, rfl, OwnR2.of ho.2.2.1 ho.2.2.2 (by have := ho.1; have := hB.size; omega) ho.2.1⟩, below_of hB hB.size b4⟩
        · simp at hq; subst hq
          have g4 : act.tmps[4]?.getD undef = .pointer (some ⟨(w.heap.size + 1), 0, none⟩) := hI.kept 4 (by kernel_rfl)
          clear hI hall hnot hcl
          refine .inl ⟨wanted_none rfl, ?_⟩
          unfold Oper.wp
          go_simp
          all_goals first | exact ⟨_, rfl, Below.refl _ _, rfl, hB⟩ | exact ⟨Below.refl _ _, hB⟩ | exact Below.refl _ _
        · simp at hq; subst hq
          have g27 : act.tmps[27]?.getD undef = .agg #[.slice A1 a1.length ca1, .slice L1 l1.length cl1] := hI.has 2 27 rfl (hall ⟨2, .data⟩ (by simp) rfl)
          clear hI hall hnot hcl
          refine .inl ⟨wanted_none rfl, ?_⟩
          unfold Oper.wp
          go_simp
          refine (l_toRose A1 L1 ca1 cl1 a1 l1 _ (HP1.out.below (below_of B2.out B2.out.size hB)) HN1.out).mono ?_
          rintro e w4 ⟨q1, q2, rfl, ho, b4⟩
          exact ⟨_, rfl, b4, ⟨q1, q2, rfl, OwnR2.of ho.2.2.1 ho.2.2.2 (by have := ho.1; have := hB.size; omega) ho.2.1⟩, below_of hB hB.size b4⟩
        · simp at hq; subst hq
          have g2 : act.tmps[2]?.getD undef = .float .f32 u2 := hI.kept 2 (by kernel_rfl)
          clear hI hall hnot hcl
          refine .inl ⟨wanted_none rfl, ?_⟩
          unfold Oper.wp
          go_simp
          all_goals first | exact ⟨_, rfl, Below.refl _ _, rfl, hB⟩ | exact ⟨Below.refl _ _, hB⟩ | exact Below.refl _ _
        · simp at hq; subst hq
          obtain ⟨q11, q21, g26, h1a⟩ := hI.has 1 26 rfl (hall ⟨1, .data⟩ (by simp) rfl)
          obtain ⟨q13, q23, g28, h3a⟩ := hI.has 3 28 rfl (hall ⟨3, .data⟩ (by simp) rfl)
          have g29 : act.tmps[29]?.getD undef = .float .f32 u2 := hI.has 4 29 rfl (hall ⟨4, .data⟩ (by simp) rfl)
          clear hI hall hnot hcl
          refine .inl ⟨wanted_none rfl, ?_⟩
          unfold Oper.wp
          go_simp
          refine (s_FarmPower _ _ _ _ fx0 fy0 fr0 fd0 fs0 _ _ _ _ a1 l1 u2 _ (OwnR2.fl h1a) HN0.out (OwnR2.fl h3a) HN1.out).mono ?_
          rintro e w4 ⟨r, rfl, hr4, b4⟩
          exact ⟨_, rfl, b4, ⟨r, rfl, hr4⟩, below_of hB hB.size b4⟩
        · simp at hq; subst hq
          obtain ⟨r5, g30, h5a⟩ := hI.has 5 30 rfl (hall ⟨5, .data⟩ (by simp) rfl)
          clear hI hall hnot hcl
          refine .inl ⟨wanted_none rfl, ?_⟩
          unfold Oper.wp
          go_simp
          first | exact ⟨_, rfl, Below.refl _ _, ⟨r5, rfl, h5a⟩⟩ | exact ⟨_, rfl, Below.refl _ _, ⟨r5, rfl, h5a⟩, hB⟩
        · simp at hq; subst hq
          obtain ⟨r6, g24, h6a⟩ := hI.has 6 24 rfl (hall ⟨6, .data⟩ (by simp) rfl)
          clear hI hall hnot hcl
          refine .inl ⟨wanted_none rfl, ?_⟩
          unfold Oper.wp
          go_simp
          first | exact ⟨_, rfl, Below.refl _ _, ⟨_, rfl, h6a⟩, hB⟩ | exact ⟨_, rfl, Below.refl _ _, ⟨_, rfl, h6a⟩⟩
        · simp at hq; subst hq
          obtain ⟨r6, g24, h6a⟩ := hI.has 6 24 rfl (hall ⟨6, .data⟩ (by simp) rfl)
          clear hI hall hnot hcl
          refine .inl ⟨wanted_none rfl, ?_⟩
          unfold Oper.wp
          go_simp
          all_goals first | exact ⟨_, rfl, Below.refl _ _, rfl, hB⟩ | exact ⟨Below.refl _ _, hB⟩ | exact Below.refl _ _
        · simp at hq; subst hq
          obtain ⟨r7, g31, h7a⟩ := hI.has 7 31 rfl (hall ⟨7, .data⟩ (by simp) rfl)
          clear hI hall hnot hcl
          refine .inl ⟨wanted_none rfl, ?_⟩
          unfold Oper.wp
          go_simp
          first | exact ⟨_, rfl, Below.refl _ _, ⟨_, rfl, h7a⟩⟩ | exact ⟨_, rfl, Below.refl _ _, ⟨_, rfl, h7a⟩, hB⟩
        · simp at hq; subst hq
          have g32 : act.tmps[32]?.getD undef = .bool (fpO fx0 fy0 fr0 fd0 fs0 u2 a1 l1) := hI.has 8 32 rfl (hall ⟨8, .data⟩ (by simp) rfl)
          clear hI hall hnot hcl
          refine .inl ⟨wanted_none rfl, ?_⟩
          unfold Oper.wp
          go_simp
          all_goals first | exact ⟨_, rfl, Below.refl _ _, rfl, hB⟩ | exact ⟨Below.refl _ _, hB⟩ | exact Below.refl _ _
        · simp at hq
      case hend =>
        intro listed act w3 hI hall
        have hB := hI.cls
        obtain ⟨K0x0, K0x1, K0x2, K0x3, K0x4⟩ := (K0_2.out.below hB).five
        obtain ⟨K1x0, K1x1⟩ := (K1_2.out.below hB).two
        obtain ⟨cr0, g8, ch0⟩ := hI.has 9 8 rfl (hall 9 (by decide))
        have g9 : act.tmps[9]?.getD undef = .bool (fpO fx0 fy0 fr0 fd0 fs0 u2 a1 l1) := hI.has 10 9 rfl (hall 10 (by decide))
        have g0 := hI.kept 0 (by kernel_rfl)
        conv at g0 => rhs; whnf
        have g1 := hI.kept 1 (by kernel_rfl)
        conv at g1 => rhs; whnf
        have g2 := hI.kept 2 (by kernel_rfl)
        conv at g2 => rhs; whnf
        have g3 := hI.kept 3 (by kernel_rfl)
        conv at g3 => rhs; whnf
        have g4 := hI.kept 4 (by kernel_rfl)
        conv at g4 => rhs; whnf
        have g5 : act.tmps[5]?.getD undef = undef := hI.kept 5 (by kernel_rfl)
        have g6 := hI.kept 6 (by kernel_rfl)
        conv at g6 => rhs; whnf
        have g7 := hI.kept 7 (by kernel_rfl)
        conv at g7 => rhs; whnf
        have g10 : act.tmps[10]?.getD undef = undef := hI.kept 10 (by kernel_rfl)
        have g11 : act.tmps[11]?.getD undef = undef := hI.kept 11 (by kernel_rfl)
        have g12 : act.tmps[12]?.getD undef = undef := hI.kept 12 (by kernel_rfl)
        have g13 : act.tmps[13]?.getD undef = undef := hI.kept 13 (by kernel_rfl)
        have g14 := hI.kept 14 (by kernel_rfl)
        conv at g14 => rhs; whnf
        have g15 := hI.kept 15 (by kernel_rfl)
        conv at g15 => rhs; whnf
        have g16 := hI.kept 16 (by kernel_rfl)
        conv at g16 => rhs; whnf
        have g17 := hI.kept 17 (by kernel_rfl)
        conv at g17 => rhs; whnf
        have g18 := hI.kept 18 (by kernel_rfl)
        conv at g18 => rhs; whnf
        have g19 := hI.kept 19 (by kernel_rfl)
        conv at g19 => rhs; whnf
        have g20 := hI.kept 20 (by kernel_rfl)
        conv at g20 => rhs; whnf
        have g21 := hI.kept 21 (by kernel_rfl)
        conv at g21 => rhs; whnf
        have g22 := hI.kept 22 (by kernel_rfl)
        conv at g22 => rhs; whnf
        have g23 := hI.kept 23 (by kernel_rfl)
        conv at g23 => rhs; whnf
        have g33 : act.tmps[33]?.getD undef = undef := hI.kept 33 (by kernel_rfl)
        have g34 : act.tmps[34]?.getD undef = undef := hI.kept 34 (by kernel_rfl)
        have g35 : act.tmps[35]?.getD undef = undef := hI.kept 35 (by kernel_rfl)
        have g36 : act.tmps[36]?.getD undef = undef := hI.kept 36 (by kernel_rfl)
        have g37 : act.tmps[37]?.getD undef = undef := hI.kept 37 (by kernel_rfl)
        have g38 : act.tmps[38]?.getD undef = undef := hI.kept 38 (by kernel_rfl)
        have g39 : act.tmps[39]?.getD undef = undef := hI.kept 39 (by kernel_rfl)
        have g40 : act.tmps[40]?.getD undef = undef := hI.kept 40 (by kernel_rfl)
        have g41 : act.tmps[41]?.getD undef = undef := hI.kept 41 (by kernel_rfl)
        have g42 : act.tmps[42]?.getD undef = undef := hI.kept 42 (by kernel_rfl)
        have g43 : act.tmps[43]?.getD undef = undef := hI.kept 43 (by kernel_rfl)
        have g44 : act.tmps[44]?.getD undef = undef := hI.kept 44 (by kernel_rfl)
        have g45 : act.tmps[45]?.getD undef = undef := hI.kept 45 (by kernel_rfl)
        have g46 : act.tmps[46]?.getD undef = undef := hI.kept 46 (by kernel_rfl)
        have g47 : act.tmps[47]?.getD undef = undef := hI.kept 47 (by kernel_rfl)
        have g48 : act.tmps[48]?.getD undef = undef := hI.kept 48 (by kernel_rfl)
        have g49 : act.tmps[49]?.getD undef = undef := hI.kept 49 (by kernel_rfl)
        have g50 : act.tmps[50]?.getD undef = undef := hI.kept 50 (by kernel_rfl)
        have g51 : act.tmps[51]?.getD undef = undef := hI.kept 51 (by kernel_rfl)
        have g52 : act.tmps[52]?.getD undef = undef := hI.kept 52 (by kernel_rfl)
        have g53 : act.tmps[53]?.getD undef = undef := hI.kept 53 (by kernel_rfl)
        have g54 : act.tmps[54]?.getD undef = undef := hI.kept 54 (by kernel_rfl)
        have g55 : act.tmps[55]?.getD undef = undef := hI.kept 55 (by kernel_rfl)
        have g56 : act.tmps[56]?.getD undef = undef := hI.kept 56 (by kernel_rfl)
        have g57 : act.tmps[57]?.getD undef = undef := hI.kept 57 (by kernel_rfl)
        have g58 : act.tmps[58]?.getD undef = undef := hI.kept 58 (by kernel_rfl)
        have g59 : act.tmps[59]?.getD undef = undef := hI.kept 59 (by kernel_rfl)
        have g60 : act.tmps[60]?.getD undef = undef := hI.kept 60 (by kernel_rfl)
        have g61 : act.tmps[61]?.getD undef = undef := hI.kept 61 (by kernel_rfl)
        have g62 : act.tmps[62]?.getD undef = undef := hI.kept 62 (by kernel_rfl)
        have g63 : act.tmps[63]?.getD undef = undef := hI.kept 63 (by kernel_rfl)
        have g64 : act.tmps[64]?.getD undef = undef := hI.kept 64 (by kernel_rfl)
        have hsz : act.tmps.size = 65 := hI.size.trans (by kernel_rfl)
        have hd := hI.defers
        have C0 := Lib.hid ch0
        clear ch0
        clear hI hall K0x0 K0x1 K0x2 K0x3 K0x4 K1x0 K1x1
        obtain ⟨tt, dd⟩ := act
        simp only at g0 g1 g2 g3 g4 g5 g6 g7 g8 g9 g10 g11 g12 g13 g14 g15 g16 g17 g18 g19 g20 g21 g22 g23 g33 g34 g35 g36 g37 g38 g39 g40 g41 g42 g43 g44 g45 g46 g47 g48 g49 g50 g51 g52 g53 g54 g55 g56 g57 g58 g59 g60 g61 g62 g63 g64 hsz hd
        subst hd
        have hl : tt = #[tt[0]?.getD undef, tt[1]?.getD undef, tt[2]?.getD undef, tt[3]?.getD undef, tt[4]?.getD undef, tt[5]?.getD undef, tt[6]?.getD undef, tt[7]?.getD undef, tt[8]?.getD undef, tt[9]?.getD undef, tt[10]?.getD undef, tt[11]?.getD undef, tt[12]?.getD undef, tt[13]?.getD undef, tt[14]?.getD undef, tt[15]?.getD undef, tt[16]?.getD undef, tt[17]?.getD undef, tt[18]?.getD undef, tt[19]?.getD undef, tt[20]?.getD undef, tt[21]?.getD undef, tt[22]?.getD undef, tt[23]?.getD undef, tt[24]?.getD undef, tt[25]?.getD undef, tt[26]?.getD undef, tt[27]?.getD undef, tt[28]?.getD undef, tt[29]?.getD undef, tt[30]?.getD undef, tt[31]?.getD undef, tt[32]?.getD undef, tt[33]?.getD undef, tt[34]?.getD undef, tt[35]?.getD undef, tt[36]?.getD undef, tt[37]?.getD undef, tt[38]?.getD undef, tt[39]?.getD undef, tt[40]?.getD undef, tt[41]?.getD undef, tt[42]?.getD undef, tt[43]?.getD undef, tt[44]?.getD undef, tt[45]?.getD undef, tt[46]?.getD undef, tt[47]?.getD undef, tt[48]?.getD undef, tt[49]?.getD undef, tt[50]?.getD undef, tt[51]?.getD undef, tt[52]?.getD undef, tt[53]?.getD undef, tt[54]?.getD undef, tt[55]?.getD undef, tt[56]?.getD undef, tt[57]?.getD undef, tt[58]?.getD undef, tt[59]?.getD undef, tt[60]?.getD undef, tt[61]?.getD undef, tt[62]?.getD undef, tt[63]?.getD undef, tt[64]?.getD undef] := (arr_lit hsz).trans rfl
        rw [g0, g1, g2, g3, g4, g5, g6, g7, g8, g9, g10, g11, g12, g13, g14, g15, g16, g17, g18, g19, g20, g21, g22, g23, g33, g34, g35, g36, g37, g38, g39, g40, g41, g42, g43, g44, g45, g46, g47, g48, g49, g50, g51, g52, g53, g54, g55, g56, g57, g58, g59, g60, g61, g62, g63, g64] at hl
        clear g0 g1 g2 g3 g4 g5 g6 g7 g8 g9 g10 g11 g12 g13 g14 g15 g16 g17 g18 g19 g20 g21 g22 g23 g33 g34 g35 g36 g37 g38 g39 g40 g41 g42 g43 g44 g45 g46 g47 g48 g49 g50 g51 g52 g53 g54 g55 g56 g57 g58 g59 g60 g61 g62 g63 g64 hsz
        generalize tt[24]?.getD undef = y24 at hl
        generalize tt[25]?.getD undef = y25 at hl
        generalize tt[26]?.getD undef = y26 at hl
        generalize tt[27]?.getD undef = y27 at hl
        generalize tt[28]?.getD undef = y28 at hl
        generalize tt[29]?.getD undef = y29 at hl
        generalize tt[30]?.getD undef = y30 at hl
        generalize tt[31]?.getD undef = y31 at hl
        generalize tt[32]?.getD undef = y32 at hl
        subst hl
        obtain ⟨wd3, hww⟩ : ∃ x, x = w3 := ⟨_, rfl⟩
        rw [← hww] at hB ⊢
        clear hww
        have B3 : Hid (Below w.heap.size w wd3) := Lib.hid (below_of B2.out B2.out.size hB)
        have Z3 : Hid (wd2.heap.size ≤ wd3.heap.size) := Lib.hid hB.size
        have K0_3 : Hid (BlkL wd3 (w.heap.size) [.slice X0 fx0.length cx0, .slice Y0 fy0.length cy0, .float .f32 fr0, .float .f32 fd0, .float .f32 fs0]) := Lib.hid (K0_2.out.below hB)
        have K1_3 : Hid (BlkL wd3 (w.heap.size + 1) [.slice A1 a1.length ca1, .slice L1 l1.length cl1]) := Lib.hid (K1_2.out.below hB)
        clear K0_2 K1_2
        clear hB
        obtain ⟨K0x0, K0x1, K0x2, K0x3, K0x4⟩ := K0_3.out.five
        obtain ⟨K1x0, K1x1⟩ := K1_3.out.two
        go_wp2_with fail
        refine (l_toFarm X0 Y0 cx0 cy0 fx0 fy0 fr0 fd0 fs0 _ (HP0.out.below B3.out) HN0.out).mono ?_
        rintro e wd4 ⟨x01, x02, rfl, ho, b⟩
        have B4 : Hid (Below w.heap.size w wd4) := Lib.hid (below_of B3.out B3.out.size b)
        have Z4 : Hid (wd3.heap.size ≤ wd4.heap.size) := Lib.hid b.size
        have K0_4 : Hid (BlkL wd4 (w.heap.size) [.slice X0 fx0.length cx0, .slice Y0 fy0.length cy0, .float .f32 fr0, .float .f32 fd0, .float .f32 fs0]) := Lib.hid (K0_3.out.below b)
        have K1_4 : Hid (BlkL wd4 (w.heap.size + 1) [.slice A1 a1.length ca1, .slice L1 l1.length cl1]) := Lib.hid (K1_3.out.below b)
        clear K0x0 K0x1 K0x2 K0x3 K0x4 K1x0 K1x1
        clear K0_3 K1_3
        have Xx0 : Hid (OwnR2 wd4 wd3.heap.size (some ⟨x01, 0, none⟩) (some ⟨x02, 0, none⟩) x01 x02 fx0 fy0) := Lib.hid (OwnR2.of ho.2.2.1 ho.2.2.2 ho.1 ho.2.1)
        have Xx0bd := Xx0
        clear ho b
        obtain ⟨wd5, hw5⟩ : ∃ x, x = wd4.alloc (.cells #[.slice (some ⟨x01, 0, none⟩) fx0.length fx0.length, .slice (some ⟨x02, 0, none⟩) fy0.length fy0.length, .float .f32 fr0, .float .f32 fd0, .float .f32 fs0] 50) := ⟨_, rfl⟩
        have b : Below wd4.heap.size wd4 wd5 := by rw [hw5]; exact (Below.refl _ _).alloc (Nat.le_refl _) _
        have Y5 : Hid (wd4.heap.size + 1 ≤ wd5.heap.size) := Lib.hid (by rw [hw5]; simp)
        have B5 : Hid (Below w.heap.size w wd5) := Lib.hid (below_of B4.out B4.out.size b)
        have Z5 : Hid (wd4.heap.size ≤ wd5.heap.size) := Lib.hid b.size
        have K0_5 : Hid (BlkL wd5 (w.heap.size) [.slice X0 fx0.length cx0, .slice Y0 fy0.length cy0, .float .f32 fr0, .float .f32 fd0, .float .f32 fs0]) := Lib.hid (K0_4.out.below b)
        have K1_5 : Hid (BlkL wd5 (w.heap.size + 1) [.slice A1 a1.length ca1, .slice L1 l1.length cl1]) := Lib.hid (K1_4.out.below b)
        have Xx0_1 : Hid (OwnR2 wd5 wd3.heap.size (some ⟨x01, 0, none⟩) (some ⟨x02, 0, none⟩) x01 x02 fx0 fy0) := Lib.hid (Xx0.out.below b)
        have V0 : Hid (BlkL wd5 (wd4.heap.size) [.slice (some ⟨x01, 0, none⟩) fx0.length fx0.length, .slice (some ⟨x02, 0, none⟩) fy0.length fy0.length, .float .f32 fr0, .float .f32 fd0, .float .f32 fs0]) := Lib.hid (by rw [hw5]; exact blkL_at wd4 #[.slice (some ⟨x01, 0, none⟩) fx0.length fx0.length, .slice (some ⟨x02, 0, none⟩) fy0.length fy0.length, .float .f32 fr0, .float .f32 fd0, .float .f32 fs0] 50 rfl)
        clear b
        have K0y0 := fun o => ((K0_4.out.alloc o).2 0 _ rfl).1
        have K0y1 := fun o => ((K0_4.out.alloc o).2 1 _ rfl).1
        have K0y2 := fun o => ((K0_4.out.alloc o).2 2 _ rfl).1
        have K0y3 := fun o => ((K0_4.out.alloc o).2 3 _ rfl).1
        have K0y4 := fun o => ((K0_4.out.alloc o).2 4 _ rfl).1
        have K1y0 := fun o => ((K1_4.out.alloc o).2 0 _ rfl).1
        have K1y1 := fun o => ((K1_4.out.alloc o).2 1 _ rfl).1
        go_wp2_with fail
        rw [← hw5]
        clear hw5
        clear K0y0 K0y1 K0y2 K0y3 K0y4 K1y0 K1y1
        clear K0_4 K1_4 Xx0
        obtain ⟨K0x0, K0x1, K0x2, K0x3, K0x4⟩ := K0_5.out.five
        obtain ⟨K1x0, K1x1⟩ := K1_5.out.two
        obtain ⟨V0x0, V0x1, V0x2, V0x3, V0x4⟩ := V0.out.five
        go_wp2_with fail
        refine (l_toRose A1 L1 ca1 cl1 a1 l1 _ (HP1.out.below B5.out) HN1.out).mono ?_
        rintro e wd6 ⟨x11, x12, rfl, ho, b⟩
        have B6 : Hid (Below w.heap.size w wd6) := Lib.hid (below_of B5.out B5.out.size b)
        have Z6 : Hid (wd5.heap.size ≤ wd6.heap.size) := Lib.hid b.size
        have K0_6 : Hid (BlkL wd6 (w.heap.size) [.slice X0 fx0.length cx0, .slice Y0 fy0.length cy0, .float .f32 fr0, .float .f32 fd0, .float .f32 fs0]) := Lib.hid (K0_5.out.below b)
        have K1_6 : Hid (BlkL wd6 (w.heap.size + 1) [.slice A1 a1.length ca1, .slice L1 l1.length cl1]) := Lib.hid (K1_5.out.below b)
        have Xx0_2 : Hid (OwnR2 wd6 wd3.heap.size (some ⟨x01, 0, none⟩) (some ⟨x02, 0, none⟩) x01 x02 fx0 fy0) := Lib.hid (Xx0_1.out.below b)
        have V0_1 : Hid (BlkL wd6 (wd4.heap.size) [.slice (some ⟨x01, 0, none⟩) fx0.length fx0.length, .slice (some ⟨x02, 0, none⟩) fy0.length fy0.length, .float .f32 fr0, .float .f32 fd0, .float .f32 fs0]) := Lib.hid (V0.out.below b)
        clear K0x0 K0x1 K0x2 K0x3 K0x4 K1x0 K1x1 V0x0 V0x1 V0x2 V0x3 V0x4
        clear K0_5 K1_5 Xx0_1 V0
        have Xx1 : Hid (OwnR2 wd6 wd5.heap.size (some ⟨x11, 0, none⟩) (some ⟨x12, 0, none⟩) x11 x12 a1 l1) := Lib.hid (OwnR2.of ho.2.2.1 ho.2.2.2 ho.1 ho.2.1)
        have Xx1bd := Xx1
        clear ho b
        obtain ⟨wd7, hw7⟩ : ∃ x, x = wd6.alloc (.cells #[.slice (some ⟨x11, 0, none⟩) a1.length a1.length, .slice (some ⟨x12, 0, none⟩) l1.length l1.length] 34) := ⟨_, rfl⟩
        have b : Below wd6.heap.size wd6 wd7 := by rw [hw7]; exact (Below.refl _ _).alloc (Nat.le_refl _) _
        have Y7 : Hid (wd6.heap.size + 1 ≤ wd7.heap.size) := Lib.hid (by rw [hw7]; simp)
        have B7 : Hid (Below w.heap.size w wd7) := Lib.hid (below_of B6.out B6.out.size b)
        have Z7 : Hid (wd6.heap.size ≤ wd7.heap.size) := Lib.hid b.size
        have K0_7 : Hid (BlkL wd7 (w.heap.size) [.slice X0 fx0.length cx0, .slice Y0 fy0.length cy0, .float .f32 fr0, .float .f32 fd0, .float .f32 fs0]) := Lib.hid (K0_6.out.below b)
        have K1_7 : Hid (BlkL wd7 (w.heap.size + 1) [.slice A1 a1.length ca1, .slice L1 l1.length cl1]) := Lib.hid (K1_6.out.below b)
        have Xx0_3 : Hid (OwnR2 wd7 wd3.heap.size (some ⟨x01, 0, none⟩) (some ⟨x02, 0, none⟩) x01 x02 fx0 fy0) := Lib.hid (Xx0_2.out.below b)
        have V0_2 : Hid (BlkL wd7 (wd4.heap.size) [.slice (some ⟨x01, 0, none⟩) fx0.length fx0.length, .slice (some ⟨x02, 0, none⟩) fy0.length fy0.length, .float .f32 fr0, .float .f32 fd0, .float .f32 fs0]) := Lib.hid (V0_1.out.below b)
        have Xx1_1 : Hid (OwnR2 wd7 wd5.heap.size (some ⟨x11, 0, none⟩) (some ⟨x12, 0, none⟩) x11 x12 a1 l1) := Lib.hid (Xx1.out.below b)
        have V1 : Hid (BlkL wd7 (wd6.heap.size) [.slice (some ⟨x11, 0, none⟩) a1.length a1.length, .slice (some ⟨x12, 0, none⟩) l1.length l1.length]) := Lib.hid (by rw [hw7]; exact blkL_at wd6 #[.slice (some ⟨x11, 0, none⟩) a1.length a1.length, .slice (some ⟨x12, 0, none⟩) l1.length l1.length] 34 rfl)
        clear b
        have K0y0 := fun o => ((K0_6.out.alloc o).2 0 _ rfl).1
        have K0y1 := fun o => ((K0_6.out.alloc o).2 1 _ rfl).1
        have K0y2 := fun o => ((K0_6.out.alloc o).2 2 _ rfl).1
        have K0y3 := fun o => ((K0_6.out.alloc o).2 3 _ rfl).1
        have K0y4 := fun o => ((K0_6.out.alloc o).2 4 _ rfl).1
        have K1y0 := fun o => ((K1_6.out.alloc o).2 0 _ rfl).1
        have K1y1 := fun o => ((K1_6.out.alloc o).2 1 _ rfl).1
        have V0y0 := fun o => ((V0_1.out.alloc o).2 0 _ rfl).1
        have V0y1 := fun o => ((V0_1.out.alloc o).2 1 _ rfl).1
        have V0y2 := fun o => ((V0_1.out.alloc o).2 2 _ rfl).1
        have V0y3 := fun o => ((V0_1.out.alloc o).2 3 _ rfl).1
        have V0y4 := fun o => ((V0_1.out.alloc o).2 4 _ rfl).1
        go_wp2_with fail
        rw [← hw7]
        clear hw7
        clear K0y0 K0y1 K0y2 K0y3 K0y4 K1y0 K1y1 V0y0 V0y1 V0y2 V0y3 V0y4
        clear K0_6 K1_6 Xx0_2 V0_1 Xx1
        obtain ⟨K0x0, K0x1, K0x2, K0x3, K0x4⟩ := K0_7.out.five
        obtain ⟨K1x0, K1x1⟩ := K1_7.out.two
        obtain ⟨V0x0, V0x1, V0x2, V0x3, V0x4⟩ := V0_2.out.five
        obtain ⟨V1x0, V1x1⟩ := V1.out.two
        go_wp2_with fail
        refine (i_FarmPower _ _ _ _ fx0 fy0 fr0 fd0 fs0 _ _ _ _ a1 l1 u2 _ Xx0_3.out.fl HN0.out Xx1_1.out.fl HN1.out).mono ?_
        rintro e wd8 ⟨gr0, rfl, gh0, b⟩
        have B8 : Hid (Below w.heap.size w wd8) := Lib.hid (below_of B7.out B7.out.size b)
        have Z8 : Hid (wd7.heap.size ≤ wd8.heap.size) := Lib.hid b.size
        have K0_8 : Hid (BlkL wd8 (w.heap.size) [.slice X0 fx0.length cx0, .slice Y0 fy0.length cy0, .float .f32 fr0, .float .f32 fd0, .float .f32 fs0]) := Lib.hid (K0_7.out.below b)
        have K1_8 : Hid (BlkL wd8 (w.heap.size + 1) [.slice A1 a1.length ca1, .slice L1 l1.length cl1]) := Lib.hid (K1_7.out.below b)
        have Xx0_4 : Hid (OwnR2 wd8 wd3.heap.size (some ⟨x01, 0, none⟩) (some ⟨x02, 0, none⟩) x01 x02 fx0 fy0) := Lib.hid (Xx0_3.out.below b)
        have V0_3 : Hid (BlkL wd8 (wd4.heap.size) [.slice (some ⟨x01, 0, none⟩) fx0.length fx0.length, .slice (some ⟨x02, 0, none⟩) fy0.length fy0.length, .float .f32 fr0, .float .f32 fd0, .float .f32 fs0]) := Lib.hid (V0_2.out.below b)
        have Xx1_2 : Hid (OwnR2 wd8 wd5.heap.size (some ⟨x11, 0, none⟩) (some ⟨x12, 0, none⟩) x11 x12 a1 l1) := Lib.hid (Xx1_1.out.below b)
        have V1_1 : Hid (BlkL wd8 (wd6.heap.size) [.slice (some ⟨x11, 0, none⟩) a1.length a1.length, .slice (some ⟨x12, 0, none⟩) l1.length l1.length]) := Lib.hid (V1.out.below b)
        clear K0x0 K0x1 K0x2 K0x3 K0x4 K1x0 K1x1 V0x0 V0x1 V0x2 V0x3 V0x4 V1x0 V1x1
        clear K0_7 K1_7 Xx0_3 V0_2 Xx1_1 V1
        clear b
        have G0 := Lib.hid gh0
        clear gh0
        obtain ⟨K0x0, K0x1, K0x2, K0x3, K0x4⟩ := K0_8.out.five
        obtain ⟨K1x0, K1x1⟩ := K1_8.out.two
        obtain ⟨V0x0, V0x1, V0x2, V0x3, V0x4⟩ := V0_3.out.five
        obtain ⟨V1x0, V1x1⟩ := V1_1.out.two
        go_wp2_with fail
        refine (sameFloat_yes _ _ _ (by rw [canon_wideV, canon_wideV, C0.out, G0.out])).mono ?_
        rintro e wd9 ⟨nq, rfl, hw⟩
        have b : Below wd8.heap.size wd8 wd9 := by rw [hw]; repeat (first | exact Below.refl _ _ | refine below_draws ?_ _)
        clear hw
        have B9 : Hid (Below w.heap.size w wd9) := Lib.hid (below_of B8.out B8.out.size b)
        have Z9 : Hid (wd8.heap.size ≤ wd9.heap.size) := Lib.hid b.size
        have K0_9 : Hid (BlkL wd9 (w.heap.size) [.slice X0 fx0.length cx0, .slice Y0 fy0.length cy0, .float .f32 fr0, .float .f32 fd0, .float .f32 fs0]) := Lib.hid (K0_8.out.below b)
        have K1_9 : Hid (BlkL wd9 (w.heap.size + 1) [.slice A1 a1.length ca1, .slice L1 l1.length cl1]) := Lib.hid (K1_8.out.below b)
        have Xx0_5 : Hid (OwnR2 wd9 wd3.heap.size (some ⟨x01, 0, none⟩) (some ⟨x02, 0, none⟩) x01 x02 fx0 fy0) := Lib.hid (Xx0_4.out.below b)
        have V0_4 : Hid (BlkL wd9 (wd4.heap.size) [.slice (some ⟨x01, 0, none⟩) fx0.length fx0.length, .slice (some ⟨x02, 0, none⟩) fy0.length fy0.length, .float .f32 fr0, .float .f32 fd0, .float .f32 fs0]) := Lib.hid (V0_3.out.below b)
        have Xx1_3 : Hid (OwnR2 wd9 wd5.heap.size (some ⟨x11, 0, none⟩) (some ⟨x12, 0, none⟩) x11 x12 a1 l1) := Lib.hid (Xx1_2.out.below b)
        have V1_2 : Hid (BlkL wd9 (wd6.heap.size) [.slice (some ⟨x11, 0, none⟩) a1.length a1.length, .slice (some ⟨x12, 0, none⟩) l1.length l1.length]) := Lib.hid (V1_1.out.below b)
        clear K0x0 K0x1 K0x2 K0x3 K0x4 K1x0 K1x1 V0x0 V0x1 V0x2 V0x3 V0x4 V1x0 V1x1
        clear K0_8 K1_8 Xx0_4 V0_3 Xx1_2 V1_1
        clear b
        obtain ⟨K0x0, K0x1, K0x2, K0x3, K0x4⟩ := K0_9.out.five
        obtain ⟨K1x0, K1x1⟩ := K1_9.out.two
        obtain ⟨V0x0, V0x1, V0x2, V0x3, V0x4⟩ := V0_4.out.five
        obtain ⟨V1x0, V1x1⟩ := V1_2.out.two
        go_wp2_with fail
        clear K0x0 K0x1 K0x2 K0x3 K0x4 K1x0 K1x1 V0x0 V0x1 V0x2 V0x3 V0x4 V1x0 V1x1
        refine wp_region_inv4 (fun iq wv v => match iq with
          | 0 => v = .agg #[.slice (some ⟨x01, 0, none⟩) fx0.length fx0.length, .slice (some ⟨x02, 0, none⟩) fy0.length fy0.length, .float .f32 fr0, .float .f32 fd0, .float .f32 fs0]
          | 1 => v = .agg #[.slice X0 fx0.length cx0, .slice Y0 fy0.length cy0, .float .f32 fr0, .float .f32 fd0, .float .f32 fs0]
          | 2 => ∃ q1 q2, v = .agg #[.slice (some ⟨q1, 0, none⟩) fx0.length fx0.length, .slice (some ⟨q2, 0, none⟩) fy0.length fy0.length, .float .f32 fr0, .float .f32 fd0, .float .f32 fs0] ∧ OwnR2 wv wd9.heap.size (some ⟨q1, 0, none⟩) (some ⟨q2, 0, none⟩) q1 q2 fx0 fy0
          | 3 => v = .bool true
          | 4 => v = .bool false
          | _ => False) (fun _ ww => Below wd9.heap.size wd9 ww) (fun w w' => Below w.heap.size w w') ?hmono (by kernel_rfl) (by kernel_rfl) ((Below.refl _ _).drew) ?hop ?hend
        case hmono =>
          intro i wa wb v hR hV
          rcases i with _ | _ | _ | _ | _ | i
          · exact hV
          · exact hV
          · obtain ⟨q1, q2, rfl, ho⟩ := hV; exact ⟨q1, q2, rfl, ho.below hR⟩
          · exact hV
          · exact hV
          · exact hV
        case hop =>
          intro q o hq listed act w3 hI hnot hcl hall
          have hB := hI.cls
          obtain ⟨K0x0, K0x1, K0x2, K0x3, K0x4⟩ := (K0_9.out.below hB).five
          obtain ⟨K1x0, K1x1⟩ := (K1_9.out.below hB).two
          obtain ⟨V0x0, V0x1, V0x2, V0x3, V0x4⟩ := (V0_4.out.below hB).five
          obtain ⟨V1x0, V1x1⟩ := (V1_2.out.below hB).two
          rcases q with _ | _ | _ | _ | _ | q
          · simp at hq; subst hq
            have g10 : act.tmps[10]?.getD undef = .pointer (some ⟨wd4.heap.size, 0, none⟩) := hI.kept 10 (by kernel_rfl)
            clear hI hall hnot hcl
            refine .inl ⟨wanted_none rfl, ?_⟩
            unfold Oper.wp
            go_simp
            all_goals first | exact ⟨_, rfl, Below.refl _ _, rfl, hB⟩ | exact ⟨Below.refl _ _, hB⟩ | exact Below.refl _ _
          · simp at hq; subst hq
            have g3 : act.tmps[3]?.getD undef = .pointer (some ⟨w.heap.size, 0, none⟩) := hI.kept 3 (by kernel_rfl)
            clear hI hall hnot hcl
            refine .inl ⟨wanted_none rfl, ?_⟩
            unfold Oper.wp
            go_simp
            all_goals first | exact ⟨_, rfl, Below.refl _ _, rfl, hB⟩ | exact ⟨Below.refl _ _, hB⟩ | exact Below.refl _ _
          · simp at hq; subst hq
            have g56 : act.tmps[56]?.getD undef = .agg #[.slice X0 fx0.length cx0, .slice Y0 fy0.length cy0, .float .f32 fr0, .float .f32 fd0, .float .f32 fs0] := hI.has 1 56 rfl (hall ⟨1, .data⟩ (by simp) rfl)
            clear hI hall hnot hcl
            refine .inl ⟨wanted_none rfl, ?_⟩
            unfold Oper.wp
            go_simp
            refine (l_toFarm X0 Y0 cx0 cy0 fx0 fy0 fr0 fd0 fs0 _ (HP0.out.below (below_of B9.out B9.out.size hB)) HN0.out).mono ?_
            rintro e w4 ⟨q1, q2, rfl, ho, b4⟩
            exact ⟨_, rfl, b4, ⟨q1, q2, rfl, OwnR2.of ho.2.2.1 ho.2.2.2 (by have := ho.1; have := hB.size; omega) ho.2.1⟩, below_of hB hB.size b4⟩
          · simp at hq; subst hq
            have g55 : act.tmps[55]?.getD undef = .agg #[.slice (some ⟨x01, 0, none⟩) fx0.length fx0.length, .slice (some ⟨x02, 0, none⟩) fy0.length fy0.length, .float .f32 fr0, .float .f32 fd0, .float .f32 fs0] := hI.has 0 55 rfl (hall ⟨0, .data⟩ (by simp) rfl)
            obtain ⟨q12, q22, g57, h2a⟩ := hI.has 2 57 rfl (hall ⟨2, .data⟩ (by simp) rfl)
            clear hI hall hnot hcl
            refine .inl ⟨wanted_none rfl, ?_⟩
            unfold Oper.wp
            go_simp
            refine (l_eqFarm _ _ _ _ _ _ _ _ fx0 fy0 _ _ _ _ _ _ _ (Xx0_5.out.below hB).fl (OwnR2.fl h2a) HN0.out rfl rfl rfl).mono ?_
            rintro e w4 ⟨rfl, b4⟩
            exact ⟨_, rfl, b4, rfl, below_of hB hB.size b4⟩
          · simp at hq; subst hq
            have g58 : act.tmps[58]?.getD undef = .bool true := hI.has 3 58 rfl (hall ⟨3, .data⟩ (by simp) rfl)
            clear hI hall hnot hcl
            refine .inl ⟨wanted_none rfl, ?_⟩
            unfold Oper.wp
            go_simp
            all_goals first | exact ⟨_, rfl, Below.refl _ _, rfl, hB⟩ | exact ⟨Below.refl _ _, hB⟩ | exact Below.refl _ _
          · simp at hq
        case hend =>
          intro listed act w3 hI hall
          have hB := hI.cls
          obtain ⟨K0x0, K0x1, K0x2, K0x3, K0x4⟩ := (K0_9.out.below hB).five
          obtain ⟨K1x0, K1x1⟩ := (K1_9.out.below hB).two
          obtain ⟨V0x0, V0x1, V0x2, V0x3, V0x4⟩ := (V0_4.out.below hB).five
          obtain ⟨V1x0, V1x1⟩ := (V1_2.out.below hB).two
          have g59 : act.tmps[59]?.getD undef = .bool false := hI.has 4 59 rfl (hall 4 (by decide))
          have g0 := hI.kept 0 (by kernel_rfl)
          conv at g0 => rhs; whnf
          have g1 := hI.kept 1 (by kernel_rfl)
          conv at g1 => rhs; whnf
          have g2 := hI.kept 2 (by kernel_rfl)
          conv at g2 => rhs; whnf
          have g3 := hI.kept 3 (by kernel_rfl)
          conv at g3 => rhs; whnf
          have g4 := hI.kept 4 (by kernel_rfl)
          conv at g4 => rhs; whnf
          have g5 : act.tmps[5]?.getD undef = undef := hI.kept 5 (by kernel_rfl)
          have g6 := hI.kept 6 (by kernel_rfl)
          conv at g6 => rhs; whnf
          have g7 := hI.kept 7 (by kernel_rfl)
          conv at g7 => rhs; whnf
          have g8 := hI.kept 8 (by kernel_rfl)
          conv at g8 => rhs; whnf
          have g9 := hI.kept 9 (by kernel_rfl)
          conv at g9 => rhs; whnf
          have g10 := hI.kept 10 (by kernel_rfl)
          conv at g10 => rhs; whnf
          have g11 := hI.kept 11 (by kernel_rfl)
          conv at g11 => rhs; whnf
          have g12 := hI.kept 12 (by kernel_rfl)
          conv at g12 => rhs; whnf
          have g13 := hI.kept 13 (by kernel_rfl)
          conv at g13 => rhs; whnf
          have g14 := hI.kept 14 (by kernel_rfl)
          conv at g14 => rhs; whnf
          have g15 := hI.kept 15 (by kernel_rfl)
          conv at g15 => rhs; whnf
          have g16 := hI.kept 16 (by kernel_rfl)
          conv at g16 => rhs; whnf
          have g17 := hI.kept 17 (by kernel_rfl)
          conv at g17 => rhs; whnf
          have g18 := hI.kept 18 (by kernel_rfl)
          conv at g18 => rhs; whnf
          have g19 := hI.kept 19 (by kernel_rfl)
          conv at g19 => rhs; whnf
          have g20 := hI.kept 20 (by kernel_rfl)
          conv at g20 => rhs; whnf
          have g21 := hI.kept 21 (by kernel_rfl)
          conv at g21 => rhs; whnf
          have g22 := hI.kept 22 (by kernel_rfl)
          conv at g22 => rhs; whnf
          have g23 := hI.kept 23 (by kernel_rfl)
          conv at g23 => rhs; whnf
          have g24 := hI.kept 24 (by kernel_rfl)
          conv at g24 => rhs; whnf
          have g25 := hI.kept 25 (by kernel_rfl)
          conv at g25 => rhs; whnf
          have g26 := hI.kept 26 (by kernel_rfl)
          conv at g26 => rhs; whnf
          have g27 := hI.kept 27 (by kernel_rfl)
          conv at g27 => rhs; whnf
          have g28 := hI.kept 28 (by kernel_rfl)
          conv at g28 => rhs; whnf
          have g29 := hI.kept 29 (by kernel_rfl)
          conv at g29 => rhs; whnf
          have g30 := hI.kept 30 (by kernel_rfl)
          conv at g30 => rhs; whnf
          have g31 := hI.kept 31 (by kernel_rfl)
          conv at g31 => rhs; whnf
          have g32 := hI.kept 32 (by kernel_rfl)
          conv at g32 => rhs; whnf
          have g33 := hI.kept 33 (by kernel_rfl)
          conv at g33 => rhs; whnf
          have g34 := hI.kept 34 (by kernel_rfl)
          conv at g34 => rhs; whnf
          have g35 := hI.kept 35 (by kernel_rfl)
          conv at g35 => rhs; whnf
          have g36 := hI.kept 36 (by kernel_rfl)
          conv at g36 => rhs; whnf
          have g37 := hI.kept 37 (by kernel_rfl)
          conv at g37 => rhs; whnf
          have g38 := hI.kept 38 (by kernel_rfl)
          conv at g38 => rhs; whnf
          have g39 := hI.kept 39 (by kernel_rfl)
          conv at g39 => rhs; whnf
          have g40 := hI.kept 40 (by kernel_rfl)
          conv at g40 => rhs; whnf
          have g41 := hI.kept 41 (by kernel_rfl)
          conv at g41 => rhs; whnf
          have g42 := hI.kept 42 (by kernel_rfl)
          conv at g42 => rhs; whnf
          have g43 := hI.kept 43 (by kernel_rfl)
          conv at g43 => rhs; whnf
          have g44 := hI.kept 44 (by kernel_rfl)
          conv at g44 => rhs; whnf
          have g45 := hI.kept 45 (by kernel_rfl)
          conv at g45 => rhs; whnf
          have g46 := hI.kept 46 (by kernel_rfl)
          conv at g46 => rhs; whnf
          have g47 := hI.kept 47 (by kernel_rfl)
          conv at g47 => rhs; whnf
          have g48 := hI.kept 48 (by kernel_rfl)
          conv at g48 => rhs; whnf
          have g49 := hI.kept 49 (by kernel_rfl)
          conv at g49 => rhs; whnf
          have g50 := hI.kept 50 (by kernel_rfl)
          conv at g50 => rhs; whnf
          have g51 := hI.kept 51 (by kernel_rfl)
          conv at g51 => rhs; whnf
          have g52 := hI.kept 52 (by kernel_rfl)
          conv at g52 => rhs; whnf
          have g53 := hI.kept 53 (by kernel_rfl)
          conv at g53 => rhs; whnf
          have g54 := hI.kept 54 (by kernel_rfl)
          conv at g54 => rhs; whnf
          have g60 : act.tmps[60]?.getD undef = undef := hI.kept 60 (by kernel_rfl)
          have g61 : act.tmps[61]?.getD undef = undef := hI.kept 61 (by kernel_rfl)
          have g62 : act.tmps[62]?.getD undef = undef := hI.kept 62 (by kernel_rfl)
          have g63 : act.tmps[63]?.getD undef = undef := hI.kept 63 (by kernel_rfl)
          have g64 : act.tmps[64]?.getD undef = undef := hI.kept 64 (by kernel_rfl)
          have hsz : act.tmps.size = 65 := hI.size.trans (by kernel_rfl)
          have hd := hI.defers
          clear hI hall K0x0 K0x1 K0x2 K0x3 K0x4 K1x0 K1x1 V0x0 V0x1 V0x2 V0x3 V0x4 V1x0 V1x1
          obtain ⟨tt, dd⟩ := act
          simp only at g0 g1 g2 g3 g4 g5 g6 g7 g8 g9 g10 g11 g12 g13 g14 g15 g16 g17 g18 g19 g20 g21 g22 g23 g24 g25 g26 g27 g28 g29 g30 g31 g32 g33 g34 g35 g36 g37 g38 g39 g40 g41 g42 g43 g44 g45 g46 g47 g48 g49 g50 g51 g52 g53 g54 g59 g60 g61 g62 g63 g64 hsz hd
          subst hd
          have hl : tt = #[tt[0]?.getD undef, tt[1]?.getD undef, tt[2]?.getD undef, tt[3]?.getD undef, tt[4]?.getD undef, tt[5]?.getD undef, tt[6]?.getD undef, tt[7]?.getD undef, tt[8]?.getD undef, tt[9]?.getD undef, tt[10]?.getD undef, tt[11]?.getD undef, tt[12]?.getD undef, tt[13]?.getD undef, tt[14]?.getD undef, tt[15]?.getD undef, tt[16]?.getD undef, tt[17]?.getD undef, tt[18]?.getD undef, tt[19]?.getD undef, tt[20]?.getD undef, tt[21]?.getD undef, tt[22]?.getD undef, tt[23]?.getD undef, tt[24]?.getD undef, tt[25]?.getD undef, tt[26]?.getD undef, tt[27]?.getD undef, tt[28]?.getD undef, tt[29]?.getD undef, tt[30]?.getD undef, tt[31]?.getD undef, tt[32]?.getD undef, tt[33]?.getD undef, tt[34]?.getD undef, tt[35]?.getD undef, tt[36]?.getD undef, tt[37]?.getD undef, tt[38]?.getD undef, tt[39]?.getD undef, tt[40]?.getD undef, tt[41]?.getD undef, tt[42]?.getD undef, tt[43]?.getD undef, tt[44]?.getD undef, tt[45]?.getD undef, tt[46]?.getD undef, tt[47]?.getD undef, tt[48]?.getD undef, tt[49]?.getD undef, tt[50]?.getD undef, tt[51]?.getD undef, tt[52]?.getD undef, tt[53]?.getD undef, tt[54]?.getD undef, tt[55]?.getD undef, tt[56]?.getD undef, tt[57]?.getD undef, tt[58]?.getD undef, tt[59]?.getD undef, tt[60]?.getD undef, tt[61]?.getD undef, tt[62]?.getD undef, tt[63]?.getD undef, tt[64]?.getD undef] := (arr_lit hsz).trans rfl
          rw [g0, g1, g2, g3, g4, g5, g6, g7, g8, g9, g10, g11, g12, g13, g14, g15, g16, g17, g18, g19, g20, g21, g22, g23, g24, g25, g26, g27, g28, g29, g30, g31, g32, g33, g34, g35, g36, g37, g38, g39, g40, g41, g42, g43, g44, g45, g46, g47, g48, g49, g50, g51, g52, g53, g54, g59, g60, g61, g62, g63, g64] at hl
          clear g0 g1 g2 g3 g4 g5 g6 g7 g8 g9 g10 g11 g12 g13 g14 g15 g16 g17 g18 g19 g20 g21 g22 g23 g24 g25 g26 g27 g28 g29 g30 g31 g32 g33 g34 g35 g36 g37 g38 g39 g40 g41 g42 g43 g44 g45 g46 g47 g48 g49 g50 g51 g52 g53 g54 g59 g60 g61 g62 g63 g64 hsz
          generalize tt[55]?.getD undef = y55 at hl
          generalize tt[56]?.getD undef = y56 at hl
          generalize tt[57]?.getD undef = y57 at hl
          generalize tt[58]?.getD undef = y58 at hl
          subst hl
          obtain ⟨wd10, hww⟩ : ∃ x, x = w3 := ⟨_, rfl⟩
          rw [← hww] at hB ⊢
          clear hww
          have B10 : Hid (Below w.heap.size w wd10) := Lib.hid (below_of B9.out B9.out.size hB)
          have Z10 : Hid (wd9.heap.size ≤ wd10.heap.size) := Lib.hid hB.size
          have K0_10 : Hid (BlkL wd10 (w.heap.size) [.slice X0 fx0.length cx0, .slice Y0 fy0.length cy0, .float .f32 fr0, .float .f32 fd0, .float .f32 fs0]) := Lib.hid (K0_9.out.below hB)
          have K1_10 : Hid (BlkL wd10 (w.heap.size + 1) [.slice A1 a1.length ca1, .slice L1 l1.length cl1]) := Lib.hid (K1_9.out.below hB)
          have Xx0_6 : Hid (OwnR2 wd10 wd3.heap.size (some ⟨x01, 0, none⟩) (some ⟨x02, 0, none⟩) x01 x02 fx0 fy0) := Lib.hid (Xx0_5.out.below hB)
          have V0_5 : Hid (BlkL wd10 (wd4.heap.size) [.slice (some ⟨x01, 0, none⟩) fx0.length fx0.length, .slice (some ⟨x02, 0, none⟩) fy0.length fy0.length, .float .f32 fr0, .float .f32 fd0, .float .f32 fs0]) := Lib.hid (V0_4.out.below hB)
          have Xx1_4 : Hid (OwnR2 wd10 wd5.heap.size (some ⟨x11, 0, none⟩) (some ⟨x12, 0, none⟩) x11 x12 a1 l1) := Lib.hid (Xx1_3.out.below hB)
          have V1_3 : Hid (BlkL wd10 (wd6.heap.size) [.slice (some ⟨x11, 0, none⟩) a1.length a1.length, .slice (some ⟨x12, 0, none⟩) l1.length l1.length]) := Lib.hid (V1_2.out.below hB)
          clear K0_9 K1_9 Xx0_5 V0_4 Xx1_3 V1_2
          clear hB
          obtain ⟨K0x0, K0x1, K0x2, K0x3, K0x4⟩ := K0_10.out.five
          obtain ⟨K1x0, K1x1⟩ := K1_10.out.two
          obtain ⟨V0x0, V0x1, V0x2, V0x3, V0x4⟩ := V0_5.out.five
          obtain ⟨V1x0, V1x1⟩ := V1_3.out.two
          go_wp2_with fail
          clear K0x0 K0x1 K0x2 K0x3 K0x4 K1x0 K1x1 V0x0 V0x1 V0x2 V0x3 V0x4 V1x0 V1x1
          refine wp_region_inv4 (fun iq wv v => match iq with
            | 0 => v = .agg #[.slice (some ⟨x11, 0, none⟩) a1.length a1.length, .slice (some ⟨x12, 0, none⟩) l1.length l1.length]
            | 1 => v = .agg #[.slice A1 a1.length ca1, .slice L1 l1.length cl1]
            | 2 => ∃ q1 q2, v = .agg #[.slice (some ⟨q1, 0, none⟩) a1.length a1.length, .slice (some ⟨q2, 0, none⟩) l1.length l1.length] ∧ OwnR2 wv wd10.heap.size (some ⟨q1, 0, none⟩) (some ⟨q2, 0, none⟩) q1 q2 a1 l1
            | 3 => v = .bool true
            | 4 => v = .bool false
            | _ => False) (fun _ ww => Below wd10.heap.size wd10 ww) (fun w w' => Below w.heap.size w w') ?hmono (by kernel_rfl) (by kernel_rfl) ((Below.refl _ _).drew) ?hop ?hend
          case hmono =>
            intro i wa wb v hR hV
            rcases i with _ | _ | _ | _ | _ | i
            · exact hV
            · exact hV
            · obtain ⟨q1, q2, rfl, ho⟩ := hV; exact ⟨q1, q2, rfl, ho.below hR⟩
            · exact hV
            · exact hV
            · exact hV
          case hop =>
            intro q o hq listed act w3 hI hnot hcl hall
            have hB := hI.cls
            obtain ⟨K0x0, K0x1, K0x2, K0x3, K0x4⟩ := (K0_10.out.below hB).five
            obtain ⟨K1x0, K1x1⟩ := (K1_10.out.below hB).two
            obtain ⟨V0x0, V0x1, V0x2, V0x3, V0x4⟩ := (V0_5.out.below hB).five
            obtain ⟨V1x0, V1x1⟩ := (V1_3.out.below hB).two
            rcases q with _ | _ | _ | _ | _ | q
            · simp at hq; subst hq
              have g11 : act.tmps[11]?.getD undef = .pointer (some ⟨wd6.heap.size, 0, none⟩) := hI.kept 11 (by kernel_rfl)
              clear hI hall hnot hcl
              refine .inl ⟨wanted_none rfl, ?_⟩
              unfold Oper.wp
              go_simp
              all_goals first | exact ⟨_, rfl, Below.refl _ _, rfl, hB⟩ | exact ⟨Below.refl _ _, hB⟩ | exact Below.refl _ _
            · simp at hq; subst hq
              have g4 : act.tmps[4]?.getD undef = .pointer (some ⟨(w.heap.size + 1), 0, none⟩) := hI.kept 4 (by kernel_rfl)
              clear hI hall hnot hcl
              refine .inl ⟨wanted_none rfl, ?_⟩
              unfold Oper.wp
              go_simp
              all_goals first | exact ⟨_, rfl, Below.refl _ _, rfl, hB⟩ | exact ⟨Below.refl _ _, hB⟩ | exact Below.refl _ _
            · simp at hq; subst hq
              have g61 : act.tmps[61]?.getD undef = .agg #[.slice A1 a1.length ca1, .slice L1 l1.length cl1] := hI.has 1 61 rfl (hall ⟨1, .data⟩ (by simp) rfl)
              clear hI hall hnot hcl
              refine .inl ⟨wanted_none rfl, ?_⟩
              unfold Oper.wp
              go_simp
              refine (l_toRose A1 L1 ca1 cl1 a1 l1 _ (HP1.out.below (below_of B10.out B10.out.size hB)) HN1.out).mono ?_
              rintro e w4 ⟨q1, q2, rfl, ho, b4⟩
              exact ⟨_, rfl, b4, ⟨q1, q2, rfl, OwnR2.of ho.2.2.1 ho.2.2.2 (by have := ho.1; have := hB.size; omega) ho.2.1⟩, below_of hB hB.size b4⟩
            · simp at hq; subst hq
              have g60 : act.tmps[60]?.getD undef = .agg #[.slice (some ⟨x11, 0, none⟩) a1.length a1.length, .slice (some ⟨x12, 0, none⟩) l1.length l1.length] := hI.has 0 60 rfl (hall ⟨0, .data⟩ (by simp) rfl)
              obtain ⟨q12, q22, g62, h2a⟩ := hI.has 2 62 rfl (hall ⟨2, .data⟩ (by simp) rfl)
              clear hI hall hnot hcl
              refine .inl ⟨wanted_none rfl, ?_⟩
              unfold Oper.wp
              go_simp
              refine (l_eqRose _ _ _ _ _ _ _ _ a1 l1 _ (Xx1_4.out.below hB).fl (OwnR2.fl h2a) HN1.out).mono ?_
              rintro e w4 ⟨rfl, b4⟩
              exact ⟨_, rfl, b4, rfl, below_of hB hB.size b4⟩
            · simp at hq; subst hq
              have g63 : act.tmps[63]?.getD undef = .bool true := hI.has 3 63 rfl (hall ⟨3, .data⟩ (by simp) rfl)
              clear hI hall hnot hcl
              refine .inl ⟨wanted_none rfl, ?_⟩
              unfold Oper.wp
              go_simp
              all_goals first | exact ⟨_, rfl, Below.refl _ _, rfl, hB⟩ | exact ⟨Below.refl _ _, hB⟩ | exact Below.refl _ _
            · simp at hq
          case hend =>
            intro listed act w3 hI hall
            have hB := hI.cls
            obtain ⟨K0x0, K0x1, K0x2, K0x3, K0x4⟩ := (K0_10.out.below hB).five
            obtain ⟨K1x0, K1x1⟩ := (K1_10.out.below hB).two
            obtain ⟨V0x0, V0x1, V0x2, V0x3, V0x4⟩ := (V0_5.out.below hB).five
            obtain ⟨V1x0, V1x1⟩ := (V1_3.out.below hB).two
            have g64 : act.tmps[64]?.getD undef = .bool false := hI.has 4 64 rfl (hall 4 (by decide))
            have g0 := hI.kept 0 (by kernel_rfl)
            conv at g0 => rhs; whnf
            have g1 := hI.kept 1 (by kernel_rfl)
            conv at g1 => rhs; whnf
            have g2 := hI.kept 2 (by kernel_rfl)
            conv at g2 => rhs; whnf
            have g3 := hI.kept 3 (by kernel_rfl)
            conv at g3 => rhs; whnf
            have g4 := hI.kept 4 (by kernel_rfl)
            conv at g4 => rhs; whnf
            have g5 : act.tmps[5]?.getD undef = undef := hI.kept 5 (by kernel_rfl)
            have g6 := hI.kept 6 (by kernel_rfl)
            conv at g6 => rhs; whnf
            have g7 := hI.kept 7 (by kernel_rfl)
            conv at g7 => rhs; whnf
            have g8 := hI.kept 8 (by kernel_rfl)
            conv at g8 => rhs; whnf
            have g9 := hI.kept 9 (by kernel_rfl)
            conv at g9 => rhs; whnf
            have g10 := hI.kept 10 (by kernel_rfl)
            conv at g10 => rhs; whnf
            have g11 := hI.kept 11 (by kernel_rfl)
            conv at g11 => rhs; whnf
            have g12 := hI.kept 12 (by kernel_rfl)
            conv at g12 => rhs; whnf
            have g13 := hI.kept 13 (by kernel_rfl)
            conv at g13 => rhs; whnf
            have g14 := hI.kept 14 (by kernel_rfl)
            conv at g14 => rhs; whnf
            have g15 := hI.kept 15 (by kernel_rfl)
            conv at g15 => rhs; whnf
            have g16 := hI.kept 16 (by kernel_rfl)
            conv at g16 => rhs; whnf
            have g17 := hI.kept 17 (by kernel_rfl)
            conv at g17 => rhs; whnf
            have g18 := hI.kept 18 (by kernel_rfl)
            conv at g18 => rhs; whnf
            have g19 := hI.kept 19 (by kernel_rfl)
            conv at g19 => rhs; whnf
            have g20 := hI.kept 20 (by kernel_rfl)
            conv at g20 => rhs; whnf
            have g21 := hI.kept 21 (by kernel_rfl)
            conv at g21 => rhs; whnf
            have g22 := hI.kept 22 (by kernel_rfl)
            conv at g22 => rhs; whnf
            have g23 := hI.kept 23 (by kernel_rfl)
            conv at g23 => rhs; whnf
            have g24 := hI.kept 24 (by kernel_rfl)
            conv at g24 => rhs; whnf
            have g25 := hI.kept 25 (by kernel_rfl)
            conv at g25 => rhs; whnf
            have g26 := hI.kept 26 (by kernel_rfl)
            conv at g26 => rhs; whnf
            have g27 := hI.kept 27 (by kernel_rfl)
            conv at g27 => rhs; whnf
            have g28 := hI.kept 28 (by kernel_rfl)
            conv at g28 => rhs; whnf
            have g29 := hI.kept 29 (by kernel_rfl)
            conv at g29 => rhs; whnf
            have g30 := hI.kept 30 (by kernel_rfl)
            conv at g30 => rhs; whnf
            have g31 := hI.kept 31 (by kernel_rfl)
            conv at g31 => rhs; whnf
            have g32 := hI.kept 32 (by kernel_rfl)
            conv at g32 => rhs; whnf
            have g33 := hI.kept 33 (by kernel_rfl)
            conv at g33 => rhs; whnf
            have g34 := hI.kept 34 (by kernel_rfl)
            conv at g34 => rhs; whnf
            have g35 := hI.kept 35 (by kernel_rfl)
            conv at g35 => rhs; whnf
            have g36 := hI.kept 36 (by kernel_rfl)
            conv at g36 => rhs; whnf
            have g37 := hI.kept 37 (by kernel_rfl)
            conv at g37 => rhs; whnf
            have g38 := hI.kept 38 (by kernel_rfl)
            conv at g38 => rhs; whnf
            have g39 := hI.kept 39 (by kernel_rfl)
            conv at g39 => rhs; whnf
            have g40 := hI.kept 40 (by kernel_rfl)
            conv at g40 => rhs; whnf
            have g41 := hI.kept 41 (by kernel_rfl)
            conv at g41 => rhs; whnf
            have g42 := hI.kept 42 (by kernel_rfl)
            conv at g42 => rhs; whnf
            have g43 := hI.kept 43 (by kernel_rfl)
            conv at g43 => rhs; whnf
            have g44 := hI.kept 44 (by kernel_rfl)
            conv at g44 => rhs; whnf
            have g45 := hI.kept 45 (by kernel_rfl)
            conv at g45 => rhs; whnf
            have g46 := hI.kept 46 (by kernel_rfl)
            conv at g46 => rhs; whnf
            have g47 := hI.kept 47 (by kernel_rfl)
            conv at g47 => rhs; whnf
            have g48 := hI.kept 48 (by kernel_rfl)
            conv at g48 => rhs; whnf
            have g49 := hI.kept 49 (by kernel_rfl)
            conv at g49 => rhs; whnf
            have g50 := hI.kept 50 (by kernel_rfl)
            conv at g50 => rhs; whnf
            have g51 := hI.kept 51 (by kernel_rfl)
            conv at g51 => rhs; whnf
            have g52 := hI.kept 52 (by kernel_rfl)
            conv at g52 => rhs; whnf
            have g53 := hI.kept 53 (by kernel_rfl)
            conv at g53 => rhs; whnf
            have g54 := hI.kept 54 (by kernel_rfl)
            conv at g54 => rhs; whnf
            have g55 := hI.kept 55 (by kernel_rfl)
            conv at g55 => rhs; whnf
            have g56 := hI.kept 56 (by kernel_rfl)
            conv at g56 => rhs; whnf
            have g57 := hI.kept 57 (by kernel_rfl)
            conv at g57 => rhs; whnf
            have g58 := hI.kept 58 (by kernel_rfl)
            conv at g58 => rhs; whnf
            have g59 := hI.kept 59 (by kernel_rfl)
            conv at g59 => rhs; whnf
            have hsz : act.tmps.size = 65 := hI.size.trans (by kernel_rfl)
            have hd := hI.defers
            clear hI hall K0x0 K0x1 K0x2 K0x3 K0x4 K1x0 K1x1 V0x0 V0x1 V0x2 V0x3 V0x4 V1x0 V1x1
            obtain ⟨tt, dd⟩ := act
            simp only at g0 g1 g2 g3 g4 g5 g6 g7 g8 g9 g10 g11 g12 g13 g14 g15 g16 g17 g18 g19 g20 g21 g22 g23 g24 g25 g26 g27 g28 g29 g30 g31 g32 g33 g34 g35 g36 g37 g38 g39 g40 g41 g42 g43 g44 g45 g46 g47 g48 g49 g50 g51 g52 g53 g54 g55 g56 g57 g58 g59 g64 hsz hd
            subst hd
            have hl : tt = #[tt[0]?.getD undef, tt[1]?.getD undef, tt[2]?.getD undef, tt[3]?.getD undef, tt[4]?.getD undef, tt[5]?.getD undef, tt[6]?.getD undef, tt[7]?.getD undef, tt[8]?.getD undef, tt[9]?.getD undef, tt[10]?.getD undef, tt[11]?.getD undef, tt[12]?.getD undef, tt[13]?.getD undef, tt[14]?.getD undef, tt[15]?.getD undef, tt[16]?.getD undef, tt[17]?.getD undef, tt[18]?.getD undef, tt[19]?.getD undef, tt[20]?.getD undef, tt[21]?.getD undef, tt[22]?.getD undef, tt[23]?.getD undef, tt[24]?.getD undef, tt[25]?.getD undef, tt[26]?.getD undef, tt[27]?.getD undef, tt[28]?.getD undef, tt[29]?.getD undef, tt[30]?.getD undef, tt[31]?.getD undef, tt[32]?.getD undef, tt[33]?.getD undef, tt[34]?.getD undef, tt[35]?.getD undef, tt[36]?.getD undef, tt[37]?.getD undef, tt[38]?.getD undef, tt[39]?.getD undef, tt[40]?.getD undef, tt[41]?.getD undef, tt[42]?.getD undef, tt[43]?.getD undef, tt[44]?.getD undef, tt[45]?.getD undef, tt[46]?.getD undef, tt[47]?.getD undef, tt[48]?.getD undef, tt[49]?.getD undef, tt[50]?.getD undef, tt[51]?.getD undef, tt[52]?.getD undef, tt[53]?.getD undef, tt[54]?.getD undef, tt[55]?.getD undef, tt[56]?.getD undef, tt[57]?.getD undef, tt[58]?.getD undef, tt[59]?.getD undef, tt[60]?.getD undef, tt[61]?.getD undef, tt[62]?.getD undef, tt[63]?.getD undef, tt[64]?.getD undef] := (arr_lit hsz).trans rfl
            rw [g0, g1, g2, g3, g4, g5, g6, g7, g8, g9, g10, g11, g12, g13, g14, g15, g16, g17, g18, g19, g20, g21, g22, g23, g24, g25, g26, g27, g28, g29, g30, g31, g32, g33, g34, g35, g36, g37, g38, g39, g40, g41, g42, g43, g44, g45, g46, g47, g48, g49, g50, g51, g52, g53, g54, g55, g56, g57, g58, g59, g64] at hl
            clear g0 g1 g2 g3 g4 g5 g6 g7 g8 g9 g10 g11 g12 g13 g14 g15 g16 g17 g18 g19 g20 g21 g22 g23 g24 g25 g26 g27 g28 g29 g30 g31 g32 g33 g34 g35 g36 g37 g38 g39 g40 g41 g42 g43 g44 g45 g46 g47 g48 g49 g50 g51 g52 g53 g54 g55 g56 g57 g58 g59 g64 hsz
            generalize tt[60]?.getD undef = y60 at hl
            generalize tt[61]?.getD undef = y61 at hl
            generalize tt[62]?.getD undef = y62 at hl
            generalize tt[63]?.getD undef = y63 at hl
            subst hl
            obtain ⟨wd11, hww⟩ : ∃ x, x = w3 := ⟨_, rfl⟩
            rw [← hww] at hB ⊢
            clear hww
            have B11 : Hid (Below w.heap.size w wd11) := Lib.hid (below_of B10.out B10.out.size hB)
            have Z11 : Hid (wd10.heap.size ≤ wd11.heap.size) := Lib.hid hB.size
            have K0_11 : Hid (BlkL wd11 (w.heap.size) [.slice X0 fx0.length cx0, .slice Y0 fy0.length cy0, .float .f32 fr0, .float .f32 fd0, .float .f32 fs0]) := Lib.hid (K0_10.out.below hB)
            have K1_11 : Hid (BlkL wd11 (w.heap.size + 1) [.slice A1 a1.length ca1, .slice L1 l1.length cl1]) := Lib.hid (K1_10.out.below hB)
            have Xx0_7 : Hid (OwnR2 wd11 wd3.heap.size (some ⟨x01, 0, none⟩) (some ⟨x02, 0, none⟩) x01 x02 fx0 fy0) := Lib.hid (Xx0_6.out.below hB)
            have V0_6 : Hid (BlkL wd11 (wd4.heap.size) [.slice (some ⟨x01, 0, none⟩) fx0.length fx0.length, .slice (some ⟨x02, 0, none⟩) fy0.length fy0.length, .float .f32 fr0, .float .f32 fd0, .float .f32 fs0]) := Lib.hid (V0_5.out.below hB)
            have Xx1_5 : Hid (OwnR2 wd11 wd5.heap.size (some ⟨x11, 0, none⟩) (some ⟨x12, 0, none⟩) x11 x12 a1 l1) := Lib.hid (Xx1_4.out.below hB)
            have V1_4 : Hid (BlkL wd11 (wd6.heap.size) [.slice (some ⟨x11, 0, none⟩) a1.length a1.length, .slice (some ⟨x12, 0, none⟩) l1.length l1.length]) := Lib.hid (V1_3.out.below hB)
            clear K0_10 K1_10 Xx0_6 V0_5 Xx1_4 V1_3
            clear hB
            obtain ⟨K0x0, K0x1, K0x2, K0x3, K0x4⟩ := K0_11.out.five
            obtain ⟨K1x0, K1x1⟩ := K1_11.out.two
            obtain ⟨V0x0, V0x1, V0x2, V0x3, V0x4⟩ := V0_6.out.five
            obtain ⟨V1x0, V1x1⟩ := V1_4.out.two
            go_wp2
            go_ret
            exact ⟨rfl, B11.out⟩
    · skip
      have HN0 : Hid (FewS fx0 fy0) := Lib.hid (by unfold FewS; omega)
      obtain ⟨w0, hw0⟩ : ∃ x, x = ((w.alloc (.cells #[.slice X0 fx0.length cx0, .slice Y0 fy0.length cy0, .float .f32 fr0, .float .f32 fd0, .float .f32 fs0] 47)).alloc (.cells #[.slice A1 a1.length ca1, .slice L1 l1.length cl1] 56)) := ⟨_, rfl⟩
      have B0 : Hid (Below w.heap.size w w0) := Lib.hid (by rw [hw0]; exact ((Below.refl _ _).alloc (Nat.le_refl _) _).alloc (by simp <;> omega) _)
      have Z0 : Hid (w0.heap.size = w.heap.size + 2) := Lib.hid (by rw [hw0]; simp)
      have K0 : Hid (BlkL w0 (w.heap.size) [.slice X0 fx0.length cx0, .slice Y0 fy0.length cy0, .float .f32 fr0, .float .f32 fd0, .float .f32 fs0]) := Lib.hid (by rw [hw0]; exact (blkL_at w #[.slice X0 fx0.length cx0, .slice Y0 fy0.length cy0, .float .f32 fr0, .float .f32 fd0, .float .f32 fs0] 47 rfl).alloc _)
      have K1 : Hid (BlkL w0 (w.heap.size + 1) [.slice A1 a1.length ca1, .slice L1 l1.length cl1]) := Lib.hid (by rw [hw0]; exact blkL_at (w.alloc (.cells #[.slice X0 fx0.length cx0, .slice Y0 fy0.length cy0, .float .f32 fr0, .float .f32 fd0, .float .f32 fs0] 47)) #[.slice A1 a1.length ca1, .slice L1 l1.length cl1] 56 (by simp))
      go_enter Try.func8, Try.ntmps8
      go_wp2_with fail
      rw [← hw0]
      clear hw0
      have hq0 : (0 : Int) ≤ 1048576 - (fx0.length : Int) - (fy0.length : Int) := by omega
      obtain ⟨K0x0, K0x1, K0x2, K0x3, K0x4⟩ := K0.out.five
      obtain ⟨K1x0, K1x1⟩ := K1.out.two
      go_wp2_with fail
      refine (l_szFarm_yes X0 Y0 _ cx0 _ cy0 fr0 fd0 fs0 _ _ (by omega) (by omega)).mono ?_
      rintro e wd1 ⟨rfl, b⟩
      have B1 : Hid (Below w.heap.size w wd1) := Lib.hid (below_of B0.out B0.out.size b)
      have Z1 : Hid (w0.heap.size ≤ wd1.heap.size) := Lib.hid b.size
      have K0_1 : Hid (BlkL wd1 (w.heap.size) [.slice X0 fx0.length cx0, .slice Y0 fy0.length cy0, .float .f32 fr0, .float .f32 fd0, .float .f32 fs0]) := Lib.hid (K0.out.below b)
      have K1_1 : Hid (BlkL wd1 (w.heap.size + 1) [.slice A1 a1.length ca1, .slice L1 l1.length cl1]) := Lib.hid (K1.out.below b)
      clear K0x0 K0x1 K0x2 K0x3 K0x4 K1x0 K1x1
      clear K0 K1
      clear b
      obtain ⟨K0x0, K0x1, K0x2, K0x3, K0x4⟩ := K0_1.out.five
      obtain ⟨K1x0, K1x1⟩ := K1_1.out.two
      go_wp2_with fail
      refine (l_szRose_no A1 L1 _ ca1 _ cl1 _ _ (by omega) (by omega) (by omega) ma1 ml1).mono ?_
      rintro e wd2 ⟨rfl, b⟩
      have B2 : Hid (Below w.heap.size w wd2) := Lib.hid (below_of B1.out B1.out.size b)
      have Z2 : Hid (wd1.heap.size ≤ wd2.heap.size) := Lib.hid b.size
      have K0_2 : Hid (BlkL wd2 (w.heap.size) [.slice X0 fx0.length cx0, .slice Y0 fy0.length cy0, .float .f32 fr0, .float .f32 fd0, .float .f32 fs0]) := Lib.hid (K0_1.out.below b)
      have K1_2 : Hid (BlkL wd2 (w.heap.size + 1) [.slice A1 a1.length ca1, .slice L1 l1.length cl1]) := Lib.hid (K1_1.out.below b)
      clear K0x0 K0x1 K0x2 K0x3 K0x4 K1x0 K1x1
      clear K0_1 K1_1
      clear b
      obtain ⟨K0x0, K0x1, K0x2, K0x3, K0x4⟩ := K0_2.out.five
      obtain ⟨K1x0, K1x1⟩ := K1_2.out.two
      go_wp2
      go_ret
      exact ⟨rfl, B2.out⟩
  · skip
    obtain ⟨w0, hw0⟩ : ∃ x, x = ((w.alloc (.cells #[.slice X0 fx0.length cx0, .slice Y0 fy0.length cy0, .float .f32 fr0, .float .f32 fd0, .float .f32 fs0] 47)).alloc (.cells #[.slice A1 a1.length ca1, .slice L1 l1.length cl1] 56)) := ⟨_, rfl⟩
    have B0 : Hid (Below w.heap.size w w0) := Lib.hid (by rw [hw0]; exact ((Below.refl _ _).alloc (Nat.le_refl _) _).alloc (by simp <;> omega) _)
    have Z0 : Hid (w0.heap.size = w.heap.size + 2) := Lib.hid (by rw [hw0]; simp)
    have K0 : Hid (BlkL w0 (w.heap.size) [.slice X0 fx0.length cx0, .slice Y0 fy0.length cy0, .float .f32 fr0, .float .f32 fd0, .float .f32 fs0]) := Lib.hid (by rw [hw0]; exact (blkL_at w #[.slice X0 fx0.length cx0, .slice Y0 fy0.length cy0, .float .f32 fr0, .float .f32 fd0, .float .f32 fs0] 47 rfl).alloc _)
    have K1 : Hid (BlkL w0 (w.heap.size + 1) [.slice A1 a1.length ca1, .slice L1 l1.length cl1]) := Lib.hid (by rw [hw0]; exact blkL_at (w.alloc (.cells #[.slice X0 fx0.length cx0, .slice Y0 fy0.length cy0, .float .f32 fr0, .float .f32 fd0, .float .f32 fs0] 47)) #[.slice A1 a1.length ca1, .slice L1 l1.length cl1] 56 (by simp))
    go_enter Try.func8, Try.ntmps8
    go_wp2_with fail
    rw [← hw0]
    clear hw0
    obtain ⟨K0x0, K0x1, K0x2, K0x3, K0x4⟩ := K0.out.five
    obtain ⟨K1x0, K1x1⟩ := K1.out.two
    go_wp2_with fail
    refine (l_szFarm_no X0 Y0 _ cx0 _ cy0 fr0 fd0 fs0 _ _ (by omega) (by omega) (by omega) ma0 ml0).mono ?_
    rintro e wd1 ⟨rfl, b⟩
    have B1 : Hid (Below w.heap.size w wd1) := Lib.hid (below_of B0.out B0.out.size b)
    have Z1 : Hid (w0.heap.size ≤ wd1.heap.size) := Lib.hid b.size
    have K0_1 : Hid (BlkL wd1 (w.heap.size) [.slice X0 fx0.length cx0, .slice Y0 fy0.length cy0, .float .f32 fr0, .float .f32 fd0, .float .f32 fs0]) := Lib.hid (K0.out.below b)
    have K1_1 : Hid (BlkL wd1 (w.heap.size + 1) [.slice A1 a1.length ca1, .slice L1 l1.length cl1]) := Lib.hid (K1.out.below b)
    clear K0x0 K0x1 K0x2 K0x3 K0x4 K1x0 K1x1
    clear K0 K1
    clear b
    obtain ⟨K0x0, K0x1, K0x2, K0x3, K0x4⟩ := K0_1.out.five
    obtain ⟨K1x0, K1x1⟩ := K1_1.out.two
    go_wp2
    go_ret
    exact ⟨rfl, B1.out⟩
end Go.Proofs.Ytmadlabnhjhfiaa
