/- The law FnExactSamePlant. No statement is proved here. -/
import Derived.Test.YtmcfnkfcklcpnaaDrvE
import Derived.Test.YtmcfnkfcklcpnaaOpenD
namespace Go.Proofs.Ytmcfnkfcklcpnaa
open Go Go.RowKit
set_option maxHeartbeats 8000000 in
set_option maxRecDepth 100000 in
theorem law_FnExactSamePlant (p0x0 p1x0 p2x0 p3x0 p4x0 p5x0 p6x0 p7x0 : Nat) (p0x1 p1x1 p2x1 p3x1 p4x1 p5x1 p6x1 p7x1 : Nat) (w : World) (_hp0x0 : p0x0 < words .f32) (_hp1x0 : p1x0 < words .f32) (_hp2x0 : p2x0 < words .f32) (_hp3x0 : p3x0 < words .f32) (_hp4x0 : p4x0 < words .f32) (_hp5x0 : p5x0 < words .f32) (_hp6x0 : p6x0 < words .f32) (_hp7x0 : p7x0 < words .f32) (_hp0x1 : p0x1 < words .f32) (_hp1x1 : p1x1 < words .f32) (_hp2x1 : p2x1 < words .f32) (_hp3x1 : p3x1 < words .f32) (_hp4x1 : p4x1 < words .f32) (_hp5x1 : p5x1 < words .f32) (_hp6x1 : p6x1 < words .f32) (_hp7x1 : p7x1 < words .f32) :
    Calls Try.prog 4 #[.agg #[.float .f32 p0x0, .float .f32 p1x0, .float .f32 p2x0, .float .f32 p3x0, .float .f32 p4x0, .float .f32 p5x0, .float .f32 p6x0, .float .f32 p7x0], .agg #[.float .f32 p0x1, .float .f32 p1x1, .float .f32 p2x1, .float .f32 p3x1, .float .f32 p4x1, .float .f32 p5x1, .float .f32 p6x1, .float .f32 p7x1]] w fun e w' => e = .returned (.bool true) ∧ Below w.heap.size w w' := by
  have X0 : Hid (W8 p0x0 p1x0 p2x0 p3x0 p4x0 p5x0 p6x0 p7x0) := Lib.hid ⟨canon_lt _hp0x0, canon_lt _hp1x0, canon_lt _hp2x0, canon_lt _hp3x0, canon_lt _hp4x0, canon_lt _hp5x0, canon_lt _hp6x0, canon_lt _hp7x0⟩
  have X1 : Hid (W8 p0x1 p1x1 p2x1 p3x1 p4x1 p5x1 p6x1 p7x1) := Lib.hid ⟨canon_lt _hp0x1, canon_lt _hp1x1, canon_lt _hp2x1, canon_lt _hp3x1, canon_lt _hp4x1, canon_lt _hp5x1, canon_lt _hp6x1, canon_lt _hp7x1⟩
  clear _hp0x0 _hp1x0 _hp2x0 _hp3x0 _hp4x0 _hp5x0 _hp6x0 _hp7x0 _hp0x1 _hp1x1 _hp2x1 _hp3x1 _hp4x1 _hp5x1 _hp6x1 _hp7x1
  obtain ⟨w1, hw1⟩ : ∃ w1, w1 = (w.alloc (.cells #[.float .f32 p0x0, .float .f32 p1x0, .float .f32 p2x0, .float .f32 p3x0, .float .f32 p4x0, .float .f32 p5x0, .float .f32 p6x0, .float .f32 p7x0] 24)).alloc (.cells #[.float .f32 p0x1, .float .f32 p1x1, .float .f32 p2x1, .float .f32 p3x1, .float .f32 p4x1, .float .f32 p5x1, .float .f32 p6x1, .float .f32 p7x1] 24) := ⟨_, rfl⟩
  have B1 : Hid (Below w.heap.size w w1) := Lib.hid (by rw [hw1]; exact ((Below.refl _ _).alloc (Nat.le_refl _) _).alloc (by simp) _)
  have K1 := Lib.hid (show BlkL w1 w.heap.size [.float .f32 p0x0, .float .f32 p1x0, .float .f32 p2x0, .float .f32 p3x0, .float .f32 p4x0, .float .f32 p5x0, .float .f32 p6x0, .float .f32 p7x0] by rw [hw1]; exact (blkL_at w #[.float .f32 p0x0, .float .f32 p1x0, .float .f32 p2x0, .float .f32 p3x0, .float .f32 p4x0, .float .f32 p5x0, .float .f32 p6x0, .float .f32 p7x0] _ rfl).alloc _)
  have K2 := Lib.hid (show BlkL w1 (w.heap.size + 1) [.float .f32 p0x1, .float .f32 p1x1, .float .f32 p2x1, .float .f32 p3x1, .float .f32 p4x1, .float .f32 p5x1, .float .f32 p6x1, .float .f32 p7x1] by rw [hw1]; exact blkL_at (w.alloc _) #[.float .f32 p0x1, .float .f32 p1x1, .float .f32 p2x1, .float .f32 p3x1, .float .f32 p4x1, .float .f32 p5x1, .float .f32 p6x1, .float .f32 p7x1] _ (by simp))
  go_enter Try.func4, Try.ntmps4
  go_wp2_with fail
  rw [← hw1]
  clear hw1
  refine wp_region_inv3 (fun iq v => match iq with
    | 0 => v = .agg #[.float .f32 p0x0, .float .f32 p1x0, .float .f32 p2x0, .float .f32 p3x0, .float .f32 p4x0, .float .f32 p5x0, .float .f32 p6x0, .float .f32 p7x0]
    | 1 => v = .agg #[.float .f32 p0x0, .float .f32 p1x0, .float .f32 p2x0, .float .f32 p3x0, .float .f32 p4x0, .float .f32 p5x0, .float .f32 p6x0, .float .f32 p7x0]
    | 2 => v = .agg #[.float .f32 p0x1, .float .f32 p1x1, .float .f32 p2x1, .float .f32 p3x1, .float .f32 p4x1, .float .f32 p5x1, .float .f32 p6x1, .float .f32 p7x1]
    | 3 => v = .agg #[.float .f32 p0x1, .float .f32 p1x1, .float .f32 p2x1, .float .f32 p3x1, .float .f32 p4x1, .float .f32 p5x1, .float .f32 p6x1, .float .f32 p7x1]
    | 4 => v = .bool (plantE p0x0 p1x0 p2x0 p3x0 p4x0 p5x0 p6x0 p7x0 p0x1 p1x1 p2x1 p3x1 p4x1 p5x1 p6x1 p7x1)
    | 5 => v = .bool (plantE p0x0 p1x0 p2x0 p3x0 p4x0 p5x0 p6x0 p7x0 p0x1 p1x1 p2x1 p3x1 p4x1 p5x1 p6x1 p7x1)
    | _ => False) (fun _ ww => Below w1.heap.size w1 ww) (by kernel_rfl) (by kernel_rfl) ((Below.refl _ _).drew) ?hop ?hend
  case hop =>
    intro q o hq listed act w3 hI hnot hcl hall
    have hB := hI.cls
    obtain ⟨k0, k1, k2, k3, k4, k5, k6, k7⟩ := (K1.out.below hB).c8
    obtain ⟨l0, l1, l2, l3, l4, l5, l6, l7⟩ := (K2.out.below hB).c8
    rcases q with _ | _ | _ | _ | _ | _ | q
    · simp at hq; subst hq
      have g2 : act.tmps[2]?.getD undef = .pointer (some ⟨w.heap.size, 0, none⟩) := hI.kept 2 (by kernel_rfl)
      clear hI hall hnot hcl
      refine .inl ⟨wanted_none rfl, ?_⟩
      unfold Oper.wp
      go_simp
      all_goals exact ⟨_, rfl, rfl, hB⟩
    · simp at hq; subst hq
      have g7 : act.tmps[7]?.getD undef = .agg #[.float .f32 p0x0, .float .f32 p1x0, .float .f32 p2x0, .float .f32 p3x0, .float .f32 p4x0, .float .f32 p5x0, .float .f32 p6x0, .float .f32 p7x0] := hI.has 0 7 rfl (hall ⟨0, .data⟩ (by simp) rfl)
      clear hI hall hnot hcl
      refine .inl ⟨wanted_none rfl, ?_⟩
      unfold Oper.wp
      go_simp
      refine (l_toPlantB p0x0 p1x0 p2x0 p3x0 p4x0 p5x0 p6x0 p7x0 _).mono ?_
      rintro e w4 ⟨rfl, b4⟩
      exact ⟨_, rfl, rfl, below_of hB hB.size b4⟩
    · simp at hq; subst hq
      have g3 : act.tmps[3]?.getD undef = .pointer (some ⟨(w.heap.size + 1), 0, none⟩) := hI.kept 3 (by kernel_rfl)
      clear hI hall hnot hcl
      refine .inl ⟨wanted_none rfl, ?_⟩
      unfold Oper.wp
      go_simp
      all_goals exact ⟨_, rfl, rfl, hB⟩
    · simp at hq; subst hq
      have g9 : act.tmps[9]?.getD undef = .agg #[.float .f32 p0x1, .float .f32 p1x1, .float .f32 p2x1, .float .f32 p3x1, .float .f32 p4x1, .float .f32 p5x1, .float .f32 p6x1, .float .f32 p7x1] := hI.has 2 9 rfl (hall ⟨2, .data⟩ (by simp) rfl)
      clear hI hall hnot hcl
      refine .inl ⟨wanted_none rfl, ?_⟩
      unfold Oper.wp
      go_simp
      refine (l_toPlantB p0x1 p1x1 p2x1 p3x1 p4x1 p5x1 p6x1 p7x1 _).mono ?_
      rintro e w4 ⟨rfl, b4⟩
      exact ⟨_, rfl, rfl, below_of hB hB.size b4⟩
    · simp at hq; subst hq
      have g8 : act.tmps[8]?.getD undef = .agg #[.float .f32 p0x0, .float .f32 p1x0, .float .f32 p2x0, .float .f32 p3x0, .float .f32 p4x0, .float .f32 p5x0, .float .f32 p6x0, .float .f32 p7x0] := hI.has 1 8 rfl (hall ⟨1, .data⟩ (by simp) rfl)
      have g10 : act.tmps[10]?.getD undef = .agg #[.float .f32 p0x1, .float .f32 p1x1, .float .f32 p2x1, .float .f32 p3x1, .float .f32 p4x1, .float .f32 p5x1, .float .f32 p6x1, .float .f32 p7x1] := hI.has 3 10 rfl (hall ⟨3, .data⟩ (by simp) rfl)
      clear hI hall hnot hcl
      refine .inl ⟨wanted_none rfl, ?_⟩
      unfold Oper.wp
      go_simp
      refine (s_SamePlant p0x0 p1x0 p2x0 p3x0 p4x0 p5x0 p6x0 p7x0 p0x1 p1x1 p2x1 p3x1 p4x1 p5x1 p6x1 p7x1 _ X0.out X1.out).mono ?_
      rintro e w4 ⟨rfl, b4⟩
      exact ⟨_, rfl, rfl, below_of hB hB.size b4⟩
    · simp at hq; subst hq
      have g11 : act.tmps[11]?.getD undef = .bool (plantE p0x0 p1x0 p2x0 p3x0 p4x0 p5x0 p6x0 p7x0 p0x1 p1x1 p2x1 p3x1 p4x1 p5x1 p6x1 p7x1) := hI.has 4 11 rfl (hall ⟨4, .data⟩ (by simp) rfl)
      clear hI hall hnot hcl
      refine .inl ⟨wanted_none rfl, ?_⟩
      unfold Oper.wp
      go_simp
      all_goals exact ⟨_, rfl, rfl, hB⟩
    · simp at hq
  case hend =>
    intro listed act w3 hI hall
    have hB := hI.cls
    obtain ⟨k0, k1, k2, k3, k4, k5, k6, k7⟩ := (K1.out.below hB).c8
    obtain ⟨l0, l1, l2, l3, l4, l5, l6, l7⟩ := (K2.out.below hB).c8
    have g5 : act.tmps[5]?.getD undef = .bool (plantE p0x0 p1x0 p2x0 p3x0 p4x0 p5x0 p6x0 p7x0 p0x1 p1x1 p2x1 p3x1 p4x1 p5x1 p6x1 p7x1) := hI.has 5 5 rfl (hall 5 (by decide))
    have g0 := hI.kept 0 (by kernel_rfl)
    conv at g0 => rhs; whnf
    have g1 := hI.kept 1 (by kernel_rfl)
    conv at g1 => rhs; whnf
    have g2 := hI.kept 2 (by kernel_rfl)
    conv at g2 => rhs; whnf
    have g3 := hI.kept 3 (by kernel_rfl)
    conv at g3 => rhs; whnf
    have g4 := hI.kept 4 (by kernel_rfl)
    conv at g4 => rhs; whnf
    have g6 : act.tmps[6]?.getD undef = undef := hI.kept 6 (by kernel_rfl)
    have g12 : act.tmps[12]?.getD undef = undef := hI.kept 12 (by kernel_rfl)
    have g13 : act.tmps[13]?.getD undef = undef := hI.kept 13 (by kernel_rfl)
    have g14 : act.tmps[14]?.getD undef = undef := hI.kept 14 (by kernel_rfl)
    have g15 : act.tmps[15]?.getD undef = undef := hI.kept 15 (by kernel_rfl)
    have g16 : act.tmps[16]?.getD undef = undef := hI.kept 16 (by kernel_rfl)
    have g17 : act.tmps[17]?.getD undef = undef := hI.kept 17 (by kernel_rfl)
    have g18 : act.tmps[18]?.getD undef = undef := hI.kept 18 (by kernel_rfl)
    have g19 : act.tmps[19]?.getD undef = undef := hI.kept 19 (by kernel_rfl)
    have hsz : act.tmps.size = 20 := hI.size.trans (by kernel_rfl)
    have hd := hI.defers
    clear hI hall k0 k1 k2 k3 k4 k5 k6 k7 l0 l1 l2 l3 l4 l5 l6 l7
    obtain ⟨tt, dd⟩ := act
    simp only at g0 g1 g2 g3 g4 g5 g6 g12 g13 g14 g15 g16 g17 g18 g19 hsz hd
    subst hd
    have hl : tt = #[tt[0]?.getD undef, tt[1]?.getD undef, tt[2]?.getD undef, tt[3]?.getD undef, tt[4]?.getD undef, tt[5]?.getD undef, tt[6]?.getD undef, tt[7]?.getD undef, tt[8]?.getD undef, tt[9]?.getD undef, tt[10]?.getD undef, tt[11]?.getD undef, tt[12]?.getD undef, tt[13]?.getD undef, tt[14]?.getD undef, tt[15]?.getD undef, tt[16]?.getD undef, tt[17]?.getD undef, tt[18]?.getD undef, tt[19]?.getD undef] := (arr_lit hsz).trans rfl
    rw [g0, g1, g2, g3, g4, g5, g6, g12, g13, g14, g15, g16, g17, g18, g19] at hl
    clear g0 g1 g2 g3 g4 g5 g6 g12 g13 g14 g15 g16 g17 g18 g19 hsz
    generalize tt[7]?.getD undef = y7 at hl
    generalize tt[8]?.getD undef = y8 at hl
    generalize tt[9]?.getD undef = y9 at hl
    generalize tt[10]?.getD undef = y10 at hl
    generalize tt[11]?.getD undef = y11 at hl
    subst hl
    obtain ⟨w2, hww⟩ : ∃ x, x = w3 := ⟨_, rfl⟩
    rw [← hww] at hB ⊢
    clear hww
    have B2 : Hid (Below w.heap.size w w2) := Lib.hid (below_of B1.out B1.out.size hB)
    have K3 := Lib.hid (K1.out.below hB)
    have K4 := Lib.hid (K2.out.below hB)
    clear hB
    go_wp2_with fail
    refine wp_region_inv3 (fun iq v => match iq with
      | 0 => v = .agg #[.float .f32 p0x0, .float .f32 p1x0, .float .f32 p2x0, .float .f32 p3x0, .float .f32 p4x0, .float .f32 p5x0, .float .f32 p6x0, .float .f32 p7x0]
      | 1 => v = .agg #[.float .f32 p0x0, .float .f32 p1x0, .float .f32 p2x0, .float .f32 p3x0, .float .f32 p4x0, .float .f32 p5x0, .float .f32 p6x0, .float .f32 p7x0]
      | 2 => v = .agg #[.float .f32 p0x1, .float .f32 p1x1, .float .f32 p2x1, .float .f32 p3x1, .float .f32 p4x1, .float .f32 p5x1, .float .f32 p6x1, .float .f32 p7x1]
      | 3 => v = .agg #[.float .f32 p0x1, .float .f32 p1x1, .float .f32 p2x1, .float .f32 p3x1, .float .f32 p4x1, .float .f32 p5x1, .float .f32 p6x1, .float .f32 p7x1]
      | 4 => v = .bool (plantE p0x0 p1x0 p2x0 p3x0 p4x0 p5x0 p6x0 p7x0 p0x1 p1x1 p2x1 p3x1 p4x1 p5x1 p6x1 p7x1)
      | 5 => v = .bool (plantE p0x0 p1x0 p2x0 p3x0 p4x0 p5x0 p6x0 p7x0 p0x1 p1x1 p2x1 p3x1 p4x1 p5x1 p6x1 p7x1)
      | _ => False) (fun _ ww => Below w2.heap.size w2 ww) (by kernel_rfl) (by kernel_rfl) ((Below.refl _ _).drew) ?hop ?hend
    case hop =>
      intro q o hq listed act w3 hI hnot hcl hall
      have hB := hI.cls
      obtain ⟨k0, k1, k2, k3, k4, k5, k6, k7⟩ := (K3.out.below hB).c8
      obtain ⟨l0, l1, l2, l3, l4, l5, l6, l7⟩ := (K4.out.below hB).c8
      rcases q with _ | _ | _ | _ | _ | _ | q
      · simp at hq; subst hq
        have g2 : act.tmps[2]?.getD undef = .pointer (some ⟨w.heap.size, 0, none⟩) := hI.kept 2 (by kernel_rfl)
        clear hI hall hnot hcl
        refine .inl ⟨wanted_none rfl, ?_⟩
        unfold Oper.wp
        go_simp
        all_goals exact ⟨_, rfl, rfl, hB⟩
      · simp at hq; subst hq
        have g12 : act.tmps[12]?.getD undef = .agg #[.float .f32 p0x0, .float .f32 p1x0, .float .f32 p2x0, .float .f32 p3x0, .float .f32 p4x0, .float .f32 p5x0, .float .f32 p6x0, .float .f32 p7x0] := hI.has 0 12 rfl (hall ⟨0, .data⟩ (by simp) rfl)
        clear hI hall hnot hcl
        refine .inl ⟨wanted_none rfl, ?_⟩
        unfold Oper.wp
        go_simp
        refine (l_toPlantB p0x0 p1x0 p2x0 p3x0 p4x0 p5x0 p6x0 p7x0 _).mono ?_
        rintro e w4 ⟨rfl, b4⟩
        exact ⟨_, rfl, rfl, below_of hB hB.size b4⟩
      · simp at hq; subst hq
        have g3 : act.tmps[3]?.getD undef = .pointer (some ⟨(w.heap.size + 1), 0, none⟩) := hI.kept 3 (by kernel_rfl)
        clear hI hall hnot hcl
        refine .inl ⟨wanted_none rfl, ?_⟩
        unfold Oper.wp
        go_simp
        all_goals exact ⟨_, rfl, rfl, hB⟩
      · simp at hq; subst hq
        have g14 : act.tmps[14]?.getD undef = .agg #[.float .f32 p0x1, .float .f32 p1x1, .float .f32 p2x1, .float .f32 p3x1, .float .f32 p4x1, .float .f32 p5x1, .float .f32 p6x1, .float .f32 p7x1] := hI.has 2 14 rfl (hall ⟨2, .data⟩ (by simp) rfl)
        clear hI hall hnot hcl
        refine .inl ⟨wanted_none rfl, ?_⟩
        unfold Oper.wp
        go_simp
        refine (l_toPlantB p0x1 p1x1 p2x1 p3x1 p4x1 p5x1 p6x1 p7x1 _).mono ?_
        rintro e w4 ⟨rfl, b4⟩
        exact ⟨_, rfl, rfl, below_of hB hB.size b4⟩
      · simp at hq; subst hq
        have g13 : act.tmps[13]?.getD undef = .agg #[.float .f32 p0x0, .float .f32 p1x0, .float .f32 p2x0, .float .f32 p3x0, .float .f32 p4x0, .float .f32 p5x0, .float .f32 p6x0, .float .f32 p7x0] := hI.has 1 13 rfl (hall ⟨1, .data⟩ (by simp) rfl)
        have g15 : act.tmps[15]?.getD undef = .agg #[.float .f32 p0x1, .float .f32 p1x1, .float .f32 p2x1, .float .f32 p3x1, .float .f32 p4x1, .float .f32 p5x1, .float .f32 p6x1, .float .f32 p7x1] := hI.has 3 15 rfl (hall ⟨3, .data⟩ (by simp) rfl)
        clear hI hall hnot hcl
        refine .inl ⟨wanted_none rfl, ?_⟩
        unfold Oper.wp
        go_simp
        refine (i_SamePlant p0x0 p1x0 p2x0 p3x0 p4x0 p5x0 p6x0 p7x0 p0x1 p1x1 p2x1 p3x1 p4x1 p5x1 p6x1 p7x1 _ X0.out X1.out).mono ?_
        rintro e w4 ⟨rfl, b4⟩
        exact ⟨_, rfl, rfl, below_of hB hB.size b4⟩
      · simp at hq; subst hq
        have g16 : act.tmps[16]?.getD undef = .bool (plantE p0x0 p1x0 p2x0 p3x0 p4x0 p5x0 p6x0 p7x0 p0x1 p1x1 p2x1 p3x1 p4x1 p5x1 p6x1 p7x1) := hI.has 4 16 rfl (hall ⟨4, .data⟩ (by simp) rfl)
        clear hI hall hnot hcl
        refine .inl ⟨wanted_none rfl, ?_⟩
        unfold Oper.wp
        go_simp
        all_goals exact ⟨_, rfl, rfl, hB⟩
      · simp at hq
    case hend =>
      intro listed act w3 hI hall
      have hB := hI.cls
      obtain ⟨k0, k1, k2, k3, k4, k5, k6, k7⟩ := (K3.out.below hB).c8
      obtain ⟨l0, l1, l2, l3, l4, l5, l6, l7⟩ := (K4.out.below hB).c8
      have g6 : act.tmps[6]?.getD undef = .bool (plantE p0x0 p1x0 p2x0 p3x0 p4x0 p5x0 p6x0 p7x0 p0x1 p1x1 p2x1 p3x1 p4x1 p5x1 p6x1 p7x1) := hI.has 5 6 rfl (hall 5 (by decide))
      have g0 := hI.kept 0 (by kernel_rfl)
      conv at g0 => rhs; whnf
      have g1 := hI.kept 1 (by kernel_rfl)
      conv at g1 => rhs; whnf
      have g2 := hI.kept 2 (by kernel_rfl)
      conv at g2 => rhs; whnf
      have g3 := hI.kept 3 (by kernel_rfl)
      conv at g3 => rhs; whnf
      have g4 := hI.kept 4 (by kernel_rfl)
      conv at g4 => rhs; whnf
      have g5 := hI.kept 5 (by kernel_rfl)
      conv at g5 => rhs; whnf
      have g7 := hI.kept 7 (by kernel_rfl)
      conv at g7 => rhs; whnf
      have g8 := hI.kept 8 (by kernel_rfl)
      conv at g8 => rhs; whnf
      have g9 := hI.kept 9 (by kernel_rfl)
      conv at g9 => rhs; whnf
      have g10 := hI.kept 10 (by kernel_rfl)
      conv at g10 => rhs; whnf
      have g11 := hI.kept 11 (by kernel_rfl)
      conv at g11 => rhs; whnf
      have g17 : act.tmps[17]?.getD undef = undef := hI.kept 17 (by kernel_rfl)
      have g18 : act.tmps[18]?.getD undef = undef := hI.kept 18 (by kernel_rfl)
      have g19 : act.tmps[19]?.getD undef = undef := hI.kept 19 (by kernel_rfl)
      have hsz : act.tmps.size = 20 := hI.size.trans (by kernel_rfl)
      have hd := hI.defers
      clear hI hall k0 k1 k2 k3 k4 k5 k6 k7 l0 l1 l2 l3 l4 l5 l6 l7
      obtain ⟨tt, dd⟩ := act
      simp only at g0 g1 g2 g3 g4 g5 g6 g7 g8 g9 g10 g11 g17 g18 g19 hsz hd
      subst hd
      have hl : tt = #[tt[0]?.getD undef, tt[1]?.getD undef, tt[2]?.getD undef, tt[3]?.getD undef, tt[4]?.getD undef, tt[5]?.getD undef, tt[6]?.getD undef, tt[7]?.getD undef, tt[8]?.getD undef, tt[9]?.getD undef, tt[10]?.getD undef, tt[11]?.getD undef, tt[12]?.getD undef, tt[13]?.getD undef, tt[14]?.getD undef, tt[15]?.getD undef, tt[16]?.getD undef, tt[17]?.getD undef, tt[18]?.getD undef, tt[19]?.getD undef] := (arr_lit hsz).trans rfl
      rw [g0, g1, g2, g3, g4, g5, g6, g7, g8, g9, g10, g11, g17, g18, g19] at hl
      clear g0 g1 g2 g3 g4 g5 g6 g7 g8 g9 g10 g11 g17 g18 g19 hsz
      generalize tt[12]?.getD undef = z12 at hl
      generalize tt[13]?.getD undef = z13 at hl
      generalize tt[14]?.getD undef = z14 at hl
      generalize tt[15]?.getD undef = z15 at hl
      generalize tt[16]?.getD undef = z16 at hl
      subst hl
      obtain ⟨w9, hww⟩ : ∃ x, x = w3 := ⟨_, rfl⟩
      rw [← hww] at hB ⊢
      clear hww
      have B3 : Hid (Below w.heap.size w w9) := Lib.hid (below_of B2.out B2.out.size hB)
      clear hB
      go_wp2
      go_ret
      exact ⟨rfl, B3.out⟩
end Go.Proofs.Ytmcfnkfcklcpnaa
