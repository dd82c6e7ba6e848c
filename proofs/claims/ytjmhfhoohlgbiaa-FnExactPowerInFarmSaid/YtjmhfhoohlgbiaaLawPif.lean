/- The law FnExactPowerInFarm. No statement is proved here. -/
import Derived.Test.YtjmhfhoohlgbiaaMgPi
import Derived.Test.YtjmhfhoohlgbiaaFrmK
import Derived.Test.YtjmhfhoohlgbiaaOpenF
namespace Go.Proofs.Ytjmhfhoohlgbiaa
open Go Go.RowKit
set_option maxHeartbeats 16000000 in
set_option maxRecDepth 100000 in
theorem law_FnExactPowerInFarm (X0 Y0 : Option Addr) (cx0 cy0 : Nat) (fx0 fy0 : List Nat) (fr0 fd0 fs0 : Nat) (u1 : Nat) (u2 : Nat) (u3 : Nat) (w : World) (h0 : Rs w X0 Y0 fx0 fy0) (ma0 : fx0.length ≤ 9223372036854775807) (ml0 : fy0.length ≤ 9223372036854775807) (_hw0 : (∀ x ∈ fx0, x < words .f32) ∧ ∀ x ∈ fy0, x < words .f32) (_hv0 : fr0 < words .f32 ∧ fd0 < words .f32 ∧ fs0 < words .f32) (_hu1 : u1 < words .f32) (_hu2 : u2 < words .f32) (_hu3 : u3 < words .f32) :
    Calls Try.prog 6 #[.agg #[.slice X0 fx0.length cx0, .slice Y0 fy0.length cy0, .float .f32 fr0, .float .f32 fd0, .float .f32 fs0], .float .f32 u1, .float .f32 u2, .float .f32 u3] w fun e w' => e = .returned (.bool true) ∧ Below w.heap.size w w' := by
  have HP0 := Lib.hid h0
  clear h0
  by_cases hn0 : fx0.length + fy0.length ≤ 1048576
  · skip
    have HN0 : Hid (FewS fx0 fy0) := Lib.hid (by unfold FewS; omega)
    obtain ⟨w0, hw0⟩ : ∃ x, x = (w.alloc (.cells #[.slice X0 fx0.length cx0, .slice Y0 fy0.length cy0, .float .f32 fr0, .float .f32 fd0, .float .f32 fs0] 25)) := ⟨_, rfl⟩
    have B0 : Hid (Below w.heap.size w w0) := Lib.hid (by rw [hw0]; exact (Below.refl _ _).alloc (Nat.le_refl _) _)
    have Z0 : Hid (w0.heap.size = w.heap.size + 1) := Lib.hid (by rw [hw0]; simp)
    have K0 : Hid (BlkL w0 (w.heap.size) [.slice X0 fx0.length cx0, .slice Y0 fy0.length cy0, .float .f32 fr0, .float .f32 fd0, .float .f32 fs0]) := Lib.hid (by rw [hw0]; exact blkL_at w #[.slice X0 fx0.length cx0, .slice Y0 fy0.length cy0, .float .f32 fr0, .float .f32 fd0, .float .f32 fs0] 25 rfl)
    go_enter Try.func6, Try.ntmps6
    go_wp2_with fail
    rw [← hw0]
    clear hw0
    have hq0 : (0 : Int) ≤ 1048576 - (fx0.length : Int) - (fy0.length : Int) := by omega
    obtain ⟨K0x0, K0x1, K0x2, K0x3, K0x4⟩ := K0.out.five
    go_wp2_with fail
    refine (l_szFarm_yes X0 Y0 _ cx0 _ cy0 fr0 fd0 fs0 _ _ (by omega) (by omega)).mono ?_
    rintro e wd1 ⟨rfl, b⟩
    have B1 : Hid (Below w.heap.size w wd1) := Lib.hid (below_of B0.out B0.out.size b)
    have Z1 : Hid (w0.heap.size ≤ wd1.heap.size) := Lib.hid b.size
    have K0_1 : Hid (BlkL wd1 (w.heap.size) [.slice X0 fx0.length cx0, .slice Y0 fy0.length cy0, .float .f32 fr0, .float .f32 fd0, .float .f32 fs0]) := Lib.hid (K0.out.below b)
    clear K0x0 K0x1 K0x2 K0x3 K0x4
    clear K0
    clear b
    obtain ⟨K0x0, K0x1, K0x2, K0x3, K0x4⟩ := K0_1.out.five
    go_wp2_with fail
    refine (l_toFarm X0 Y0 cx0 cy0 fx0 fy0 fr0 fd0 fs0 _ (HP0.out.below B1.out) HN0.out).mono ?_
    rintro e wd2 ⟨p01, p02, rfl, ho, b⟩
    have B2 : Hid (Below w.heap.size w wd2) := Lib.hid (below_of B1.out B1.out.size b)
    have Z2 : Hid (wd1.heap.size ≤ wd2.heap.size) := Lib.hid b.size
    have K0_2 : Hid (BlkL wd2 (w.heap.size) [.slice X0 fx0.length cx0, .slice Y0 fy0.length cy0, .float .f32 fr0, .float .f32 fd0, .float .f32 fs0]) := Lib.hid (K0_1.out.below b)
    clear K0x0 K0x1 K0x2 K0x3 K0x4
    clear K0_1
    have Xp0 : Hid (OwnR2 wd2 wd1.heap.size (some ⟨p01, 0, none⟩) (some ⟨p02, 0, none⟩) p01 p02 fx0 fy0) := Lib.hid (OwnR2.of ho.2.2.1 ho.2.2.2 ho.1 ho.2.1)
    have Xp0bd := Xp0
    clear ho b
    obtain ⟨K0x0, K0x1, K0x2, K0x3, K0x4⟩ := K0_2.out.five
    go_wp2_with fail
    refine (s_PowerInFarm _ _ _ _ fx0 fy0 fr0 fd0 fs0 u1 u2 u3 _ Xp0.out.fl HN0.out).mono ?_
    rintro e wd3 ⟨cr0, rfl, ch0, b⟩
    have B3 : Hid (Below w.heap.size w wd3) := Lib.hid (below_of B2.out B2.out.size b)
    have Z3 : Hid (wd2.heap.size ≤ wd3.heap.size) := Lib.hid b.size
    have K0_3 : Hid (BlkL wd3 (w.heap.size) [.slice X0 fx0.length cx0, .slice Y0 fy0.length cy0, .float .f32 fr0, .float .f32 fd0, .float .f32 fs0]) := Lib.hid (K0_2.out.below b)
    have Xp0_1 : Hid (OwnR2 wd3 wd1.heap.size (some ⟨p01, 0, none⟩) (some ⟨p02, 0, none⟩) p01 p02 fx0 fy0) := Lib.hid (Xp0.out.below b)
    clear K0x0 K0x1 K0x2 K0x3 K0x4
    clear K0_2 Xp0
    clear b
    have C0 := Lib.hid ch0
    clear ch0
    obtain ⟨K0x0, K0x1, K0x2, K0x3, K0x4⟩ := K0_3.out.five
    go_wp2_with fail
    refine (l_toFarm X0 Y0 cx0 cy0 fx0 fy0 fr0 fd0 fs0 _ (HP0.out.below B3.out) HN0.out).mono ?_
    rintro e wd4 ⟨x01, x02, rfl, ho, b⟩
    have B4 : Hid (Below w.heap.size w wd4) := Lib.hid (below_of B3.out B3.out.size b)
    have Z4 : Hid (wd3.heap.size ≤ wd4.heap.size) := Lib.hid b.size
    have K0_4 : Hid (BlkL wd4 (w.heap.size) [.slice X0 fx0.length cx0, .slice Y0 fy0.length cy0, .float .f32 fr0, .float .f32 fd0, .float .f32 fs0]) := Lib.hid (K0_3.out.below b)
    clear K0x0 K0x1 K0x2 K0x3 K0x4
    clear K0_3
    have Xx0 : Hid (OwnR2 wd4 wd3.heap.size (some ⟨x01, 0, none⟩) (some ⟨x02, 0, none⟩) x01 x02 fx0 fy0) := Lib.hid (OwnR2.of ho.2.2.1 ho.2.2.2 ho.1 ho.2.1)
    have Xx0bd := Xx0
    clear ho b
    obtain ⟨wd5, hw5⟩ : ∃ x, x = wd4.alloc (.cells #[.slice (some ⟨x01, 0, none⟩) fx0.length fx0.length, .slice (some ⟨x02, 0, none⟩) fy0.length fy0.length, .float .f32 fr0, .float .f32 fd0, .float .f32 fs0] 29) := ⟨_, rfl⟩
    have b : Below wd4.heap.size wd4 wd5 := by rw [hw5]; exact (Below.refl _ _).alloc (Nat.le_refl _) _
    have Y5 : Hid (wd4.heap.size + 1 ≤ wd5.heap.size) := Lib.hid (by rw [hw5]; simp)
    have B5 : Hid (Below w.heap.size w wd5) := Lib.hid (below_of B4.out B4.out.size b)
    have Z5 : Hid (wd4.heap.size ≤ wd5.heap.size) := Lib.hid b.size
    have K0_5 : Hid (BlkL wd5 (w.heap.size) [.slice X0 fx0.length cx0, .slice Y0 fy0.length cy0, .float .f32 fr0, .float .f32 fd0, .float .f32 fs0]) := Lib.hid (K0_4.out.below b)
    have Xx0_1 : Hid (OwnR2 wd5 wd3.heap.size (some ⟨x01, 0, none⟩) (some ⟨x02, 0, none⟩) x01 x02 fx0 fy0) := Lib.hid (Xx0.out.below b)
    have V0 : Hid (BlkL wd5 (wd4.heap.size) [.slice (some ⟨x01, 0, none⟩) fx0.length fx0.length, .slice (some ⟨x02, 0, none⟩) fy0.length fy0.length, .float .f32 fr0, .float .f32 fd0, .float .f32 fs0]) := Lib.hid (by rw [hw5]; exact blkL_at wd4 #[.slice (some ⟨x01, 0, none⟩) fx0.length fx0.length, .slice (some ⟨x02, 0, none⟩) fy0.length fy0.length, .float .f32 fr0, .float .f32 fd0, .float .f32 fs0] 29 rfl)
    clear b
    have K0y0 := fun o => ((K0_4.out.alloc o).2 0 _ rfl).1
    have K0y1 := fun o => ((K0_4.out.alloc o).2 1 _ rfl).1
    have K0y2 := fun o => ((K0_4.out.alloc o).2 2 _ rfl).1
    have K0y3 := fun o => ((K0_4.out.alloc o).2 3 _ rfl).1
    have K0y4 := fun o => ((K0_4.out.alloc o).2 4 _ rfl).1
    go_wp2_with fail
    rw [← hw5]
    clear hw5
    clear K0y0 K0y1 K0y2 K0y3 K0y4
    clear K0_4 Xx0
    obtain ⟨K0x0, K0x1, K0x2, K0x3, K0x4⟩ := K0_5.out.five
    obtain ⟨V0x0, V0x1, V0x2, V0x3, V0x4⟩ := V0.out.five
    go_wp2_with fail
    refine (i_PowerInFarm _ _ _ _ fx0 fy0 fr0 fd0 fs0 u1 u2 u3 _ Xx0_1.out.fl HN0.out).mono ?_
    rintro e wd6 ⟨gr0, rfl, gh0, b⟩
    have B6 : Hid (Below w.heap.size w wd6) := Lib.hid (below_of B5.out B5.out.size b)
    have Z6 : Hid (wd5.heap.size ≤ wd6.heap.size) := Lib.hid b.size
    have K0_6 : Hid (BlkL wd6 (w.heap.size) [.slice X0 fx0.length cx0, .slice Y0 fy0.length cy0, .float .f32 fr0, .float .f32 fd0, .float .f32 fs0]) := Lib.hid (K0_5.out.below b)
    have Xx0_2 : Hid (OwnR2 wd6 wd3.heap.size (some ⟨x01, 0, none⟩) (some ⟨x02, 0, none⟩) x01 x02 fx0 fy0) := Lib.hid (Xx0_1.out.below b)
    have V0_1 : Hid (BlkL wd6 (wd4.heap.size) [.slice (some ⟨x01, 0, none⟩) fx0.length fx0.length, .slice (some ⟨x02, 0, none⟩) fy0.length fy0.length, .float .f32 fr0, .float .f32 fd0, .float .f32 fs0]) := Lib.hid (V0.out.below b)
    clear K0x0 K0x1 K0x2 K0x3 K0x4 V0x0 V0x1 V0x2 V0x3 V0x4
    clear K0_5 Xx0_1 V0
    clear b
    have G0 := Lib.hid gh0
    clear gh0
    obtain ⟨K0x0, K0x1, K0x2, K0x3, K0x4⟩ := K0_6.out.five
    obtain ⟨V0x0, V0x1, V0x2, V0x3, V0x4⟩ := V0_1.out.five
    go_wp2_with fail
    refine (sameFloat_yes _ _ _ (by rw [canon_wideV, canon_wideV, C0.out, G0.out])).mono ?_
    rintro e wd7 ⟨nq, rfl, hw⟩
    have b : Below wd6.heap.size wd6 wd7 := by rw [hw]; repeat (first | exact Below.refl _ _ | refine below_draws ?_ _)
    clear hw
    have B7 : Hid (Below w.heap.size w wd7) := Lib.hid (below_of B6.out B6.out.size b)
    have Z7 : Hid (wd6.heap.size ≤ wd7.heap.size) := Lib.hid b.size
    have K0_7 : Hid (BlkL wd7 (w.heap.size) [.slice X0 fx0.length cx0, .slice Y0 fy0.length cy0, .float .f32 fr0, .float .f32 fd0, .float .f32 fs0]) := Lib.hid (K0_6.out.below b)
    have Xx0_3 : Hid (OwnR2 wd7 wd3.heap.size (some ⟨x01, 0, none⟩) (some ⟨x02, 0, none⟩) x01 x02 fx0 fy0) := Lib.hid (Xx0_2.out.below b)
    have V0_2 : Hid (BlkL wd7 (wd4.heap.size) [.slice (some ⟨x01, 0, none⟩) fx0.length fx0.length, .slice (some ⟨x02, 0, none⟩) fy0.length fy0.length, .float .f32 fr0, .float .f32 fd0, .float .f32 fs0]) := Lib.hid (V0_1.out.below b)
    clear K0x0 K0x1 K0x2 K0x3 K0x4 V0x0 V0x1 V0x2 V0x3 V0x4
    clear K0_6 Xx0_2 V0_1
    clear b
    obtain ⟨K0x0, K0x1, K0x2, K0x3, K0x4⟩ := K0_7.out.five
    obtain ⟨V0x0, V0x1, V0x2, V0x3, V0x4⟩ := V0_2.out.five
    go_wp2_with fail
    clear K0x0 K0x1 K0x2 K0x3 K0x4 V0x0 V0x1 V0x2 V0x3 V0x4
    refine wp_region_inv4 (fun iq wv v => match iq with
      | 0 => v = .agg #[.slice (some ⟨x01, 0, none⟩) fx0.length fx0.length, .slice (some ⟨x02, 0, none⟩) fy0.length fy0.length, .float .f32 fr0, .float .f32 fd0, .float .f32 fs0]
      | 1 => v = .agg #[.slice X0 fx0.length cx0, .slice Y0 fy0.length cy0, .float .f32 fr0, .float .f32 fd0, .float .f32 fs0]
      | 2 => ∃ q1 q2, v = .agg #[.slice (some ⟨q1, 0, none⟩) fx0.length fx0.length, .slice (some ⟨q2, 0, none⟩) fy0.length fy0.length, .float .f32 fr0, .float .f32 fd0, .float .f32 fs0] ∧ OwnR2 wv wd7.heap.size (some ⟨q1, 0, none⟩) (some ⟨q2, 0, none⟩) q1 q2 fx0 fy0
      | 3 => v = .bool true
      | 4 => v = .bool false
      | _ => False) (fun _ ww => Below wd7.heap.size wd7 ww) (fun w w' => Below w.heap.size w w') ?hmono (by kernel_rfl) (by kernel_rfl) ((Below.refl _ _).drew) ?hop ?hend
    case hmono =>
      intro i wa wb v hR hV
      rcases i with _ | _ | _ | _ | _ | i
      · exact hV
      · exact hV
      · obtain ⟨q1, q2, rfl, ho⟩ := hV; exact ⟨q1, q2, rfl, ho.below hR⟩
      · exact hV
      · exact hV
      · exact hV
    case hop =>
      intro q o hq listed act w3 hI hnot hcl hall
      have hB := hI.cls
      obtain ⟨K0x0, K0x1, K0x2, K0x3, K0x4⟩ := (K0_7.out.below hB).five
      obtain ⟨V0x0, V0x1, V0x2, V0x3, V0x4⟩ := (V0_2.out.below hB).five
      rcases q with _ | _ | _ | _ | _ | q
      · simp at hq; subst hq
        have g12 : act.tmps[12]?.getD undef = .pointer (some ⟨wd4.heap.size, 0, none⟩) := hI.kept 12 (by kernel_rfl)
        clear hI hall hnot hcl
        refine .inl ⟨wanted_none rfl, ?_⟩
        unfold Oper.wp
        go_simp
        all_goals first | exact ⟨_, rfl, Below.refl _ _, rfl, hB⟩ | exact ⟨Below.refl _ _, hB⟩ | exact Below.refl _ _
      · simp at hq; subst hq
        have g4 : act.tmps[4]?.getD undef = .pointer (some ⟨w.heap.size, 0, none⟩) := hI.kept 4 (by kernel_rfl)
        clear hI hall hnot hcl
        refine .inl ⟨wanted_none rfl, ?_⟩
        unfold Oper.wp
        go_simp
        all_goals first | exact ⟨_, rfl, Below.refl _ _, rfl, hB⟩ | exact ⟨Below.refl _ _, hB⟩ | exact Below.refl _ _
      · simp at hq; subst hq
        have g51 : act.tmps[51]?.getD undef = .agg #[.slice X0 fx0.length cx0, .slice Y0 fy0.length cy0, .float .f32 fr0, .float .f32 fd0, .float .f32 fs0] := hI.has 1 51 rfl (hall ⟨1, .data⟩ (by simp) rfl)
        clear hI hall hnot hcl
        refine .inl ⟨wanted_none rfl, ?_⟩
        unfold Oper.wp
        go_simp
        refine (l_toFarm X0 Y0 cx0 cy0 fx0 fy0 fr0 fd0 fs0 _ (HP0.out.below (below_of B7.out B7.out.size hB)) HN0.out).mono ?_
        rintro e w4 ⟨q1, q2, rfl, ho, b4⟩
        exact ⟨_, rfl, b4, ⟨q1, q2, rfl, OwnR2.of ho.2.2.1 ho.2.2.2 (by have := ho.1; have := hB.size; omega) ho.2.1⟩, below_of hB hB.size b4⟩
      · simp at hq; subst hq
        have g50 : act.tmps[50]?.getD undef = .agg #[.slice (some ⟨x01, 0, none⟩) fx0.length fx0.length, .slice (some ⟨x02, 0, none⟩) fy0.length fy0.length, .float .f32 fr0, .float .f32 fd0, .float .f32 fs0] := hI.has 0 50 rfl (hall ⟨0, .data⟩ (by simp) rfl)
        obtain ⟨q12, q22, g52, h2a⟩ := hI.has 2 52 rfl (hall ⟨2, .data⟩ (by simp) rfl)
        clear hI hall hnot hcl
        refine .inl ⟨wanted_none rfl, ?_⟩
        unfold Oper.wp
        go_simp
        refine (l_eqFarm _ _ _ _ _ _ _ _ fx0 fy0 _ _ _ _ _ _ _ (Xx0_3.out.below hB).fl (OwnR2.fl h2a) HN0.out rfl rfl rfl).mono ?_
        rintro e w4 ⟨rfl, b4⟩
        exact ⟨_, rfl, b4, rfl, below_of hB hB.size b4⟩
      · simp at hq; subst hq
        have g53 : act.tmps[53]?.getD undef = .bool true := hI.has 3 53 rfl (hall ⟨3, .data⟩ (by simp) rfl)
        clear hI hall hnot hcl
        refine .inl ⟨wanted_none rfl, ?_⟩
        unfold Oper.wp
        go_simp
        all_goals first | exact ⟨_, rfl, Below.refl _ _, rfl, hB⟩ | exact ⟨Below.refl _ _, hB⟩ | exact Below.refl _ _
      · simp at hq
    case hend =>
      intro listed act w3 hI hall
      have hB := hI.cls
      obtain ⟨K0x0, K0x1, K0x2, K0x3, K0x4⟩ := (K0_7.out.below hB).five
      obtain ⟨V0x0, V0x1, V0x2, V0x3, V0x4⟩ := (V0_2.out.below hB).five
      have g54 : act.tmps[54]?.getD undef = .bool false := hI.has 4 54 rfl (hall 4 (by decide))
      have g0 := hI.kept 0 (by kernel_rfl)
      conv at g0 => rhs; whnf
      have g1 := hI.kept 1 (by kernel_rfl)
      conv at g1 => rhs; whnf
      have g2 := hI.kept 2 (by kernel_rfl)
      conv at g2 => rhs; whnf
      have g3 := hI.kept 3 (by kernel_rfl)
      conv at g3 => rhs; whnf
      have g4 := hI.kept 4 (by kernel_rfl)
      conv at g4 => rhs; whnf
      have g5 : act.tmps[5]?.getD undef = undef := hI.kept 5 (by kernel_rfl)
      have g6 : act.tmps[6]?.getD undef = undef := hI.kept 6 (by kernel_rfl)
      have g7 : act.tmps[7]?.getD undef = undef := hI.kept 7 (by kernel_rfl)
      have g8 := hI.kept 8 (by kernel_rfl)
      conv at g8 => rhs; whnf
      have g9 := hI.kept 9 (by kernel_rfl)
      conv at g9 => rhs; whnf
      have g10 := hI.kept 10 (by kernel_rfl)
      conv at g10 => rhs; whnf
      have g11 := hI.kept 11 (by kernel_rfl)
      conv at g11 => rhs; whnf
      have g12 := hI.kept 12 (by kernel_rfl)
      conv at g12 => rhs; whnf
      have g13 := hI.kept 13 (by kernel_rfl)
      conv at g13 => rhs; whnf
      have g14 := hI.kept 14 (by kernel_rfl)
      conv at g14 => rhs; whnf
      have g15 := hI.kept 15 (by kernel_rfl)
      conv at g15 => rhs; whnf
      have g16 := hI.kept 16 (by kernel_rfl)
      conv at g16 => rhs; whnf
      have g17 := hI.kept 17 (by kernel_rfl)
      conv at g17 => rhs; whnf
      have g18 := hI.kept 18 (by kernel_rfl)
      conv at g18 => rhs; whnf
      have g19 := hI.kept 19 (by kernel_rfl)
      conv at g19 => rhs; whnf
      have g20 := hI.kept 20 (by kernel_rfl)
      conv at g20 => rhs; whnf
      have g21 := hI.kept 21 (by kernel_rfl)
      conv at g21 => rhs; whnf
      have g22 := hI.kept 22 (by kernel_rfl)
      conv at g22 => rhs; whnf
      have g23 := hI.kept 23 (by kernel_rfl)
      conv at g23 => rhs; whnf
      have g24 := hI.kept 24 (by kernel_rfl)
      conv at g24 => rhs; whnf
      have g25 := hI.kept 25 (by kernel_rfl)
      conv at g25 => rhs; whnf
      have g26 := hI.kept 26 (by kernel_rfl)
      conv at g26 => rhs; whnf
      have g27 := hI.kept 27 (by kernel_rfl)
      conv at g27 => rhs; whnf
      have g28 := hI.kept 28 (by kernel_rfl)
      conv at g28 => rhs; whnf
      have g29 := hI.kept 29 (by kernel_rfl)
      conv at g29 => rhs; whnf
      have g30 := hI.kept 30 (by kernel_rfl)
      conv at g30 => rhs; whnf
      have g31 := hI.kept 31 (by kernel_rfl)
      conv at g31 => rhs; whnf
      have g32 := hI.kept 32 (by kernel_rfl)
      conv at g32 => rhs; whnf
      have g33 := hI.kept 33 (by kernel_rfl)
      conv at g33 => rhs; whnf
      have g34 := hI.kept 34 (by kernel_rfl)
      conv at g34 => rhs; whnf
      have g35 := hI.kept 35 (by kernel_rfl)
      conv at g35 => rhs; whnf
      have g36 := hI.kept 36 (by kernel_rfl)
      conv at g36 => rhs; whnf
      have g37 := hI.kept 37 (by kernel_rfl)
      conv at g37 => rhs; whnf
      have g38 := hI.kept 38 (by kernel_rfl)
      conv at g38 => rhs; whnf
      have g39 := hI.kept 39 (by kernel_rfl)
      conv at g39 => rhs; whnf
      have g40 := hI.kept 40 (by kernel_rfl)
      conv at g40 => rhs; whnf
      have g41 := hI.kept 41 (by kernel_rfl)
      conv at g41 => rhs; whnf
      have g42 := hI.kept 42 (by kernel_rfl)
      conv at g42 => rhs; whnf
      have g43 := hI.kept 43 (by kernel_rfl)
      conv at g43 => rhs; whnf
      have g44 := hI.kept 44 (by kernel_rfl)
      conv at g44 => rhs; whnf
      have g45 := hI.kept 45 (by kernel_rfl)
      conv at g45 => rhs; whnf
      have g46 := hI.kept 46 (by kernel_rfl)
      conv at g46 => rhs; whnf
      have g47 := hI.kept 47 (by kernel_rfl)
      conv at g47 => rhs; whnf
      have g48 := hI.kept 48 (by kernel_rfl)
      conv at g48 => rhs; whnf
      have g49 := hI.kept 49 (by kernel_rfl)
      conv at g49 => rhs; whnf
      have hsz : act.tmps.size = 55 := hI.size.trans (by kernel_rfl)
      have hd := hI.defers
      clear hI hall K0x0 K0x1 K0x2 K0x3 K0x4 V0x0 V0x1 V0x2 V0x3 V0x4
      obtain ⟨tt, dd⟩ := act
      simp only at g0 g1 g2 g3 g4 g5 g6 g7 g8 g9 g10 g11 g12 g13 g14 g15 g16 g17 g18 g19 g20 g21 g22 g23 g24 g25 g26 g27 g28 g29 g30 g31 g32 g33 g34 g35 g36 g37 g38 g39 g40 g41 g42 g43 g44 g45 g46 g47 g48 g49 g54 hsz hd
      subst hd
      have hl : tt = #[tt[0]?.getD undef, tt[1]?.getD undef, tt[2]?.getD undef, tt[3]?.getD undef, tt[4]?.getD undef, tt[5]?.getD undef, tt[6]?.getD undef, tt[7]?.getD undef, tt[8]?.getD undef, tt[9]?.getD undef, tt[10]?.getD undef, tt[11]?.getD undef, tt[12]?.getD undef, tt[13]?.getD undef, tt[14]?.getD undef, tt[15]?.getD undef, tt[16]?.getD undef, tt[17]?.getD undef, tt[18]?.getD undef, tt[19]?.getD undef, tt[20]?.getD undef, tt[21]?.getD undef, tt[22]?.getD undef, tt[23]?.getD undef, tt[24]?.getD undef, tt[25]?.getD undef, tt[26]?.getD undef, tt[27]?.getD undef, tt[28]?.getD undef, tt[29]?.getD undef, tt[30]?.getD undef, tt[31]?.getD undef, tt[32]?.getD undef, tt[33]?.getD undef, tt[34]?.getD undef, tt[35]?.getD undef, tt[36]?.getD undef, tt[37]?.getD undef, tt[38]?.getD undef, tt[39]?.getD undef, tt[40]?.getD undef, tt[41]?.getD undef, tt[42]?.getD undef, tt[43]?.getD undef, tt[44]?.getD undef, tt[45]?.getD undef, tt[46]?.getD undef, tt[47]?.getD undef, tt[48]?.getD undef, tt[49]?.getD undef, tt[50]?.getD undef, tt[51]?.getD undef, tt[52]?.getD undef, tt[53]?.getD undef, tt[54]?.getD undef] := (arr_lit hsz).trans rfl
      rw [g0, g1, g2, g3, g4, g5, g6, g7, g8, g9, g10, g11, g12, g13, g14, g15, g16, g17, g18, g19, g20, g21, g22, g23, g24, g25, g26, g27, g28, g29, g30, g31, g32, g33, g34, g35, g36, g37, g38, g39, g40, g41, g42, g43, g44, g45, g46, g47, g48, g49, g54] at hl
      clear g0 g1 g2 g3 g4 g5 g6 g7 g8 g9 g10 g11 g12 g13 g14 g15 g16 g17 g18 g19 g20 g21 g22 g23 g24 g25 g26 g27 g28 g29 g30 g31 g32 g33 g34 g35 g36 g37 g38 g39 g40 g41 g42 g43 g44 g45 g46 g47 g48 g49 g54 hsz
      generalize tt[50]?.getD undef = y50 at hl
      generalize tt[51]?.getD undef = y51 at hl
      generalize tt[52]?.getD undef = y52 at hl
      generalize tt[53]?.getD undef = y53 at hl
      subst hl
      obtain ⟨wd8, hww⟩ : ∃ x, x = w3 := ⟨_, rfl⟩
      rw [← hww] at hB ⊢
      clear hww
      have B8 : Hid (Below w.heap.size w wd8) := Lib.hid (below_of B7.out B7.out.size hB)
      have Z8 : Hid (wd7.heap.size ≤ wd8.heap.size) := Lib.hid hB.size
      have K0_8 : Hid (BlkL wd8 (w.heap.size) [.slice X0 fx0.length cx0, .slice Y0 fy0.length cy0, .float .f32 fr0, .float .f32 fd0, .float .f32 fs0]) := Lib.hid (K0_7.out.below hB)
      have Xx0_4 : Hid (OwnR2 wd8 wd3.heap.size (some ⟨x01, 0, none⟩) (some ⟨x02, 0, none⟩) x01 x02 fx0 fy0) := Lib.hid (Xx0_3.out.below hB)
      have V0_3 : Hid (BlkL wd8 (wd4.heap.size) [.slice (some ⟨x01, 0, none⟩) fx0.length fx0.length, .slice (some ⟨x02, 0, none⟩) fy0.length fy0.length, .float .f32 fr0, .float .f32 fd0, .float .f32 fs0]) := Lib.hid (V0_2.out.below hB)
      clear K0_7 Xx0_3 V0_2
      clear hB
      obtain ⟨K0x0, K0x1, K0x2, K0x3, K0x4⟩ := K0_8.out.five
      obtain ⟨V0x0, V0x1, V0x2, V0x3, V0x4⟩ := V0_3.out.five
      go_wp2
      go_ret
      exact ⟨rfl, B8.out⟩
  · skip
    obtain ⟨w0, hw0⟩ : ∃ x, x = (w.alloc (.cells #[.slice X0 fx0.length cx0, .slice Y0 fy0.length cy0, .float .f32 fr0, .float .f32 fd0, .float .f32 fs0] 25)) := ⟨_, rfl⟩
    have B0 : Hid (Below w.heap.size w w0) := Lib.hid (by rw [hw0]; exact (Below.refl _ _).alloc (Nat.le_refl _) _)
    have Z0 : Hid (w0.heap.size = w.heap.size + 1) := Lib.hid (by rw [hw0]; simp)
    have K0 : Hid (BlkL w0 (w.heap.size) [.slice X0 fx0.length cx0, .slice Y0 fy0.length cy0, .float .f32 fr0, .float .f32 fd0, .float .f32 fs0]) := Lib.hid (by rw [hw0]; exact blkL_at w #[.slice X0 fx0.length cx0, .slice Y0 fy0.length cy0, .float .f32 fr0, .float .f32 fd0, .float .f32 fs0] 25 rfl)
    go_enter Try.func6, Try.ntmps6
    go_wp2_with fail
    rw [← hw0]
    clear hw0
    obtain ⟨K0x0, K0x1, K0x2, K0x3, K0x4⟩ := K0.out.five
    go_wp2_with fail
    refine (l_szFarm_no X0 Y0 _ cx0 _ cy0 fr0 fd0 fs0 _ _ (by omega) (by omega) (by omega) ma0 ml0).mono ?_
    rintro e wd1 ⟨rfl, b⟩
    have B1 : Hid (Below w.heap.size w wd1) := Lib.hid (below_of B0.out B0.out.size b)
    have Z1 : Hid (w0.heap.size ≤ wd1.heap.size) := Lib.hid b.size
    have K0_1 : Hid (BlkL wd1 (w.heap.size) [.slice X0 fx0.length cx0, .slice Y0 fy0.length cy0, .float .f32 fr0, .float .f32 fd0, .float .f32 fs0]) := Lib.hid (K0.out.below b)
    clear K0x0 K0x1 K0x2 K0x3 K0x4
    clear K0
    clear b
    obtain ⟨K0x0, K0x1, K0x2, K0x3, K0x4⟩ := K0_1.out.five
    go_wp2
    go_ret
    exact ⟨rfl, B1.out⟩
end Go.Proofs.Ytjmhfhoohlgbiaa
