/- The law FnExactProfileText. No statement is proved here. -/
import Derived.Test.YtpjgmfkjpkeohaaDoorProT
import Derived.Test.YtpjgmfkjpkeohaaDoorMarkR
import Derived.Test.YtpjgmfkjpkeohaaDoorOpenWP
namespace Go.Proofs.YtpjgmfkjpkeohaaDoor
open Go Go.RowKit
set_option maxHeartbeats 16000000 in
set_option maxRecDepth 100000 in
theorem law_FnExactProfileText (A0 L0 D0 : Option Addr) (ca0 cl0 cd0 : Nat) (a0 l0 d0 : List Nat) (w : World) (h0 : Pf w A0 L0 D0 a0 l0 d0) (ma0 : a0.length ≤ 9223372036854775807) (ml0 : l0.length ≤ 9223372036854775807) (md0 : d0.length ≤ 9223372036854775807) (hw0 : WordsP a0 l0 d0) (hT : T64 w) :
    Calls Tryd.prog 3 #[.agg #[.slice A0 a0.length ca0, .slice L0 l0.length cl0, .slice D0 d0.length cd0]] w fun e w' => e = .returned (.bool true) ∧ Below w.heap.size w w' := by
  have HP0 := Lib.hid h0
  clear h0
  have HW0 := Lib.hid hw0
  clear hw0
  have HT := Lib.hid hT
  clear hT
  by_cases hn0 : a0.length + l0.length + d0.length ≤ 1048576
  · skip
    have HN0 : Hid (Few a0 l0 d0) := Lib.hid (by unfold Few; omega)
    obtain ⟨w0, hw0⟩ : ∃ x, x = (w.alloc (.cells #[.slice A0 a0.length ca0, .slice L0 l0.length cl0, .slice D0 d0.length cd0] 24)) := ⟨_, rfl⟩
    have B0 : Hid (Below w.heap.size w w0) := Lib.hid (by rw [hw0]; exact (Below.refl _ _).alloc (Nat.le_refl _) _)
    have Z0 : Hid (w0.heap.size = w.heap.size + 1) := Lib.hid (by rw [hw0]; simp)
    have K0 : Hid (BlkL w0 (w.heap.size) [.slice A0 a0.length ca0, .slice L0 l0.length cl0, .slice D0 d0.length cd0]) := Lib.hid (by rw [hw0]; exact blkL_at w #[.slice A0 a0.length ca0, .slice L0 l0.length cl0, .slice D0 d0.length cd0] 24 rfl)
    go_enter Tryd.func3, Tryd.ntmps3
    go_wp2_with fail
    rw [← hw0]
    clear hw0
    have hq0 : (0 : Int) ≤ 1048576 - (a0.length : Int) - (l0.length : Int) - (d0.length : Int) := by omega
    obtain ⟨K0x0, K0x1, K0x2⟩ := K0.out.three
    go_wp2_with fail
    refine (l_szProfile_yes A0 L0 D0 _ ca0 _ cl0 _ cd0 _ _ (by omega) (by omega)).mono ?_
    rintro e wd1 ⟨rfl, b⟩
    have B1 : Hid (Below w.heap.size w wd1) := Lib.hid (below_of B0.out B0.out.size b)
    have Z1 : Hid (w0.heap.size ≤ wd1.heap.size) := Lib.hid b.size
    have K0_1 : Hid (BlkL wd1 (w.heap.size) [.slice A0 a0.length ca0, .slice L0 l0.length cl0, .slice D0 d0.length cd0]) := Lib.hid (K0.out.below b)
    clear K0x0 K0x1 K0x2
    clear K0
    clear b
    obtain ⟨K0x0, K0x1, K0x2⟩ := K0_1.out.three
    go_wp2_with fail
    refine (l_toProfile A0 L0 D0 ca0 cl0 cd0 a0 l0 d0 _ (HP0.out.below B1.out) HN0.out).mono ?_
    rintro e wd2 ⟨p01, p02, p03, rfl, ho, b⟩
    have B2 : Hid (Below w.heap.size w wd2) := Lib.hid (below_of B1.out B1.out.size b)
    have Z2 : Hid (wd1.heap.size ≤ wd2.heap.size) := Lib.hid b.size
    have K0_2 : Hid (BlkL wd2 (w.heap.size) [.slice A0 a0.length ca0, .slice L0 l0.length cl0, .slice D0 d0.length cd0]) := Lib.hid (K0_1.out.below b)
    clear K0x0 K0x1 K0x2
    clear K0_1
    have Xp0 : Hid (OwnP wd2 wd1.heap.size p01 p02 p03 a0 l0 d0) := Lib.hid (ho)
    clear ho b
    obtain ⟨K0x0, K0x1, K0x2⟩ := K0_2.out.three
    go_wp2_with fail
    refine (s_ProfileText _ _ _ _ _ _ a0 l0 d0 _ Xp0.out.pf HN0.out ⟨words_mem HW0.out.1, words_mem HW0.out.2.1, words_mem HW0.out.2.2⟩).mono ?_
    rintro e wd3 ⟨rfl, b⟩
    have B3 : Hid (Below w.heap.size w wd3) := Lib.hid (below_of B2.out B2.out.size b)
    have Z3 : Hid (wd2.heap.size ≤ wd3.heap.size) := Lib.hid b.size
    have K0_3 : Hid (BlkL wd3 (w.heap.size) [.slice A0 a0.length ca0, .slice L0 l0.length cl0, .slice D0 d0.length cd0]) := Lib.hid (K0_2.out.below b)
    have Xp0_1 : Hid (OwnP wd3 wd1.heap.size p01 p02 p03 a0 l0 d0) := Lib.hid (Xp0.out.below b)
    clear K0x0 K0x1 K0x2
    clear K0_2 Xp0
    clear b
    obtain ⟨K0x0, K0x1, K0x2⟩ := K0_3.out.three
    go_wp2_with fail
    refine (l_toProfile A0 L0 D0 ca0 cl0 cd0 a0 l0 d0 _ (HP0.out.below B3.out) HN0.out).mono ?_
    rintro e wd4 ⟨x01, x02, x03, rfl, ho, b⟩
    have B4 : Hid (Below w.heap.size w wd4) := Lib.hid (below_of B3.out B3.out.size b)
    have Z4 : Hid (wd3.heap.size ≤ wd4.heap.size) := Lib.hid b.size
    have K0_4 : Hid (BlkL wd4 (w.heap.size) [.slice A0 a0.length ca0, .slice L0 l0.length cl0, .slice D0 d0.length cd0]) := Lib.hid (K0_3.out.below b)
    clear K0x0 K0x1 K0x2
    clear K0_3
    have Xx0 : Hid (OwnP wd4 wd3.heap.size x01 x02 x03 a0 l0 d0) := Lib.hid (ho)
    clear ho b
    obtain ⟨wd5, hw5⟩ : ∃ x, x = wd4.alloc (.cells #[.slice (some ⟨x01, 0, none⟩) a0.length a0.length, .slice (some ⟨x02, 0, none⟩) l0.length l0.length, .slice (some ⟨x03, 0, none⟩) d0.length d0.length] 28) := ⟨_, rfl⟩
    have b : Below wd4.heap.size wd4 wd5 := by rw [hw5]; exact (Below.refl _ _).alloc (Nat.le_refl _) _
    have Y5 : Hid (wd4.heap.size + 1 ≤ wd5.heap.size) := Lib.hid (by rw [hw5]; simp)
    have B5 : Hid (Below w.heap.size w wd5) := Lib.hid (below_of B4.out B4.out.size b)
    have Z5 : Hid (wd4.heap.size ≤ wd5.heap.size) := Lib.hid b.size
    have K0_5 : Hid (BlkL wd5 (w.heap.size) [.slice A0 a0.length ca0, .slice L0 l0.length cl0, .slice D0 d0.length cd0]) := Lib.hid (K0_4.out.below b)
    have Xx0_1 : Hid (OwnP wd5 wd3.heap.size x01 x02 x03 a0 l0 d0) := Lib.hid (Xx0.out.below b)
    have V0 : Hid (BlkL wd5 (wd4.heap.size) [.slice (some ⟨x01, 0, none⟩) a0.length a0.length, .slice (some ⟨x02, 0, none⟩) l0.length l0.length, .slice (some ⟨x03, 0, none⟩) d0.length d0.length]) := Lib.hid (by rw [hw5]; exact blkL_at wd4 #[.slice (some ⟨x01, 0, none⟩) a0.length a0.length, .slice (some ⟨x02, 0, none⟩) l0.length l0.length, .slice (some ⟨x03, 0, none⟩) d0.length d0.length] 28 rfl)
    clear b
    have K0y0 := fun o => ((K0_4.out.alloc o).2 0 _ rfl).1
    have K0y1 := fun o => ((K0_4.out.alloc o).2 1 _ rfl).1
    have K0y2 := fun o => ((K0_4.out.alloc o).2 2 _ rfl).1
    go_wp2_with fail
    rw [← hw5]
    clear hw5
    clear K0y0 K0y1 K0y2
    clear K0_4 Xx0
    obtain ⟨K0x0, K0x1, K0x2⟩ := K0_5.out.three
    obtain ⟨V0x0, V0x1, V0x2⟩ := V0.out.three
    go_wp2_with fail
    refine (i_ProfileText _ _ _ _ _ _ a0 l0 d0 _ Xx0_1.out.pf HN0.out ⟨words_mem HW0.out.1, words_mem HW0.out.2.1, words_mem HW0.out.2.2⟩ (HT.out.below B5.out)).mono ?_
    rintro e wd6 ⟨rfl, b⟩
    have B6 : Hid (Below w.heap.size w wd6) := Lib.hid (below_of B5.out B5.out.size b)
    have Z6 : Hid (wd5.heap.size ≤ wd6.heap.size) := Lib.hid b.size
    have K0_6 : Hid (BlkL wd6 (w.heap.size) [.slice A0 a0.length ca0, .slice L0 l0.length cl0, .slice D0 d0.length cd0]) := Lib.hid (K0_5.out.below b)
    have Xx0_2 : Hid (OwnP wd6 wd3.heap.size x01 x02 x03 a0 l0 d0) := Lib.hid (Xx0_1.out.below b)
    have V0_1 : Hid (BlkL wd6 (wd4.heap.size) [.slice (some ⟨x01, 0, none⟩) a0.length a0.length, .slice (some ⟨x02, 0, none⟩) l0.length l0.length, .slice (some ⟨x03, 0, none⟩) d0.length d0.length]) := Lib.hid (V0.out.below b)
    clear K0x0 K0x1 K0x2 V0x0 V0x1 V0x2
    clear K0_5 Xx0_1 V0
    clear b
    obtain ⟨K0x0, K0x1, K0x2⟩ := K0_6.out.three
    obtain ⟨V0x0, V0x1, V0x2⟩ := V0_1.out.three
    go_wp2_with fail
    clear K0x0 K0x1 K0x2 V0x0 V0x1 V0x2
    refine wp_region_inv4 (fun iq wv v => match iq with
      | 0 => v = .agg #[.slice (some ⟨x01, 0, none⟩) a0.length a0.length, .slice (some ⟨x02, 0, none⟩) l0.length l0.length, .slice (some ⟨x03, 0, none⟩) d0.length d0.length]
      | 1 => v = .agg #[.slice A0 a0.length ca0, .slice L0 l0.length cl0, .slice D0 d0.length cd0]
      | 2 => ∃ q1 q2 q3, v = .agg #[.slice (some ⟨q1, 0, none⟩) a0.length a0.length, .slice (some ⟨q2, 0, none⟩) l0.length l0.length, .slice (some ⟨q3, 0, none⟩) d0.length d0.length] ∧ OwnP wv wd6.heap.size q1 q2 q3 a0 l0 d0
      | 3 => v = .bool true
      | 4 => v = .bool false
      | _ => False) (fun _ ww => Below wd6.heap.size wd6 ww) (fun w w' => Below w.heap.size w w') ?hmono (by kernel_rfl) (by kernel_rfl) ((Below.refl _ _).drew) ?hop ?hend
    case hmono =>
      intro i wa wb v hR hV
      rcases i with _ | _ | _ | _ | _ | i
      · exact hV
      · exact hV
      · obtain ⟨q1, q2, q3, rfl, ho⟩ := hV; exact ⟨q1, q2, q3, rfl, ho.below hR⟩
      · exact hV
      · exact hV
      · exact hV
    case hop =>
      intro q o hq listed act w3 hI hnot hcl hall
      have hB := hI.cls
      obtain ⟨K0x0, K0x1, K0x2⟩ := (K0_6.out.below hB).three
      obtain ⟨V0x0, V0x1, V0x2⟩ := (V0_1.out.below hB).three
      rcases q with _ | _ | _ | _ | _ | q
      · simp at hq; subst hq
        have g6 : act.tmps[6]?.getD undef = .pointer (some ⟨wd4.heap.size, 0, none⟩) := hI.kept 6 (by kernel_rfl)
        clear hI hall hnot hcl
        refine .inl ⟨wanted_none rfl, ?_⟩
        unfold Oper.wp
        go_simp
        all_goals first | exact ⟨_, rfl, Below.refl _ _, rfl, hB⟩ | exact ⟨Below.refl _ _, hB⟩ | exact Below.refl _ _
      · simp at hq; subst hq
        have g1 : act.tmps[1]?.getD undef = .pointer (some ⟨w.heap.size, 0, none⟩) := hI.kept 1 (by kernel_rfl)
        clear hI hall hnot hcl
        refine .inl ⟨wanted_none rfl, ?_⟩
        unfold Oper.wp
        go_simp
        all_goals first | exact ⟨_, rfl, Below.refl _ _, rfl, hB⟩ | exact ⟨Below.refl _ _, hB⟩ | exact Below.refl _ _
      · simp at hq; subst hq
        have g36 : act.tmps[36]?.getD undef = .agg #[.slice A0 a0.length ca0, .slice L0 l0.length cl0, .slice D0 d0.length cd0] := hI.has 1 36 rfl (hall ⟨1, .data⟩ (by simp) rfl)
        clear hI hall hnot hcl
        refine .inl ⟨wanted_none rfl, ?_⟩
        unfold Oper.wp
        go_simp
        refine (l_toProfile A0 L0 D0 ca0 cl0 cd0 a0 l0 d0 _ (HP0.out.below (below_of B6.out B6.out.size hB)) HN0.out).mono ?_
        rintro e w4 ⟨q1, q2, q3, rfl, ho, b4⟩
        exact ⟨_, rfl, b4, ⟨q1, q2, q3, rfl, (⟨by have := ho.1; have := hB.size; omega, ho.2⟩ : OwnP _ _ _ _ _ _ _ _)⟩, below_of hB hB.size b4⟩
      · simp at hq; subst hq
        have g35 : act.tmps[35]?.getD undef = .agg #[.slice (some ⟨x01, 0, none⟩) a0.length a0.length, .slice (some ⟨x02, 0, none⟩) l0.length l0.length, .slice (some ⟨x03, 0, none⟩) d0.length d0.length] := hI.has 0 35 rfl (hall ⟨0, .data⟩ (by simp) rfl)
        obtain ⟨q12, q22, q32, g37, h2a⟩ := hI.has 2 37 rfl (hall ⟨2, .data⟩ (by simp) rfl)
        clear hI hall hnot hcl
        refine .inl ⟨wanted_none rfl, ?_⟩
        unfold Oper.wp
        go_simp
        refine (l_eqProfile _ _ _ _ _ _ _ _ _ _ _ _ a0 l0 d0 _ (Xx0_2.out.below hB).pf (OwnP.pf h2a) HN0.out).mono ?_
        rintro e w4 ⟨rfl, b4⟩
        exact ⟨_, rfl, b4, rfl, below_of hB hB.size b4⟩
      · simp at hq; subst hq
        have g38 : act.tmps[38]?.getD undef = .bool true := hI.has 3 38 rfl (hall ⟨3, .data⟩ (by simp) rfl)
        clear hI hall hnot hcl
        refine .inl ⟨wanted_none rfl, ?_⟩
        unfold Oper.wp
        go_simp
        all_goals first | exact ⟨_, rfl, Below.refl _ _, rfl, hB⟩ | exact ⟨Below.refl _ _, hB⟩ | exact Below.refl _ _
      · simp at hq
    case hend =>
      intro listed act w3 hI hall
      have hB := hI.cls
      obtain ⟨K0x0, K0x1, K0x2⟩ := (K0_6.out.below hB).three
      obtain ⟨V0x0, V0x1, V0x2⟩ := (V0_1.out.below hB).three
      have g39 : act.tmps[39]?.getD undef = .bool false := hI.has 4 39 rfl (hall 4 (by decide))
      have g0 := hI.kept 0 (by kernel_rfl)
      conv at g0 => rhs; whnf
      have g1 := hI.kept 1 (by kernel_rfl)
      conv at g1 => rhs; whnf
      have g2 := hI.kept 2 (by kernel_rfl)
      conv at g2 => rhs; whnf
      have g3 := hI.kept 3 (by kernel_rfl)
      conv at g3 => rhs; whnf
      have g4 := hI.kept 4 (by kernel_rfl)
      conv at g4 => rhs; whnf
      have g5 := hI.kept 5 (by kernel_rfl)
      conv at g5 => rhs; whnf
      have g6 := hI.kept 6 (by kernel_rfl)
      conv at g6 => rhs; whnf
      have g7 := hI.kept 7 (by kernel_rfl)
      conv at g7 => rhs; whnf
      have g8 := hI.kept 8 (by kernel_rfl)
      conv at g8 => rhs; whnf
      have g9 := hI.kept 9 (by kernel_rfl)
      conv at g9 => rhs; whnf
      have g10 := hI.kept 10 (by kernel_rfl)
      conv at g10 => rhs; whnf
      have g11 := hI.kept 11 (by kernel_rfl)
      conv at g11 => rhs; whnf
      have g12 := hI.kept 12 (by kernel_rfl)
      conv at g12 => rhs; whnf
      have g13 := hI.kept 13 (by kernel_rfl)
      conv at g13 => rhs; whnf
      have g14 := hI.kept 14 (by kernel_rfl)
      conv at g14 => rhs; whnf
      have g15 := hI.kept 15 (by kernel_rfl)
      conv at g15 => rhs; whnf
      have g16 := hI.kept 16 (by kernel_rfl)
      conv at g16 => rhs; whnf
      have g17 := hI.kept 17 (by kernel_rfl)
      conv at g17 => rhs; whnf
      have g18 := hI.kept 18 (by kernel_rfl)
      conv at g18 => rhs; whnf
      have g19 := hI.kept 19 (by kernel_rfl)
      conv at g19 => rhs; whnf
      have g20 := hI.kept 20 (by kernel_rfl)
      conv at g20 => rhs; whnf
      have g21 := hI.kept 21 (by kernel_rfl)
      conv at g21 => rhs; whnf
      have g22 := hI.kept 22 (by kernel_rfl)
      conv at g22 => rhs; whnf
      have g23 := hI.kept 23 (by kernel_rfl)
      conv at g23 => rhs; whnf
      have g24 := hI.kept 24 (by kernel_rfl)
      conv at g24 => rhs; whnf
      have g25 := hI.kept 25 (by kernel_rfl)
      conv at g25 => rhs; whnf
      have g26 := hI.kept 26 (by kernel_rfl)
      conv at g26 => rhs; whnf
      have g27 := hI.kept 27 (by kernel_rfl)
      conv at g27 => rhs; whnf
      have g28 := hI.kept 28 (by kernel_rfl)
      conv at g28 => rhs; whnf
      have g29 := hI.kept 29 (by kernel_rfl)
      conv at g29 => rhs; whnf
      have g30 := hI.kept 30 (by kernel_rfl)
      conv at g30 => rhs; whnf
      have g31 := hI.kept 31 (by kernel_rfl)
      conv at g31 => rhs; whnf
      have g32 := hI.kept 32 (by kernel_rfl)
      conv at g32 => rhs; whnf
      have g33 := hI.kept 33 (by kernel_rfl)
      conv at g33 => rhs; whnf
      have g34 := hI.kept 34 (by kernel_rfl)
      conv at g34 => rhs; whnf
      have hsz : act.tmps.size = 40 := hI.size.trans (by kernel_rfl)
      have hd := hI.defers
      clear hI hall K0x0 K0x1 K0x2 V0x0 V0x1 V0x2
      obtain ⟨tt, dd⟩ := act
      simp only at g0 g1 g2 g3 g4 g5 g6 g7 g8 g9 g10 g11 g12 g13 g14 g15 g16 g17 g18 g19 g20 g21 g22 g23 g24 g25 g26 g27 g28 g29 g30 g31 g32 g33 g34 g39 hsz hd
      subst hd
      have hl : tt = #[tt[0]?.getD undef, tt[1]?.getD undef, tt[2]?.getD undef, tt[3]?.getD undef, tt[4]?.getD undef, tt[5]?.getD undef, tt[6]?.getD undef, tt[7]?.getD undef, tt[8]?.getD undef, tt[9]?.getD undef, tt[10]?.getD undef, tt[11]?.getD undef, tt[12]?.getD undef, tt[13]?.getD undef, tt[14]?.getD undef, tt[15]?.getD undef, tt[16]?.getD undef, tt[17]?.getD undef, tt[18]?.getD undef, tt[19]?.getD undef, tt[20]?.getD undef, tt[21]?.getD undef, tt[22]?.getD undef, tt[23]?.getD undef, tt[24]?.getD undef, tt[25]?.getD undef, tt[26]?.getD undef, tt[27]?.getD undef, tt[28]?.getD undef, tt[29]?.getD undef, tt[30]?.getD undef, tt[31]?.getD undef, tt[32]?.getD undef, tt[33]?.getD undef, tt[34]?.getD undef, tt[35]?.getD undef, tt[36]?.getD undef, tt[37]?.getD undef, tt[38]?.getD undef, tt[39]?.getD undef] := (arr_lit hsz).trans rfl
      rw [g0, g1, g2, g3, g4, g5, g6, g7, g8, g9, g10, g11, g12, g13, g14, g15, g16, g17, g18, g19, g20, g21, g22, g23, g24, g25, g26, g27, g28, g29, g30, g31, g32, g33, g34, g39] at hl
      clear g0 g1 g2 g3 g4 g5 g6 g7 g8 g9 g10 g11 g12 g13 g14 g15 g16 g17 g18 g19 g20 g21 g22 g23 g24 g25 g26 g27 g28 g29 g30 g31 g32 g33 g34 g39 hsz
      generalize tt[35]?.getD undef = y35 at hl
      generalize tt[36]?.getD undef = y36 at hl
      generalize tt[37]?.getD undef = y37 at hl
      generalize tt[38]?.getD undef = y38 at hl
      subst hl
      obtain ⟨wd7, hww⟩ : ∃ x, x = w3 := ⟨_, rfl⟩
      rw [← hww] at hB ⊢
      clear hww
      have B7 : Hid (Below w.heap.size w wd7) := Lib.hid (below_of B6.out B6.out.size hB)
      have Z7 : Hid (wd6.heap.size ≤ wd7.heap.size) := Lib.hid hB.size
      have K0_7 : Hid (BlkL wd7 (w.heap.size) [.slice A0 a0.length ca0, .slice L0 l0.length cl0, .slice D0 d0.length cd0]) := Lib.hid (K0_6.out.below hB)
      have Xx0_3 : Hid (OwnP wd7 wd3.heap.size x01 x02 x03 a0 l0 d0) := Lib.hid (Xx0_2.out.below hB)
      have V0_2 : Hid (BlkL wd7 (wd4.heap.size) [.slice (some ⟨x01, 0, none⟩) a0.length a0.length, .slice (some ⟨x02, 0, none⟩) l0.length l0.length, .slice (some ⟨x03, 0, none⟩) d0.length d0.length]) := Lib.hid (V0_1.out.below hB)
      clear K0_6 Xx0_2 V0_1
      clear hB
      obtain ⟨K0x0, K0x1, K0x2⟩ := K0_7.out.three
      obtain ⟨V0x0, V0x1, V0x2⟩ := V0_2.out.three
      go_wp2
      go_ret
      exact ⟨rfl, B7.out⟩
  · skip
    obtain ⟨w0, hw0⟩ : ∃ x, x = (w.alloc (.cells #[.slice A0 a0.length ca0, .slice L0 l0.length cl0, .slice D0 d0.length cd0] 24)) := ⟨_, rfl⟩
    have B0 : Hid (Below w.heap.size w w0) := Lib.hid (by rw [hw0]; exact (Below.refl _ _).alloc (Nat.le_refl _) _)
    have Z0 : Hid (w0.heap.size = w.heap.size + 1) := Lib.hid (by rw [hw0]; simp)
    have K0 : Hid (BlkL w0 (w.heap.size) [.slice A0 a0.length ca0, .slice L0 l0.length cl0, .slice D0 d0.length cd0]) := Lib.hid (by rw [hw0]; exact blkL_at w #[.slice A0 a0.length ca0, .slice L0 l0.length cl0, .slice D0 d0.length cd0] 24 rfl)
    go_enter Tryd.func3, Tryd.ntmps3
    go_wp2_with fail
    rw [← hw0]
    clear hw0
    obtain ⟨K0x0, K0x1, K0x2⟩ := K0.out.three
    go_wp2_with fail
    refine (l_szProfile_no A0 L0 D0 _ ca0 _ cl0 _ cd0 _ _ (by omega) (by omega) (by omega) ma0 ml0 md0).mono ?_
    rintro e wd1 ⟨rfl, b⟩
    have B1 : Hid (Below w.heap.size w wd1) := Lib.hid (below_of B0.out B0.out.size b)
    have Z1 : Hid (w0.heap.size ≤ wd1.heap.size) := Lib.hid b.size
    have K0_1 : Hid (BlkL wd1 (w.heap.size) [.slice A0 a0.length ca0, .slice L0 l0.length cl0, .slice D0 d0.length cd0]) := Lib.hid (K0.out.below b)
    clear K0x0 K0x1 K0x2
    clear K0
    clear b
    obtain ⟨K0x0, K0x1, K0x2⟩ := K0_1.out.three
    go_wp2
    go_ret
    exact ⟨rfl, B1.out⟩
end Go.Proofs.YtpjgmfkjpkeohaaDoor
