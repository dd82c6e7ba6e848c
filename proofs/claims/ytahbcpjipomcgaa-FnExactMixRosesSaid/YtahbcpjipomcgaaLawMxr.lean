/- The law FnExactMixRoses. No statement is proved here. -/
import Derived.Test.YtahbcpjipomcgaaMxrS
import Derived.Test.YtahbcpjipomcgaaKeepS
import Derived.Test.YtahbcpjipomcgaaMarkR
namespace Go.Proofs.Ytahbcpjipomcgaa
open Go Go.RowKit
set_option maxHeartbeats 16000000 in
set_option maxRecDepth 100000 in
theorem law_FnExactMixRoses (A0 L0 : Option Addr) (ca0 cl0 : Nat) (a0 l0 : List Nat) (A1 L1 : Option Addr) (ca1 cl1 : Nat) (a1 l1 : List Nat) (u2 : Nat) (w : World) (h0 : Rs w A0 L0 a0 l0) (ma0 : a0.length ≤ 9223372036854775807) (ml0 : l0.length ≤ 9223372036854775807) (h1 : Rs w A1 L1 a1 l1) (ma1 : a1.length ≤ 9223372036854775807) (ml1 : l1.length ≤ 9223372036854775807) (_hu2 : u2 < words .f32) :
    Calls Try.prog 3 #[.agg #[.slice A0 a0.length ca0, .slice L0 l0.length cl0], .agg #[.slice A1 a1.length ca1, .slice L1 l1.length cl1], .float .f32 u2] w fun e w' => e = .returned (.bool true) ∧ Below w.heap.size w w' := by
  have HP0 := Lib.hid h0
  clear h0
  have HP1 := Lib.hid h1
  clear h1
  by_cases hn0 : a0.length + l0.length ≤ 1048576
  · skip
    by_cases hn1 : a0.length + l0.length + (a1.length + l1.length) ≤ 1048576
    · skip
      have HN0 : Hid (FewS a0 l0) := Lib.hid (by unfold FewS; omega)
      have HN1 : Hid (FewS a1 l1) := Lib.hid (by unfold FewS; omega)
      have HF : Hid (FewS (gLn (mgO a0 l0 a1 l1 u2) (mxL a0 a1 u2)) (gLn (mgO a0 l0 a1 l1 u2) (mxL l0 l1 u2))) := Lib.hid (mg_few a0 l0 a1 l1 u2)
      obtain ⟨w0, hw0⟩ : ∃ x, x = ((w.alloc (.cells #[.slice A0 a0.length ca0, .slice L0 l0.length cl0] 24)).alloc (.cells #[.slice A1 a1.length ca1, .slice L1 l1.length cl1] 24)) := ⟨_, rfl⟩
      have B0 : Hid (Below w.heap.size w w0) := Lib.hid (by rw [hw0]; exact ((Below.refl _ _).alloc (Nat.le_refl _) _).alloc (by simp <;> omega) _)
      have Z0 : Hid (w0.heap.size = w.heap.size + 2) := Lib.hid (by rw [hw0]; simp)
      have K0 : Hid (BlkL w0 (w.heap.size) [.slice A0 a0.length ca0, .slice L0 l0.length cl0]) := Lib.hid (by rw [hw0]; exact (blkL_at w #[.slice A0 a0.length ca0, .slice L0 l0.length cl0] 24 rfl).alloc _)
      have K1 : Hid (BlkL w0 (w.heap.size + 1) [.slice A1 a1.length ca1, .slice L1 l1.length cl1]) := Lib.hid (by rw [hw0]; exact blkL_at (w.alloc (.cells #[.slice A0 a0.length ca0, .slice L0 l0.length cl0] 24)) #[.slice A1 a1.length ca1, .slice L1 l1.length cl1] 24 (by simp))
      go_enter Try.func3, Try.ntmps3
      go_wp2_with fail
      rw [← hw0]
      clear hw0
      have hq0 : (0 : Int) ≤ 1048576 - (a0.length : Int) - (l0.length : Int) := by omega
      have hq1 : (0 : Int) ≤ 1048576 - (a0.length : Int) - (l0.length : Int) - (a1.length : Int) - (l1.length : Int) := by omega
      obtain ⟨K0x0, K0x1⟩ := K0.out.two
      obtain ⟨K1x0, K1x1⟩ := K1.out.two
      go_wp2_with fail
      refine (l_szRose_yes A0 L0 _ ca0 _ cl0 _ _ (by omega) (by omega)).mono ?_
      rintro e wd1 ⟨rfl, b⟩
      have B1 : Hid (Below w.heap.size w wd1) := Lib.hid (below_of B0.out B0.out.size b)
      have Z1 : Hid (w0.heap.size ≤ wd1.heap.size) := Lib.hid b.size
      have K0_1 : Hid (BlkL wd1 (w.heap.size) [.slice A0 a0.length ca0, .slice L0 l0.length cl0]) := Lib.hid (K0.out.below b)
      have K1_1 : Hid (BlkL wd1 (w.heap.size + 1) [.slice A1 a1.length ca1, .slice L1 l1.length cl1]) := Lib.hid (K1.out.below b)
      clear K0x0 K0x1 K1x0 K1x1
      clear K0 K1
      clear b
      obtain ⟨K0x0, K0x1⟩ := K0_1.out.two
      obtain ⟨K1x0, K1x1⟩ := K1_1.out.two
      go_wp2_with fail
      refine (l_szRose_yes A1 L1 _ ca1 _ cl1 _ _ (by omega) (by omega)).mono ?_
      rintro e wd2 ⟨rfl, b⟩
      have B2 : Hid (Below w.heap.size w wd2) := Lib.hid (below_of B1.out B1.out.size b)
      have Z2 : Hid (wd1.heap.size ≤ wd2.heap.size) := Lib.hid b.size
      have K0_2 : Hid (BlkL wd2 (w.heap.size) [.slice A0 a0.length ca0, .slice L0 l0.length cl0]) := Lib.hid (K0_1.out.below b)
      have K1_2 : Hid (BlkL wd2 (w.heap.size + 1) [.slice A1 a1.length ca1, .slice L1 l1.length cl1]) := Lib.hid (K1_1.out.below b)
      clear K0x0 K0x1 K1x0 K1x1
      clear K0_1 K1_1
      clear b
      obtain ⟨K0x0, K0x1⟩ := K0_2.out.two
      obtain ⟨K1x0, K1x1⟩ := K1_2.out.two
      go_wp2_with fail
      clear K0x0 K0x1 K1x0 K1x1
      refine wp_region_inv7B (fun iq wv v => match iq with
        | 0 => v = .agg #[.slice A0 a0.length ca0, .slice L0 l0.length cl0]
        | 1 => ∃ q1 q2, v = .agg #[.slice (some ⟨q1, 0, none⟩) a0.length a0.length, .slice (some ⟨q2, 0, none⟩) l0.length l0.length] ∧ OwnR2 wv wd2.heap.size (some ⟨q1, 0, none⟩) (some ⟨q2, 0, none⟩) q1 q2 a0 l0
        | 2 => v = .agg #[.slice A1 a1.length ca1, .slice L1 l1.length cl1]
        | 3 => ∃ q1 q2, v = .agg #[.slice (some ⟨q1, 0, none⟩) a1.length a1.length, .slice (some ⟨q2, 0, none⟩) l1.length l1.length] ∧ OwnR2 wv wd2.heap.size (some ⟨q1, 0, none⟩) (some ⟨q2, 0, none⟩) q1 q2 a1 l1
        | 4 => v = .float .f32 u2
        | 5 => WGiv wd2.heap.size (mgO a0 l0 a1 l1 u2) (mxL a0 a1 u2) (mxL l0 l1 u2) wv v
        | 6 => WGiv wd2.heap.size (mgO a0 l0 a1 l1 u2) (mxL a0 a1 u2) (mxL l0 l1 u2) wv v
        | 7 => WAgg wd2.heap.size (mgO a0 l0 a1 l1 u2) (mxL a0 a1 u2) (mxL l0 l1 u2) wv v
        | 8 => v = .bool (mgO a0 l0 a1 l1 u2)
        | 9 => ∃ B, v = .pointer (some ⟨B, 0, none⟩)
        | 10 => True
        | 11 => v = .bool (mgO a0 l0 a1 l1 u2)
        | _ => False) (CMs wd2 9 10 8 (mgO a0 l0 a1 l1 u2) (mxL a0 a1 u2) (mxL l0 l1 u2)) (fun wa wb => KO wa wb) ?hmono (by kernel_rfl) (by kernel_rfl) CMs.start ?hop ?hend
      case hmono =>
        intro i wa wb v hR hV
        rcases i with _ | _ | _ | _ | _ | _ | _ | _ | _ | _ | _ | _ | i
        · exact hV
        · obtain ⟨q1, q2, rfl, ho⟩ := hV; exact ⟨q1, q2, rfl, ho.ko hR⟩
        · exact hV
        · obtain ⟨q1, q2, rfl, ho⟩ := hV; exact ⟨q1, q2, rfl, ho.ko hR⟩
        · exact hV
        · exact hV.ko hR
        · exact hV.ko hR
        · exact hV.ko hR
        · exact hV
        · exact hV
        · exact hV
        · exact hV
        · exact hV
      case hop =>
        intro q o hq listed act w3 hI hCA hnot hcl hall
        have hC := hCA
        have hB := hC.below
        have hlen : listed.size = 12 := hI.len
        obtain ⟨K0x0, K0x1⟩ := (K0_2.out.below hB).two
        obtain ⟨K1x0, K1x1⟩ := (K1_2.out.below hB).two
        rcases q with _ | _ | _ | _ | _ | _ | _ | _ | _ | _ | _ | _ | q
        · simp at hq; subst hq
          have g3 : act.tmps[3]?.getD undef = .pointer (some ⟨w.heap.size, 0, none⟩) := hI.kept 3 (by kernel_rfl)
          clear hI hall hnot hcl
          refine .inl ⟨wanted_none rfl, ?_⟩
          unfold Oper.wp
          go_simp
          all_goals exact ⟨_, rfl, KO.of_below (Below.refl _ _), rfl, CMs.step (k := 0) hC hlen (by decide) (by decide) (by decide) 30 (by decide) _ (Below.refl _ _)⟩
        · simp at hq; subst hq
          have g30 : act.tmps[30]?.getD undef = .agg #[.slice A0 a0.length ca0, .slice L0 l0.length cl0] := hI.has 0 30 rfl (hall ⟨0, .data⟩ (by simp) rfl)
          clear hI hall hnot hcl
          refine .inl ⟨wanted_none rfl, ?_⟩
          unfold Oper.wp
          go_simp
          refine (l_toRose A0 L0 ca0 cl0 a0 l0 _ (HP0.out.below (below_of B2.out B2.out.size hB)) HN0.out).mono ?_
          rintro e w4 ⟨q1, q2, rfl, ho, b4⟩
          exact ⟨_, rfl, KO.of_below b4, ⟨q1, q2, rfl, OwnR2.of ho.2.2.1 ho.2.2.2 (by have := ho.1; have := hB.size; omega) ho.2.1⟩, CMs.step (k := 1) hC hlen (by decide) (by decide) (by decide) 31 (by decide) _ b4⟩
        · simp at hq; subst hq
          have g4 : act.tmps[4]?.getD undef = .pointer (some ⟨(w.heap.size + 1), 0, none⟩) := hI.kept 4 (by kernel_rfl)
          clear hI hall hnot hcl
          refine .inl ⟨wanted_none rfl, ?_⟩
          unfold Oper.wp
          go_simp
          all_goals exact ⟨_, rfl, KO.of_below (Below.refl _ _), rfl, CMs.step (k := 2) hC hlen (by decide) (by decide) (by decide) 32 (by decide) _ (Below.refl _ _)⟩
        · simp at hq; subst hq
          have g32 : act.tmps[32]?.getD undef = .agg #[.slice A1 a1.length ca1, .slice L1 l1.length cl1] := hI.has 2 32 rfl (hall ⟨2, .data⟩ (by simp) rfl)
          clear hI hall hnot hcl
          refine .inl ⟨wanted_none rfl, ?_⟩
          unfold Oper.wp
          go_simp
          refine (l_toRose A1 L1 ca1 cl1 a1 l1 _ (HP1.out.below (below_of B2.out B2.out.size hB)) HN1.out).mono ?_
          rintro e w4 ⟨q1, q2, rfl, ho, b4⟩
          exact ⟨_, rfl, KO.of_below b4, ⟨q1, q2, rfl, OwnR2.of ho.2.2.1 ho.2.2.2 (by have := ho.1; have := hB.size; omega) ho.2.1⟩, CMs.step (k := 3) hC hlen (by decide) (by decide) (by decide) 33 (by decide) _ b4⟩
        · simp at hq; subst hq
          have g2 : act.tmps[2]?.getD undef = .float .f32 u2 := hI.kept 2 (by kernel_rfl)
          clear hI hall hnot hcl
          refine .inl ⟨wanted_none rfl, ?_⟩
          unfold Oper.wp
          go_simp
          all_goals exact ⟨_, rfl, KO.of_below (Below.refl _ _), rfl, CMs.step (k := 4) hC hlen (by decide) (by decide) (by decide) 34 (by decide) _ (Below.refl _ _)⟩
        · simp at hq; subst hq
          obtain ⟨q11, q21, g31, h1a⟩ := hI.has 1 31 rfl (hall ⟨1, .data⟩ (by simp) rfl)
          obtain ⟨q13, q23, g33, h3a⟩ := hI.has 3 33 rfl (hall ⟨3, .data⟩ (by simp) rfl)
          have g34 : act.tmps[34]?.getD undef = .float .f32 u2 := hI.has 4 34 rfl (hall ⟨4, .data⟩ (by simp) rfl)
          clear hI hall hnot hcl
          refine .inl ⟨wanted_none rfl, ?_⟩
          unfold Oper.wp
          go_simp
          refine (s_MixRoses _ _ _ _ _ _ _ _ a0 l0 a1 l1 u2 _ (OwnR2.fl h1a) HN0.out (OwnR2.fl h3a) HN1.out).mono ?_
          rintro e w4 ⟨Ra, Rb, da, db, ka, kb, rfl, ho, b4⟩
          exact ⟨_, rfl, KO.of_below b4, WGiv.mk' (OwnR2.baseR ho (by have := hB.size; omega)), CMs.step (k := 5) hC hlen (by decide) (by decide) (by decide) 35 (by decide) _ b4⟩
        · simp at hq; subst hq
          obtain ⟨Ra5, Rb5, da5, db5, ka5, kb5, g35, h5a⟩ := hI.has 5 35 rfl (hall ⟨5, .data⟩ (by simp) rfl)
          clear hI hall hnot hcl
          refine .inl ⟨wanted_none rfl, ?_⟩
          unfold Oper.wp
          go_simp
          exact ⟨_, rfl, KO.of_below (Below.refl _ _), WGiv.mk' h5a, CMs.step (k := 6) hC hlen (by decide) (by decide) (by decide) 29 (by decide) _ (Below.refl _ _)⟩
        · simp at hq; subst hq
          obtain ⟨Ra6, Rb6, da6, db6, ka6, kb6, g29, h6a⟩ := hI.has 6 29 rfl (hall ⟨6, .data⟩ (by simp) rfl)
          clear hI hall hnot hcl
          refine .inl ⟨wanted_none rfl, ?_⟩
          unfold Oper.wp
          go_simp
          exact ⟨_, rfl, KO.of_below (Below.refl _ _), WAgg.mk' h6a, CMs.step (k := 7) hC hlen (by decide) (by decide) (by decide) 36 (by decide) _ (Below.refl _ _)⟩
        · simp at hq; subst hq
          obtain ⟨Ra6, Rb6, da6, db6, ka6, kb6, g29, h6a⟩ := hI.has 6 29 rfl (hall ⟨6, .data⟩ (by simp) rfl)
          clear hI hall hnot hcl
          refine .inl ⟨wanted_none rfl, ?_⟩
          unfold Oper.wp
          go_simp
          exact ⟨_, rfl, KO.of_below (Below.refl _ _), rfl, CMs.step (k := 8) hC hlen (by decide) (by decide) (by decide) 37 (by decide) _ (Below.refl _ _)⟩
        · simp at hq; subst hq
          have hns := hcl.not (j := 10) (i := 9) (e := ⟨9, .data⟩) rfl (by simp) rfl rfl hnot
          have hsz : 8 < act.tmps.size := by rw [show act.tmps.size = 124 from hI.size.trans (by kernel_rfl)]; decide
          clear hI hall hnot hcl
          refine .inl ⟨wanted_none rfl, ?_⟩
          unfold Oper.wp
          go_simp
          exact ⟨_, rfl, KO.of_below ((Below.refl _ _).alloc (Nat.le_refl _) _), ⟨_, rfl⟩, CMs.made hC hlen (by decide) (by decide) hns hsz _⟩
        · simp at hq; subst hq
          have G8 := hI.has 9 8 rfl (hall ⟨9, .data⟩ (by simp) rfl)
          obtain ⟨Ra7, Rb7, da7, db7, ka7, kb7, g36, h7a⟩ := hI.has 7 36 rfl (hall ⟨7, .data⟩ (by simp) rfl)
          have hal : listed.getD 9 false = true := hall ⟨9, .data⟩ (by simp) rfl
          obtain ⟨B, gB, hlo, hblk⟩ := hC.blk hal hnot
          have gB2 := gB
          rw [Array.getD_eq_getD_getElem?] at gB2
          clear hI hall hnot hcl
          refine .inl ⟨wanted_none rfl, ?_⟩
          unfold Oper.wp
          go_simp
          have p0 := (hblk.2 0 _ rfl).1
          have q0 := (hblk.2 0 _ rfl).2
          have p1 := (hblk.2 1 _ rfl).1
          have q1 := (hblk.2 1 _ rfl).2
          go_simp
          have hf := ((hblk.set (i := 0) (by simp) (.slice Ra7 (gLn (mgO a0 l0 a1 l1 u2) (mxL a0 a1 u2)).length da7)).set (i := 1) (by simp) (.slice Rb7 (gLn (mgO a0 l0 a1 l1 u2) (mxL l0 l1 u2)).length db7))
          have hk := KO.store2 hblk (.slice Ra7 (gLn (mgO a0 l0 a1 l1 u2) (mxL a0 a1 u2)).length da7) (.slice Rb7 (gLn (mgO a0 l0 a1 l1 u2) (mxL l0 l1 u2)).length db7)
          have hbb := ((hC.below.setCell (p := ⟨B, 0, none⟩) hlo (.slice Ra7 (gLn (mgO a0 l0 a1 l1 u2) (mxL a0 a1 u2)).length da7)).setCell (p := ⟨B, 1, none⟩) hlo (.slice Rb7 (gLn (mgO a0 l0 a1 l1 u2) (mxL l0 l1 u2)).length db7))
          have hcm := CMs.stored hC hlen (by decide) hbb ⟨B, Ra7, Rb7, da7, db7, ka7, kb7, gB, hlo, hf, h7a.ko hk⟩ undef
          first | exact ⟨hk, trivial, hcm⟩ | exact ⟨hk, hcm⟩
        · simp at hq; subst hq
          have g37 : act.tmps[37]?.getD undef = .bool (mgO a0 l0 a1 l1 u2) := hI.has 8 37 rfl (hall ⟨8, .data⟩ (by simp) rfl)
          clear hI hall hnot hcl
          refine .inl ⟨wanted_none rfl, ?_⟩
          unfold Oper.wp
          go_simp
          all_goals exact ⟨_, rfl, KO.of_below (Below.refl _ _), rfl, CMs.step (k := 11) hC hlen (by decide) (by decide) (by decide) 9 (by decide) _ (Below.refl _ _)⟩
        · simp at hq
      case hend =>
        intro listed act w3 hI hCA hall
        have hC := hCA
        have hB := hC.below
        have hlen : listed.size = 12 := hI.len
        obtain ⟨K0x0, K0x1⟩ := (K0_2.out.below hB).two
        obtain ⟨K1x0, K1x1⟩ := (K1_2.out.below hB).two
        obtain ⟨cBk, cRa, cRb, cda, cdb, cka, ckb, g8, hlo, hblk, hown⟩ := hC.fin (hall 10 (by decide))
        rw [Array.getD_eq_getD_getElem?] at g8
        have g9 : act.tmps[9]?.getD undef = .bool (mgO a0 l0 a1 l1 u2) := hI.has 11 9 rfl (hall 11 (by decide))
        have g0 := hI.kept 0 (by kernel_rfl)
        conv at g0 => rhs; whnf
        have g1 := hI.kept 1 (by kernel_rfl)
        conv at g1 => rhs; whnf
        have g2 := hI.kept 2 (by kernel_rfl)
        conv at g2 => rhs; whnf
        have g3 := hI.kept 3 (by kernel_rfl)
        conv at g3 => rhs; whnf
        have g4 := hI.kept 4 (by kernel_rfl)
        conv at g4 => rhs; whnf
        have g5 : act.tmps[5]?.getD undef = undef := hI.kept 5 (by kernel_rfl)
        have g6 := hI.kept 6 (by kernel_rfl)
        conv at g6 => rhs; whnf
        have g7 := hI.kept 7 (by kernel_rfl)
        conv at g7 => rhs; whnf
        have g10 : act.tmps[10]?.getD undef = undef := hI.kept 10 (by kernel_rfl)
        have g11 : act.tmps[11]?.getD undef = undef := hI.kept 11 (by kernel_rfl)
        have g12 : act.tmps[12]?.getD undef = undef := hI.kept 12 (by kernel_rfl)
        have g13 : act.tmps[13]?.getD undef = undef := hI.kept 13 (by kernel_rfl)
        have g14 : act.tmps[14]?.getD undef = undef := hI.kept 14 (by kernel_rfl)
        have g15 : act.tmps[15]?.getD undef = undef := hI.kept 15 (by kernel_rfl)
        have g16 : act.tmps[16]?.getD undef = undef := hI.kept 16 (by kernel_rfl)
        have g17 : act.tmps[17]?.getD undef = undef := hI.kept 17 (by kernel_rfl)
        have g18 : act.tmps[18]?.getD undef = undef := hI.kept 18 (by kernel_rfl)
        have g19 := hI.kept 19 (by kernel_rfl)
        conv at g19 => rhs; whnf
        have g20 := hI.kept 20 (by kernel_rfl)
        conv at g20 => rhs; whnf
        have g21 := hI.kept 21 (by kernel_rfl)
        conv at g21 => rhs; whnf
        have g22 := hI.kept 22 (by kernel_rfl)
        conv at g22 => rhs; whnf
        have g23 := hI.kept 23 (by kernel_rfl)
        conv at g23 => rhs; whnf
        have g24 := hI.kept 24 (by kernel_rfl)
        conv at g24 => rhs; whnf
        have g25 := hI.kept 25 (by kernel_rfl)
        conv at g25 => rhs; whnf
        have g26 := hI.kept 26 (by kernel_rfl)
        conv at g26 => rhs; whnf
        have g27 := hI.kept 27 (by kernel_rfl)
        conv at g27 => rhs; whnf
        have g28 := hI.kept 28 (by kernel_rfl)
        conv at g28 => rhs; whnf
        have g38 : act.tmps[38]?.getD undef = undef := hI.kept 38 (by kernel_rfl)
        have g39 : act.tmps[39]?.getD undef = undef := hI.kept 39 (by kernel_rfl)
        have g40 : act.tmps[40]?.getD undef = undef := hI.kept 40 (by kernel_rfl)
        have g41 : act.tmps[41]?.getD undef = undef := hI.kept 41 (by kernel_rfl)
        have g42 : act.tmps[42]?.getD undef = undef := hI.kept 42 (by kernel_rfl)
        have g43 : act.tmps[43]?.getD undef = undef := hI.kept 43 (by kernel_rfl)
        have g44 : act.tmps[44]?.getD undef = undef := hI.kept 44 (by kernel_rfl)
        have g45 : act.tmps[45]?.getD undef = undef := hI.kept 45 (by kernel_rfl)
        have g46 : act.tmps[46]?.getD undef = undef := hI.kept 46 (by kernel_rfl)
        have g47 : act.tmps[47]?.getD undef = undef := hI.kept 47 (by kernel_rfl)
        have g48 : act.tmps[48]?.getD undef = undef := hI.kept 48 (by kernel_rfl)
        have g49 : act.tmps[49]?.getD undef = undef := hI.kept 49 (by kernel_rfl)
        have g50 : act.tmps[50]?.getD undef = undef := hI.kept 50 (by kernel_rfl)
        have g51 : act.tmps[51]?.getD undef = undef := hI.kept 51 (by kernel_rfl)
        have g52 : act.tmps[52]?.getD undef = undef := hI.kept 52 (by kernel_rfl)
        have g53 : act.tmps[53]?.getD undef = undef := hI.kept 53 (by kernel_rfl)
        have g54 : act.tmps[54]?.getD undef = undef := hI.kept 54 (by kernel_rfl)
        have g55 : act.tmps[55]?.getD undef = undef := hI.kept 55 (by kernel_rfl)
        have g56 : act.tmps[56]?.getD undef = undef := hI.kept 56 (by kernel_rfl)
        have g57 : act.tmps[57]?.getD undef = undef := hI.kept 57 (by kernel_rfl)
        have g58 : act.tmps[58]?.getD undef = undef := hI.kept 58 (by kernel_rfl)
        have g59 : act.tmps[59]?.getD undef = undef := hI.kept 59 (by kernel_rfl)
        have g60 : act.tmps[60]?.getD undef = undef := hI.kept 60 (by kernel_rfl)
        have g61 : act.tmps[61]?.getD undef = undef := hI.kept 61 (by kernel_rfl)
        have g62 : act.tmps[62]?.getD undef = undef := hI.kept 62 (by kernel_rfl)
        have g63 : act.tmps[63]?.getD undef = undef := hI.kept 63 (by kernel_rfl)
        have g64 : act.tmps[64]?.getD undef = undef := hI.kept 64 (by kernel_rfl)
        have g65 : act.tmps[65]?.getD undef = undef := hI.kept 65 (by kernel_rfl)
        have g66 : act.tmps[66]?.getD undef = undef := hI.kept 66 (by kernel_rfl)
        have g67 : act.tmps[67]?.getD undef = undef := hI.kept 67 (by kernel_rfl)
        have g68 : act.tmps[68]?.getD undef = undef := hI.kept 68 (by kernel_rfl)
        have g69 : act.tmps[69]?.getD undef = undef := hI.kept 69 (by kernel_rfl)
        have g70 : act.tmps[70]?.getD undef = undef := hI.kept 70 (by kernel_rfl)
        have g71 : act.tmps[71]?.getD undef = undef := hI.kept 71 (by kernel_rfl)
        have g72 : act.tmps[72]?.getD undef = undef := hI.kept 72 (by kernel_rfl)
        have g73 : act.tmps[73]?.getD undef = undef := hI.kept 73 (by kernel_rfl)
        have g74 : act.tmps[74]?.getD undef = undef := hI.kept 74 (by kernel_rfl)
        have g75 : act.tmps[75]?.getD undef = undef := hI.kept 75 (by kernel_rfl)
        have g76 : act.tmps[76]?.getD undef = undef := hI.kept 76 (by kernel_rfl)
        have g77 : act.tmps[77]?.getD undef = undef := hI.kept 77 (by kernel_rfl)
        have g78 : act.tmps[78]?.getD undef = undef := hI.kept 78 (by kernel_rfl)
        have g79 : act.tmps[79]?.getD undef = undef := hI.kept 79 (by kernel_rfl)
        have g80 : act.tmps[80]?.getD undef = undef := hI.kept 80 (by kernel_rfl)
        have g81 : act.tmps[81]?.getD undef = undef := hI.kept 81 (by kernel_rfl)
        have g82 : act.tmps[82]?.getD undef = undef := hI.kept 82 (by kernel_rfl)
        have g83 : act.tmps[83]?.getD undef = undef := hI.kept 83 (by kernel_rfl)
        have g84 : act.tmps[84]?.getD undef = undef := hI.kept 84 (by kernel_rfl)
        have g85 : act.tmps[85]?.getD undef = undef := hI.kept 85 (by kernel_rfl)
        have g86 : act.tmps[86]?.getD undef = undef := hI.kept 86 (by kernel_rfl)
        have g87 : act.tmps[87]?.getD undef = undef := hI.kept 87 (by kernel_rfl)
        have g88 : act.tmps[88]?.getD undef = undef := hI.kept 88 (by kernel_rfl)
        have g89 : act.tmps[89]?.getD undef = undef := hI.kept 89 (by kernel_rfl)
        have g90 : act.tmps[90]?.getD undef = undef := hI.kept 90 (by kernel_rfl)
        have g91 : act.tmps[91]?.getD undef = undef := hI.kept 91 (by kernel_rfl)
        have g92 : act.tmps[92]?.getD undef = undef := hI.kept 92 (by kernel_rfl)
        have g93 : act.tmps[93]?.getD undef = undef := hI.kept 93 (by kernel_rfl)
        have g94 : act.tmps[94]?.getD undef = undef := hI.kept 94 (by kernel_rfl)
        have g95 : act.tmps[95]?.getD undef = undef := hI.kept 95 (by kernel_rfl)
        have g96 : act.tmps[96]?.getD undef = undef := hI.kept 96 (by kernel_rfl)
        have g97 : act.tmps[97]?.getD undef = undef := hI.kept 97 (by kernel_rfl)
        have g98 : act.tmps[98]?.getD undef = undef := hI.kept 98 (by kernel_rfl)
        have g99 : act.tmps[99]?.getD undef = undef := hI.kept 99 (by kernel_rfl)
        have g100 : act.tmps[100]?.getD undef = undef := hI.kept 100 (by kernel_rfl)
        have g101 : act.tmps[101]?.getD undef = undef := hI.kept 101 (by kernel_rfl)
        have g102 : act.tmps[102]?.getD undef = undef := hI.kept 102 (by kernel_rfl)
        have g103 : act.tmps[103]?.getD undef = undef := hI.kept 103 (by kernel_rfl)
        have g104 : act.tmps[104]?.getD undef = undef := hI.kept 104 (by kernel_rfl)
        have g105 : act.tmps[105]?.getD undef = undef := hI.kept 105 (by kernel_rfl)
        have g106 : act.tmps[106]?.getD undef = undef := hI.kept 106 (by kernel_rfl)
        have g107 : act.tmps[107]?.getD undef = undef := hI.kept 107 (by kernel_rfl)
        have g108 : act.tmps[108]?.getD undef = undef := hI.kept 108 (by kernel_rfl)
        have g109 : act.tmps[109]?.getD undef = undef := hI.kept 109 (by kernel_rfl)
        have g110 : act.tmps[110]?.getD undef = undef := hI.kept 110 (by kernel_rfl)
        have g111 : act.tmps[111]?.getD undef = undef := hI.kept 111 (by kernel_rfl)
        have g112 : act.tmps[112]?.getD undef = undef := hI.kept 112 (by kernel_rfl)
        have g113 : act.tmps[113]?.getD undef = undef := hI.kept 113 (by kernel_rfl)
        have g114 : act.tmps[114]?.getD undef = undef := hI.kept 114 (by kernel_rfl)
        have g115 : act.tmps[115]?.getD undef = undef := hI.kept 115 (by kernel_rfl)
        have g116 : act.tmps[116]?.getD undef = undef := hI.kept 116 (by kernel_rfl)
        have g117 : act.tmps[117]?.getD undef = undef := hI.kept 117 (by kernel_rfl)
        have g118 : act.tmps[118]?.getD undef = undef := hI.kept 118 (by kernel_rfl)
        have g119 : act.tmps[119]?.getD undef = undef := hI.kept 119 (by kernel_rfl)
        have g120 : act.tmps[120]?.getD undef = undef := hI.kept 120 (by kernel_rfl)
        have g121 : act.tmps[121]?.getD undef = undef := hI.kept 121 (by kernel_rfl)
        have g122 : act.tmps[122]?.getD undef = undef := hI.kept 122 (by kernel_rfl)
        have g123 : act.tmps[123]?.getD undef = undef := hI.kept 123 (by kernel_rfl)
        have hsz : act.tmps.size = 124 := hI.size.trans (by kernel_rfl)
        have hd := hI.defers
        clear hI hall hC hCA hlen K0x0 K0x1 K1x0 K1x1
        obtain ⟨tt, dd⟩ := act
        simp only at g0 g1 g2 g3 g4 g5 g6 g7 g8 g9 g10 g11 g12 g13 g14 g15 g16 g17 g18 g19 g20 g21 g22 g23 g24 g25 g26 g27 g28 g38 g39 g40 g41 g42 g43 g44 g45 g46 g47 g48 g49 g50 g51 g52 g53 g54 g55 g56 g57 g58 g59 g60 g61 g62 g63 g64 g65 g66 g67 g68 g69 g70 g71 g72 g73 g74 g75 g76 g77 g78 g79 g80 g81 g82 g83 g84 g85 g86 g87 g88 g89 g90 g91 g92 g93 g94 g95 g96 g97 g98 g99 g100 g101 g102 g103 g104 g105 g106 g107 g108 g109 g110 g111 g112 g113 g114 g115 g116 g117 g118 g119 g120 g121 g122 g123 hsz hd
        subst hd
        have hl : tt = #[tt[0]?.getD undef, tt[1]?.getD undef, tt[2]?.getD undef, tt[3]?.getD undef, tt[4]?.getD undef, tt[5]?.getD undef, tt[6]?.getD undef, tt[7]?.getD undef, tt[8]?.getD undef, tt[9]?.getD undef, tt[10]?.getD undef, tt[11]?.getD undef, tt[12]?.getD undef, tt[13]?.getD undef, tt[14]?.getD undef, tt[15]?.getD undef, tt[16]?.getD undef, tt[17]?.getD undef, tt[18]?.getD undef, tt[19]?.getD undef, tt[20]?.getD undef, tt[21]?.getD undef, tt[22]?.getD undef, tt[23]?.getD undef, tt[24]?.getD undef, tt[25]?.getD undef, tt[26]?.getD undef, tt[27]?.getD undef, tt[28]?.getD undef, tt[29]?.getD undef, tt[30]?.getD undef, tt[31]?.getD undef, tt[32]?.getD undef, tt[33]?.getD undef, tt[34]?.getD undef, tt[35]?.getD undef, tt[36]?.getD undef, tt[37]?.getD undef, tt[38]?.getD undef, tt[39]?.getD undef, tt[40]?.getD undef, tt[41]?.getD undef, tt[42]?.getD undef, tt[43]?.getD undef, tt[44]?.getD undef, tt[45]?.getD undef, tt[46]?.getD undef, tt[47]?.getD undef, tt[48]?.getD undef, tt[49]?.getD undef, tt[50]?.getD undef, tt[51]?.getD undef, tt[52]?.getD undef, tt[53]?.getD undef, tt[54]?.getD undef, tt[55]?.getD undef, tt[56]?.getD undef, tt[57]?.getD undef, tt[58]?.getD undef, tt[59]?.getD undef, tt[60]?.getD undef, tt[61]?.getD undef, tt[62]?.getD undef, tt[63]?.getD undef, tt[64]?.getD undef, tt[65]?.getD undef, tt[66]?.getD undef, tt[67]?.getD undef, tt[68]?.getD undef, tt[69]?.getD undef, tt[70]?.getD undef, tt[71]?.getD undef, tt[72]?.getD undef, tt[73]?.getD undef, tt[74]?.getD undef, tt[75]?.getD undef, tt[76]?.getD undef, tt[77]?.getD undef, tt[78]?.getD undef, tt[79]?.getD undef, tt[80]?.getD undef, tt[81]?.getD undef, tt[82]?.getD undef, tt[83]?.getD undef, tt[84]?.getD undef, tt[85]?.getD undef, tt[86]?.getD undef, tt[87]?.getD undef, tt[88]?.getD undef, tt[89]?.getD undef, tt[90]?.getD undef, tt[91]?.getD undef, tt[92]?.getD undef, tt[93]?.getD undef, tt[94]?.getD undef, tt[95]?.getD undef, tt[96]?.getD undef, tt[97]?.getD undef, tt[98]?.getD undef, tt[99]?.getD undef, tt[100]?.getD undef, tt[101]?.getD undef, tt[102]?.getD undef, tt[103]?.getD undef, tt[104]?.getD undef, tt[105]?.getD undef, tt[106]?.getD undef, tt[107]?.getD undef, tt[108]?.getD undef, tt[109]?.getD undef, tt[110]?.getD undef, tt[111]?.getD undef, tt[112]?.getD undef, tt[113]?.getD undef, tt[114]?.getD undef, tt[115]?.getD undef, tt[116]?.getD undef, tt[117]?.getD undef, tt[118]?.getD undef, tt[119]?.getD undef, tt[120]?.getD undef, tt[121]?.getD undef, tt[122]?.getD undef, tt[123]?.getD undef] := (arr_lit hsz).trans rfl
        rw [g0, g1, g2, g3, g4, g5, g6, g7, g8, g9, g10, g11, g12, g13, g14, g15, g16, g17, g18, g19, g20, g21, g22, g23, g24, g25, g26, g27, g28, g38, g39, g40, g41, g42, g43, g44, g45, g46, g47, g48, g49, g50, g51, g52, g53, g54, g55, g56, g57, g58, g59, g60, g61, g62, g63, g64, g65, g66, g67, g68, g69, g70, g71, g72, g73, g74, g75, g76, g77, g78, g79, g80, g81, g82, g83, g84, g85, g86, g87, g88, g89, g90, g91, g92, g93, g94, g95, g96, g97, g98, g99, g100, g101, g102, g103, g104, g105, g106, g107, g108, g109, g110, g111, g112, g113, g114, g115, g116, g117, g118, g119, g120, g121, g122, g123] at hl
        clear g0 g1 g2 g3 g4 g5 g6 g7 g8 g9 g10 g11 g12 g13 g14 g15 g16 g17 g18 g19 g20 g21 g22 g23 g24 g25 g26 g27 g28 g38 g39 g40 g41 g42 g43 g44 g45 g46 g47 g48 g49 g50 g51 g52 g53 g54 g55 g56 g57 g58 g59 g60 g61 g62 g63 g64 g65 g66 g67 g68 g69 g70 g71 g72 g73 g74 g75 g76 g77 g78 g79 g80 g81 g82 g83 g84 g85 g86 g87 g88 g89 g90 g91 g92 g93 g94 g95 g96 g97 g98 g99 g100 g101 g102 g103 g104 g105 g106 g107 g108 g109 g110 g111 g112 g113 g114 g115 g116 g117 g118 g119 g120 g121 g122 g123 hsz
        generalize tt[29]?.getD undef = y29 at hl
        generalize tt[30]?.getD undef = y30 at hl
        generalize tt[31]?.getD undef = y31 at hl
        generalize tt[32]?.getD undef = y32 at hl
        generalize tt[33]?.getD undef = y33 at hl
        generalize tt[34]?.getD undef = y34 at hl
        generalize tt[35]?.getD undef = y35 at hl
        generalize tt[36]?.getD undef = y36 at hl
        generalize tt[37]?.getD undef = y37 at hl
        subst hl
        obtain ⟨wd3, hww⟩ : ∃ x, x = w3 := ⟨_, rfl⟩
        rw [← hww] at hB hblk hown ⊢
        clear hww
        have B3 : Hid (Below w.heap.size w wd3) := Lib.hid (below_of B2.out B2.out.size hB)
        have Z3 : Hid (wd2.heap.size ≤ wd3.heap.size) := Lib.hid hB.size
        have K0_3 : Hid (BlkL wd3 (w.heap.size) [.slice A0 a0.length ca0, .slice L0 l0.length cl0]) := Lib.hid (K0_2.out.below hB)
        have K1_3 : Hid (BlkL wd3 (w.heap.size + 1) [.slice A1 a1.length ca1, .slice L1 l1.length cl1]) := Lib.hid (K1_2.out.below hB)
        clear K0_2 K1_2
        clear hB
        have Y3 : Hid (cBk < wd3.heap.size ∧ wd2.heap.size ≤ cBk) := Lib.hid ⟨hblk.1, hlo⟩
        have WB : Hid (BlkL wd3 cBk [.slice cRa (gLn (mgO a0 l0 a1 l1 u2) (mxL a0 a1 u2)).length cda, .slice cRb (gLn (mgO a0 l0 a1 l1 u2) (mxL l0 l1 u2)).length cdb]) := Lib.hid (hblk)
        have Xc : Hid (OwnR2 wd3 wd2.heap.size cRa cRb cka ckb (gLn (mgO a0 l0 a1 l1 u2) (mxL a0 a1 u2)) (gLn (mgO a0 l0 a1 l1 u2) (mxL l0 l1 u2))) := Lib.hid (hown)
        have Xcbd := Xc
        clear hblk hown hlo
        obtain ⟨K0x0, K0x1⟩ := K0_3.out.two
        obtain ⟨K1x0, K1x1⟩ := K1_3.out.two
        obtain ⟨WBx0, WBx1⟩ := WB.out.two
        go_wp2_with fail
        refine (l_toRose A0 L0 ca0 cl0 a0 l0 _ (HP0.out.below B3.out) HN0.out).mono ?_
        rintro e wd4 ⟨x01, x02, rfl, ho, b⟩
        have B4 : Hid (Below w.heap.size w wd4) := Lib.hid (below_of B3.out B3.out.size b)
        have Z4 : Hid (wd3.heap.size ≤ wd4.heap.size) := Lib.hid b.size
        have K0_4 : Hid (BlkL wd4 (w.heap.size) [.slice A0 a0.length ca0, .slice L0 l0.length cl0]) := Lib.hid (K0_3.out.below b)
        have K1_4 : Hid (BlkL wd4 (w.heap.size + 1) [.slice A1 a1.length ca1, .slice L1 l1.length cl1]) := Lib.hid (K1_3.out.below b)
        have WB_1 : Hid (BlkL wd4 cBk [.slice cRa (gLn (mgO a0 l0 a1 l1 u2) (mxL a0 a1 u2)).length cda, .slice cRb (gLn (mgO a0 l0 a1 l1 u2) (mxL l0 l1 u2)).length cdb]) := Lib.hid (WB.out.below b)
        have Xc_1 : Hid (OwnR2 wd4 wd2.heap.size cRa cRb cka ckb (gLn (mgO a0 l0 a1 l1 u2) (mxL a0 a1 u2)) (gLn (mgO a0 l0 a1 l1 u2) (mxL l0 l1 u2))) := Lib.hid (Xc.out.below b)
        clear K0x0 K0x1 K1x0 K1x1 WBx0 WBx1
        clear K0_3 K1_3 WB Xc
        have Xx0 : Hid (OwnR2 wd4 wd3.heap.size (some ⟨x01, 0, none⟩) (some ⟨x02, 0, none⟩) x01 x02 a0 l0) := Lib.hid (OwnR2.of ho.2.2.1 ho.2.2.2 ho.1 ho.2.1)
        have Xx0bd := Xx0
        clear ho b
        obtain ⟨wd5, hw5⟩ : ∃ x, x = wd4.alloc (.cells #[.slice (some ⟨x01, 0, none⟩) a0.length a0.length, .slice (some ⟨x02, 0, none⟩) l0.length l0.length] 27) := ⟨_, rfl⟩
        have b : Below wd4.heap.size wd4 wd5 := by rw [hw5]; exact (Below.refl _ _).alloc (Nat.le_refl _) _
        have Y5 : Hid (wd4.heap.size + 1 ≤ wd5.heap.size) := Lib.hid (by rw [hw5]; simp)
        have B5 : Hid (Below w.heap.size w wd5) := Lib.hid (below_of B4.out B4.out.size b)
        have Z5 : Hid (wd4.heap.size ≤ wd5.heap.size) := Lib.hid b.size
        have K0_5 : Hid (BlkL wd5 (w.heap.size) [.slice A0 a0.length ca0, .slice L0 l0.length cl0]) := Lib.hid (K0_4.out.below b)
        have K1_5 : Hid (BlkL wd5 (w.heap.size + 1) [.slice A1 a1.length ca1, .slice L1 l1.length cl1]) := Lib.hid (K1_4.out.below b)
        have WB_2 : Hid (BlkL wd5 cBk [.slice cRa (gLn (mgO a0 l0 a1 l1 u2) (mxL a0 a1 u2)).length cda, .slice cRb (gLn (mgO a0 l0 a1 l1 u2) (mxL l0 l1 u2)).length cdb]) := Lib.hid (WB_1.out.below b)
        have Xc_2 : Hid (OwnR2 wd5 wd2.heap.size cRa cRb cka ckb (gLn (mgO a0 l0 a1 l1 u2) (mxL a0 a1 u2)) (gLn (mgO a0 l0 a1 l1 u2) (mxL l0 l1 u2))) := Lib.hid (Xc_1.out.below b)
        have Xx0_1 : Hid (OwnR2 wd5 wd3.heap.size (some ⟨x01, 0, none⟩) (some ⟨x02, 0, none⟩) x01 x02 a0 l0) := Lib.hid (Xx0.out.below b)
        have V0 : Hid (BlkL wd5 (wd4.heap.size) [.slice (some ⟨x01, 0, none⟩) a0.length a0.length, .slice (some ⟨x02, 0, none⟩) l0.length l0.length]) := Lib.hid (by rw [hw5]; exact blkL_at wd4 #[.slice (some ⟨x01, 0, none⟩) a0.length a0.length, .slice (some ⟨x02, 0, none⟩) l0.length l0.length] 27 rfl)
        clear b
        have K0y0 := fun o => ((K0_4.out.alloc o).2 0 _ rfl).1
        have K0y1 := fun o => ((K0_4.out.alloc o).2 1 _ rfl).1
        have K1y0 := fun o => ((K1_4.out.alloc o).2 0 _ rfl).1
        have K1y1 := fun o => ((K1_4.out.alloc o).2 1 _ rfl).1
        have WBy0 := fun o => ((WB_1.out.alloc o).2 0 _ rfl).1
        have WBy1 := fun o => ((WB_1.out.alloc o).2 1 _ rfl).1
        go_wp2_with fail
        rw [← hw5]
        clear hw5
        clear K0y0 K0y1 K1y0 K1y1 WBy0 WBy1
        clear K0_4 K1_4 WB_1 Xc_1 Xx0
        obtain ⟨K0x0, K0x1⟩ := K0_5.out.two
        obtain ⟨K1x0, K1x1⟩ := K1_5.out.two
        obtain ⟨WBx0, WBx1⟩ := WB_2.out.two
        obtain ⟨V0x0, V0x1⟩ := V0.out.two
        go_wp2_with fail
        refine (l_toRose A1 L1 ca1 cl1 a1 l1 _ (HP1.out.below B5.out) HN1.out).mono ?_
        rintro e wd6 ⟨x11, x12, rfl, ho, b⟩
        have B6 : Hid (Below w.heap.size w wd6) := Lib.hid (below_of B5.out B5.out.size b)
        have Z6 : Hid (wd5.heap.size ≤ wd6.heap.size) := Lib.hid b.size
        have K0_6 : Hid (BlkL wd6 (w.heap.size) [.slice A0 a0.length ca0, .slice L0 l0.length cl0]) := Lib.hid (K0_5.out.below b)
        have K1_6 : Hid (BlkL wd6 (w.heap.size + 1) [.slice A1 a1.length ca1, .slice L1 l1.length cl1]) := Lib.hid (K1_5.out.below b)
        have WB_3 : Hid (BlkL wd6 cBk [.slice cRa (gLn (mgO a0 l0 a1 l1 u2) (mxL a0 a1 u2)).length cda, .slice cRb (gLn (mgO a0 l0 a1 l1 u2) (mxL l0 l1 u2)).length cdb]) := Lib.hid (WB_2.out.below b)
        have Xc_3 : Hid (OwnR2 wd6 wd2.heap.size cRa cRb cka ckb (gLn (mgO a0 l0 a1 l1 u2) (mxL a0 a1 u2)) (gLn (mgO a0 l0 a1 l1 u2) (mxL l0 l1 u2))) := Lib.hid (Xc_2.out.below b)
        have Xx0_2 : Hid (OwnR2 wd6 wd3.heap.size (some ⟨x01, 0, none⟩) (some ⟨x02, 0, none⟩) x01 x02 a0 l0) := Lib.hid (Xx0_1.out.below b)
        have V0_1 : Hid (BlkL wd6 (wd4.heap.size) [.slice (some ⟨x01, 0, none⟩) a0.length a0.length, .slice (some ⟨x02, 0, none⟩) l0.length l0.length]) := Lib.hid (V0.out.below b)
        clear K0x0 K0x1 K1x0 K1x1 WBx0 WBx1 V0x0 V0x1
        clear K0_5 K1_5 WB_2 Xc_2 Xx0_1 V0
        have Xx1 : Hid (OwnR2 wd6 wd5.heap.size (some ⟨x11, 0, none⟩) (some ⟨x12, 0, none⟩) x11 x12 a1 l1) := Lib.hid (OwnR2.of ho.2.2.1 ho.2.2.2 ho.1 ho.2.1)
        have Xx1bd := Xx1
        clear ho b
        obtain ⟨wd7, hw7⟩ : ∃ x, x = wd6.alloc (.cells #[.slice (some ⟨x11, 0, none⟩) a1.length a1.length, .slice (some ⟨x12, 0, none⟩) l1.length l1.length] 27) := ⟨_, rfl⟩
        have b : Below wd6.heap.size wd6 wd7 := by rw [hw7]; exact (Below.refl _ _).alloc (Nat.le_refl _) _
        have Y7 : Hid (wd6.heap.size + 1 ≤ wd7.heap.size) := Lib.hid (by rw [hw7]; simp)
        have B7 : Hid (Below w.heap.size w wd7) := Lib.hid (below_of B6.out B6.out.size b)
        have Z7 : Hid (wd6.heap.size ≤ wd7.heap.size) := Lib.hid b.size
        have K0_7 : Hid (BlkL wd7 (w.heap.size) [.slice A0 a0.length ca0, .slice L0 l0.length cl0]) := Lib.hid (K0_6.out.below b)
        have K1_7 : Hid (BlkL wd7 (w.heap.size + 1) [.slice A1 a1.length ca1, .slice L1 l1.length cl1]) := Lib.hid (K1_6.out.below b)
        have WB_4 : Hid (BlkL wd7 cBk [.slice cRa (gLn (mgO a0 l0 a1 l1 u2) (mxL a0 a1 u2)).length cda, .slice cRb (gLn (mgO a0 l0 a1 l1 u2) (mxL l0 l1 u2)).length cdb]) := Lib.hid (WB_3.out.below b)
        have Xc_4 : Hid (OwnR2 wd7 wd2.heap.size cRa cRb cka ckb (gLn (mgO a0 l0 a1 l1 u2) (mxL a0 a1 u2)) (gLn (mgO a0 l0 a1 l1 u2) (mxL l0 l1 u2))) := Lib.hid (Xc_3.out.below b)
        have Xx0_3 : Hid (OwnR2 wd7 wd3.heap.size (some ⟨x01, 0, none⟩) (some ⟨x02, 0, none⟩) x01 x02 a0 l0) := Lib.hid (Xx0_2.out.below b)
        have V0_2 : Hid (BlkL wd7 (wd4.heap.size) [.slice (some ⟨x01, 0, none⟩) a0.length a0.length, .slice (some ⟨x02, 0, none⟩) l0.length l0.length]) := Lib.hid (V0_1.out.below b)
        have Xx1_1 : Hid (OwnR2 wd7 wd5.heap.size (some ⟨x11, 0, none⟩) (some ⟨x12, 0, none⟩) x11 x12 a1 l1) := Lib.hid (Xx1.out.below b)
        have V1 : Hid (BlkL wd7 (wd6.heap.size) [.slice (some ⟨x11, 0, none⟩) a1.length a1.length, .slice (some ⟨x12, 0, none⟩) l1.length l1.length]) := Lib.hid (by rw [hw7]; exact blkL_at wd6 #[.slice (some ⟨x11, 0, none⟩) a1.length a1.length, .slice (some ⟨x12, 0, none⟩) l1.length l1.length] 27 rfl)
        clear b
        have K0y0 := fun o => ((K0_6.out.alloc o).2 0 _ rfl).1
        have K0y1 := fun o => ((K0_6.out.alloc o).2 1 _ rfl).1
        have K1y0 := fun o => ((K1_6.out.alloc o).2 0 _ rfl).1
        have K1y1 := fun o => ((K1_6.out.alloc o).2 1 _ rfl).1
        have WBy0 := fun o => ((WB_3.out.alloc o).2 0 _ rfl).1
        have WBy1 := fun o => ((WB_3.out.alloc o).2 1 _ rfl).1
        have V0y0 := fun o => ((V0_1.out.alloc o).2 0 _ rfl).1
        have V0y1 := fun o => ((V0_1.out.alloc o).2 1 _ rfl).1
        go_wp2_with fail
        rw [← hw7]
        clear hw7
        clear K0y0 K0y1 K1y0 K1y1 WBy0 WBy1 V0y0 V0y1
        clear K0_6 K1_6 WB_3 Xc_3 Xx0_2 V0_1 Xx1
        obtain ⟨K0x0, K0x1⟩ := K0_7.out.two
        obtain ⟨K1x0, K1x1⟩ := K1_7.out.two
        obtain ⟨WBx0, WBx1⟩ := WB_4.out.two
        obtain ⟨V0x0, V0x1⟩ := V0_2.out.two
        obtain ⟨V1x0, V1x1⟩ := V1.out.two
        go_wp2_with fail
        refine (i_MixRoses _ _ _ _ _ _ _ _ a0 l0 a1 l1 u2 _ Xx0_3.out.fl HN0.out Xx1_1.out.fl HN1.out).mono ?_
        rintro e wd8 ⟨gR1, gR2, gc1, gc2, gg1, gg2, rfl, ho, b⟩
        have B8 : Hid (Below w.heap.size w wd8) := Lib.hid (below_of B7.out B7.out.size b)
        have Z8 : Hid (wd7.heap.size ≤ wd8.heap.size) := Lib.hid b.size
        have K0_8 : Hid (BlkL wd8 (w.heap.size) [.slice A0 a0.length ca0, .slice L0 l0.length cl0]) := Lib.hid (K0_7.out.below b)
        have K1_8 : Hid (BlkL wd8 (w.heap.size + 1) [.slice A1 a1.length ca1, .slice L1 l1.length cl1]) := Lib.hid (K1_7.out.below b)
        have WB_5 : Hid (BlkL wd8 cBk [.slice cRa (gLn (mgO a0 l0 a1 l1 u2) (mxL a0 a1 u2)).length cda, .slice cRb (gLn (mgO a0 l0 a1 l1 u2) (mxL l0 l1 u2)).length cdb]) := Lib.hid (WB_4.out.below b)
        have Xc_5 : Hid (OwnR2 wd8 wd2.heap.size cRa cRb cka ckb (gLn (mgO a0 l0 a1 l1 u2) (mxL a0 a1 u2)) (gLn (mgO a0 l0 a1 l1 u2) (mxL l0 l1 u2))) := Lib.hid (Xc_4.out.below b)
        have Xx0_4 : Hid (OwnR2 wd8 wd3.heap.size (some ⟨x01, 0, none⟩) (some ⟨x02, 0, none⟩) x01 x02 a0 l0) := Lib.hid (Xx0_3.out.below b)
        have V0_3 : Hid (BlkL wd8 (wd4.heap.size) [.slice (some ⟨x01, 0, none⟩) a0.length a0.length, .slice (some ⟨x02, 0, none⟩) l0.length l0.length]) := Lib.hid (V0_2.out.below b)
        have Xx1_2 : Hid (OwnR2 wd8 wd5.heap.size (some ⟨x11, 0, none⟩) (some ⟨x12, 0, none⟩) x11 x12 a1 l1) := Lib.hid (Xx1_1.out.below b)
        have V1_1 : Hid (BlkL wd8 (wd6.heap.size) [.slice (some ⟨x11, 0, none⟩) a1.length a1.length, .slice (some ⟨x12, 0, none⟩) l1.length l1.length]) := Lib.hid (V1.out.below b)
        clear K0x0 K0x1 K1x0 K1x1 WBx0 WBx1 V0x0 V0x1 V1x0 V1x1
        clear K0_7 K1_7 WB_4 Xc_4 Xx0_3 V0_2 Xx1_1 V1
        have Xg : Hid (OwnR2 wd8 wd7.heap.size gR1 gR2 gg1 gg2 (gLn (mgO a0 l0 a1 l1 u2) (mxL a0 a1 u2)) (gLn (mgO a0 l0 a1 l1 u2) (mxL l0 l1 u2))) := Lib.hid (ho)
        have Xgbd := Xg
        clear ho
        clear b
        obtain ⟨wd9, hw9⟩ : ∃ x, x = wd8.alloc (.cells #[.slice gR1 (gLn (mgO a0 l0 a1 l1 u2) (mxL a0 a1 u2)).length gc1, .slice gR2 (gLn (mgO a0 l0 a1 l1 u2) (mxL l0 l1 u2)).length gc2] 27) := ⟨_, rfl⟩
        have b : Below wd8.heap.size wd8 wd9 := by rw [hw9]; exact (Below.refl _ _).alloc (Nat.le_refl _) _
        have Y9 : Hid (wd8.heap.size + 1 ≤ wd9.heap.size) := Lib.hid (by rw [hw9]; simp)
        have B9 : Hid (Below w.heap.size w wd9) := Lib.hid (below_of B8.out B8.out.size b)
        have Z9 : Hid (wd8.heap.size ≤ wd9.heap.size) := Lib.hid b.size
        have K0_9 : Hid (BlkL wd9 (w.heap.size) [.slice A0 a0.length ca0, .slice L0 l0.length cl0]) := Lib.hid (K0_8.out.below b)
        have K1_9 : Hid (BlkL wd9 (w.heap.size + 1) [.slice A1 a1.length ca1, .slice L1 l1.length cl1]) := Lib.hid (K1_8.out.below b)
        have WB_6 : Hid (BlkL wd9 cBk [.slice cRa (gLn (mgO a0 l0 a1 l1 u2) (mxL a0 a1 u2)).length cda, .slice cRb (gLn (mgO a0 l0 a1 l1 u2) (mxL l0 l1 u2)).length cdb]) := Lib.hid (WB_5.out.below b)
        have Xc_6 : Hid (OwnR2 wd9 wd2.heap.size cRa cRb cka ckb (gLn (mgO a0 l0 a1 l1 u2) (mxL a0 a1 u2)) (gLn (mgO a0 l0 a1 l1 u2) (mxL l0 l1 u2))) := Lib.hid (Xc_5.out.below b)
        have Xx0_5 : Hid (OwnR2 wd9 wd3.heap.size (some ⟨x01, 0, none⟩) (some ⟨x02, 0, none⟩) x01 x02 a0 l0) := Lib.hid (Xx0_4.out.below b)
        have V0_4 : Hid (BlkL wd9 (wd4.heap.size) [.slice (some ⟨x01, 0, none⟩) a0.length a0.length, .slice (some ⟨x02, 0, none⟩) l0.length l0.length]) := Lib.hid (V0_3.out.below b)
        have Xx1_3 : Hid (OwnR2 wd9 wd5.heap.size (some ⟨x11, 0, none⟩) (some ⟨x12, 0, none⟩) x11 x12 a1 l1) := Lib.hid (Xx1_2.out.below b)
        have V1_2 : Hid (BlkL wd9 (wd6.heap.size) [.slice (some ⟨x11, 0, none⟩) a1.length a1.length, .slice (some ⟨x12, 0, none⟩) l1.length l1.length]) := Lib.hid (V1_1.out.below b)
        have Xg_1 : Hid (OwnR2 wd9 wd7.heap.size gR1 gR2 gg1 gg2 (gLn (mgO a0 l0 a1 l1 u2) (mxL a0 a1 u2)) (gLn (mgO a0 l0 a1 l1 u2) (mxL l0 l1 u2))) := Lib.hid (Xg.out.below b)
        have GB : Hid (BlkL wd9 (wd8.heap.size) [.slice gR1 (gLn (mgO a0 l0 a1 l1 u2) (mxL a0 a1 u2)).length gc1, .slice gR2 (gLn (mgO a0 l0 a1 l1 u2) (mxL l0 l1 u2)).length gc2]) := Lib.hid (by rw [hw9]; exact blkL_at wd8 #[.slice gR1 (gLn (mgO a0 l0 a1 l1 u2) (mxL a0 a1 u2)).length gc1, .slice gR2 (gLn (mgO a0 l0 a1 l1 u2) (mxL l0 l1 u2)).length gc2] 27 rfl)
        clear b
        have K0y0 := fun o => ((K0_8.out.alloc o).2 0 _ rfl).1
        have K0y1 := fun o => ((K0_8.out.alloc o).2 1 _ rfl).1
        have K1y0 := fun o => ((K1_8.out.alloc o).2 0 _ rfl).1
        have K1y1 := fun o => ((K1_8.out.alloc o).2 1 _ rfl).1
        have WBy0 := fun o => ((WB_5.out.alloc o).2 0 _ rfl).1
        have WBy1 := fun o => ((WB_5.out.alloc o).2 1 _ rfl).1
        have V0y0 := fun o => ((V0_3.out.alloc o).2 0 _ rfl).1
        have V0y1 := fun o => ((V0_3.out.alloc o).2 1 _ rfl).1
        have V1y0 := fun o => ((V1_1.out.alloc o).2 0 _ rfl).1
        have V1y1 := fun o => ((V1_1.out.alloc o).2 1 _ rfl).1
        go_wp2_with fail
        rw [← hw9]
        clear hw9
        clear K0y0 K0y1 K1y0 K1y1 WBy0 WBy1 V0y0 V0y1 V1y0 V1y1
        clear K0_8 K1_8 WB_5 Xc_5 Xx0_4 V0_3 Xx1_2 V1_1 Xg
        obtain ⟨K0x0, K0x1⟩ := K0_9.out.two
        obtain ⟨K1x0, K1x1⟩ := K1_9.out.two
        obtain ⟨WBx0, WBx1⟩ := WB_6.out.two
        obtain ⟨V0x0, V0x1⟩ := V0_4.out.two
        obtain ⟨V1x0, V1x1⟩ := V1_2.out.two
        obtain ⟨GBx0, GBx1⟩ := GB.out.two
        go_wp2_with fail
        refine (l_eqRose _ _ _ _ _ _ _ _ (gLn (mgO a0 l0 a1 l1 u2) (mxL a0 a1 u2)) (gLn (mgO a0 l0 a1 l1 u2) (mxL l0 l1 u2)) _ Xg_1.out.fl Xc_6.out.fl HF.out).mono ?_
        rintro e wd10 ⟨rfl, b⟩
        have B10 : Hid (Below w.heap.size w wd10) := Lib.hid (below_of B9.out B9.out.size b)
        have Z10 : Hid (wd9.heap.size ≤ wd10.heap.size) := Lib.hid b.size
        have K0_10 : Hid (BlkL wd10 (w.heap.size) [.slice A0 a0.length ca0, .slice L0 l0.length cl0]) := Lib.hid (K0_9.out.below b)
        have K1_10 : Hid (BlkL wd10 (w.heap.size + 1) [.slice A1 a1.length ca1, .slice L1 l1.length cl1]) := Lib.hid (K1_9.out.below b)
        have WB_7 : Hid (BlkL wd10 cBk [.slice cRa (gLn (mgO a0 l0 a1 l1 u2) (mxL a0 a1 u2)).length cda, .slice cRb (gLn (mgO a0 l0 a1 l1 u2) (mxL l0 l1 u2)).length cdb]) := Lib.hid (WB_6.out.below b)
        have Xc_7 : Hid (OwnR2 wd10 wd2.heap.size cRa cRb cka ckb (gLn (mgO a0 l0 a1 l1 u2) (mxL a0 a1 u2)) (gLn (mgO a0 l0 a1 l1 u2) (mxL l0 l1 u2))) := Lib.hid (Xc_6.out.below b)
        have Xx0_6 : Hid (OwnR2 wd10 wd3.heap.size (some ⟨x01, 0, none⟩) (some ⟨x02, 0, none⟩) x01 x02 a0 l0) := Lib.hid (Xx0_5.out.below b)
        have V0_5 : Hid (BlkL wd10 (wd4.heap.size) [.slice (some ⟨x01, 0, none⟩) a0.length a0.length, .slice (some ⟨x02, 0, none⟩) l0.length l0.length]) := Lib.hid (V0_4.out.below b)
        have Xx1_4 : Hid (OwnR2 wd10 wd5.heap.size (some ⟨x11, 0, none⟩) (some ⟨x12, 0, none⟩) x11 x12 a1 l1) := Lib.hid (Xx1_3.out.below b)
        have V1_3 : Hid (BlkL wd10 (wd6.heap.size) [.slice (some ⟨x11, 0, none⟩) a1.length a1.length, .slice (some ⟨x12, 0, none⟩) l1.length l1.length]) := Lib.hid (V1_2.out.below b)
        have Xg_2 : Hid (OwnR2 wd10 wd7.heap.size gR1 gR2 gg1 gg2 (gLn (mgO a0 l0 a1 l1 u2) (mxL a0 a1 u2)) (gLn (mgO a0 l0 a1 l1 u2) (mxL l0 l1 u2))) := Lib.hid (Xg_1.out.below b)
        have GB_1 : Hid (BlkL wd10 (wd8.heap.size) [.slice gR1 (gLn (mgO a0 l0 a1 l1 u2) (mxL a0 a1 u2)).length gc1, .slice gR2 (gLn (mgO a0 l0 a1 l1 u2) (mxL l0 l1 u2)).length gc2]) := Lib.hid (GB.out.below b)
        clear K0x0 K0x1 K1x0 K1x1 WBx0 WBx1 V0x0 V0x1 V1x0 V1x1 GBx0 GBx1
        clear K0_9 K1_9 WB_6 Xc_6 Xx0_5 V0_4 Xx1_3 V1_2 Xg_1 GB
        clear b
        obtain ⟨K0x0, K0x1⟩ := K0_10.out.two
        obtain ⟨K1x0, K1x1⟩ := K1_10.out.two
        obtain ⟨WBx0, WBx1⟩ := WB_7.out.two
        obtain ⟨V0x0, V0x1⟩ := V0_5.out.two
        obtain ⟨V1x0, V1x1⟩ := V1_3.out.two
        obtain ⟨GBx0, GBx1⟩ := GB_1.out.two
        go_wp2_with fail
        clear K0x0 K0x1 K1x0 K1x1 WBx0 WBx1 V0x0 V0x1 V1x0 V1x1 GBx0 GBx1
        refine wp_region_inv4 (fun iq wv v => match iq with
          | 0 => v = .agg #[.slice (some ⟨x01, 0, none⟩) a0.length a0.length, .slice (some ⟨x02, 0, none⟩) l0.length l0.length]
          | 1 => v = .agg #[.slice A0 a0.length ca0, .slice L0 l0.length cl0]
          | 2 => ∃ q1 q2, v = .agg #[.slice (some ⟨q1, 0, none⟩) a0.length a0.length, .slice (some ⟨q2, 0, none⟩) l0.length l0.length] ∧ OwnR2 wv wd10.heap.size (some ⟨q1, 0, none⟩) (some ⟨q2, 0, none⟩) q1 q2 a0 l0
          | 3 => v = .bool true
          | 4 => v = .bool false
          | _ => False) (fun _ ww => Below wd10.heap.size wd10 ww) (fun w w' => Below w.heap.size w w') ?hmono (by kernel_rfl) (by kernel_rfl) ((Below.refl _ _).drew) ?hop ?hend
        case hmono =>
          intro i wa wb v hR hV
          rcases i with _ | _ | _ | _ | _ | i
          · exact hV
          · exact hV
          · obtain ⟨q1, q2, rfl, ho⟩ := hV; exact ⟨q1, q2, rfl, ho.below hR⟩
          · exact hV
          · exact hV
          · exact hV
        case hop =>
          intro q o hq listed act w3 hI hnot hcl hall
          have hB := hI.cls
          obtain ⟨K0x0, K0x1⟩ := (K0_10.out.below hB).two
          obtain ⟨K1x0, K1x1⟩ := (K1_10.out.below hB).two
          obtain ⟨WBx0, WBx1⟩ := (WB_7.out.below hB).two
          obtain ⟨V0x0, V0x1⟩ := (V0_5.out.below hB).two
          obtain ⟨V1x0, V1x1⟩ := (V1_3.out.below hB).two
          obtain ⟨GBx0, GBx1⟩ := (GB_1.out.below hB).two
          rcases q with _ | _ | _ | _ | _ | q
          · simp at hq; subst hq
            have g10 : act.tmps[10]?.getD undef = .pointer (some ⟨wd4.heap.size, 0, none⟩) := hI.kept 10 (by kernel_rfl)
            clear hI hall hnot hcl
            refine .inl ⟨wanted_none rfl, ?_⟩
            unfold Oper.wp
            go_simp
            all_goals first | exact ⟨_, rfl, Below.refl _ _, rfl, hB⟩ | exact ⟨Below.refl _ _, hB⟩ | exact Below.refl _ _
          · simp at hq; subst hq
            have g3 : act.tmps[3]?.getD undef = .pointer (some ⟨w.heap.size, 0, none⟩) := hI.kept 3 (by kernel_rfl)
            clear hI hall hnot hcl
            refine .inl ⟨wanted_none rfl, ?_⟩
            unfold Oper.wp
            go_simp
            all_goals first | exact ⟨_, rfl, Below.refl _ _, rfl, hB⟩ | exact ⟨Below.refl _ _, hB⟩ | exact Below.refl _ _
          · simp at hq; subst hq
            have g59 : act.tmps[59]?.getD undef = .agg #[.slice A0 a0.length ca0, .slice L0 l0.length cl0] := hI.has 1 59 rfl (hall ⟨1, .data⟩ (by simp) rfl)
            clear hI hall hnot hcl
            refine .inl ⟨wanted_none rfl, ?_⟩
            unfold Oper.wp
            go_simp
            refine (l_toRose A0 L0 ca0 cl0 a0 l0 _ (HP0.out.below (below_of B10.out B10.out.size hB)) HN0.out).mono ?_
            rintro e w4 ⟨q1, q2, rfl, ho, b4⟩
            exact ⟨_, rfl, b4, ⟨q1, q2, rfl, OwnR2.of ho.2.2.1 ho.2.2.2 (by have := ho.1; have := hB.size; omega) ho.2.1⟩, below_of hB hB.size b4⟩
          · simp at hq; subst hq
            have g58 : act.tmps[58]?.getD undef = .agg #[.slice (some ⟨x01, 0, none⟩) a0.length a0.length, .slice (some ⟨x02, 0, none⟩) l0.length l0.length] := hI.has 0 58 rfl (hall ⟨0, .data⟩ (by simp) rfl)
            obtain ⟨q12, q22, g60, h2a⟩ := hI.has 2 60 rfl (hall ⟨2, .data⟩ (by simp) rfl)
            clear hI hall hnot hcl
            refine .inl ⟨wanted_none rfl, ?_⟩
            unfold Oper.wp
            go_simp
            refine (l_eqRose _ _ _ _ _ _ _ _ a0 l0 _ (Xx0_6.out.below hB).fl (OwnR2.fl h2a) HN0.out).mono ?_
            rintro e w4 ⟨rfl, b4⟩
            exact ⟨_, rfl, b4, rfl, below_of hB hB.size b4⟩
          · simp at hq; subst hq
            have g61 : act.tmps[61]?.getD undef = .bool true := hI.has 3 61 rfl (hall ⟨3, .data⟩ (by simp) rfl)
            clear hI hall hnot hcl
            refine .inl ⟨wanted_none rfl, ?_⟩
            unfold Oper.wp
            go_simp
            all_goals first | exact ⟨_, rfl, Below.refl _ _, rfl, hB⟩ | exact ⟨Below.refl _ _, hB⟩ | exact Below.refl _ _
          · simp at hq
        case hend =>
          intro listed act w3 hI hall
          have hB := hI.cls
          obtain ⟨K0x0, K0x1⟩ := (K0_10.out.below hB).two
          obtain ⟨K1x0, K1x1⟩ := (K1_10.out.below hB).two
          obtain ⟨WBx0, WBx1⟩ := (WB_7.out.below hB).two
          obtain ⟨V0x0, V0x1⟩ := (V0_5.out.below hB).two
          obtain ⟨V1x0, V1x1⟩ := (V1_3.out.below hB).two
          obtain ⟨GBx0, GBx1⟩ := (GB_1.out.below hB).two
          have g62 : act.tmps[62]?.getD undef = .bool false := hI.has 4 62 rfl (hall 4 (by decide))
          have g0 := hI.kept 0 (by kernel_rfl)
          conv at g0 => rhs; whnf
          have g1 := hI.kept 1 (by kernel_rfl)
          conv at g1 => rhs; whnf
          have g2 := hI.kept 2 (by kernel_rfl)
          conv at g2 => rhs; whnf
          have g3 := hI.kept 3 (by kernel_rfl)
          conv at g3 => rhs; whnf
          have g4 := hI.kept 4 (by kernel_rfl)
          conv at g4 => rhs; whnf
          have g5 : act.tmps[5]?.getD undef = undef := hI.kept 5 (by kernel_rfl)
          have g6 := hI.kept 6 (by kernel_rfl)
          conv at g6 => rhs; whnf
          have g7 := hI.kept 7 (by kernel_rfl)
          conv at g7 => rhs; whnf
          have g8 := hI.kept 8 (by kernel_rfl)
          conv at g8 => rhs; whnf
          have g9 := hI.kept 9 (by kernel_rfl)
          conv at g9 => rhs; whnf
          have g10 := hI.kept 10 (by kernel_rfl)
          conv at g10 => rhs; whnf
          have g11 := hI.kept 11 (by kernel_rfl)
          conv at g11 => rhs; whnf
          have g12 := hI.kept 12 (by kernel_rfl)
          conv at g12 => rhs; whnf
          have g13 := hI.kept 13 (by kernel_rfl)
          conv at g13 => rhs; whnf
          have g14 : act.tmps[14]?.getD undef = undef := hI.kept 14 (by kernel_rfl)
          have g15 : act.tmps[15]?.getD undef = undef := hI.kept 15 (by kernel_rfl)
          have g16 : act.tmps[16]?.getD undef = undef := hI.kept 16 (by kernel_rfl)
          have g17 : act.tmps[17]?.getD undef = undef := hI.kept 17 (by kernel_rfl)
          have g18 : act.tmps[18]?.getD undef = undef := hI.kept 18 (by kernel_rfl)
          have g19 := hI.kept 19 (by kernel_rfl)
          conv at g19 => rhs; whnf
          have g20 := hI.kept 20 (by kernel_rfl)
          conv at g20 => rhs; whnf
          have g21 := hI.kept 21 (by kernel_rfl)
          conv at g21 => rhs; whnf
          have g22 := hI.kept 22 (by kernel_rfl)
          conv at g22 => rhs; whnf
          have g23 := hI.kept 23 (by kernel_rfl)
          conv at g23 => rhs; whnf
          have g24 := hI.kept 24 (by kernel_rfl)
          conv at g24 => rhs; whnf
          have g25 := hI.kept 25 (by kernel_rfl)
          conv at g25 => rhs; whnf
          have g26 := hI.kept 26 (by kernel_rfl)
          conv at g26 => rhs; whnf
          have g27 := hI.kept 27 (by kernel_rfl)
          conv at g27 => rhs; whnf
          have g28 := hI.kept 28 (by kernel_rfl)
          conv at g28 => rhs; whnf
          have g29 := hI.kept 29 (by kernel_rfl)
          conv at g29 => rhs; whnf
          have g30 := hI.kept 30 (by kernel_rfl)
          conv at g30 => rhs; whnf
          have g31 := hI.kept 31 (by kernel_rfl)
          conv at g31 => rhs; whnf
          have g32 := hI.kept 32 (by kernel_rfl)
          conv at g32 => rhs; whnf
          have g33 := hI.kept 33 (by kernel_rfl)
          conv at g33 => rhs; whnf
          have g34 := hI.kept 34 (by kernel_rfl)
          conv at g34 => rhs; whnf
          have g35 := hI.kept 35 (by kernel_rfl)
          conv at g35 => rhs; whnf
          have g36 := hI.kept 36 (by kernel_rfl)
          conv at g36 => rhs; whnf
          have g37 := hI.kept 37 (by kernel_rfl)
          conv at g37 => rhs; whnf
          have g38 := hI.kept 38 (by kernel_rfl)
          conv at g38 => rhs; whnf
          have g39 := hI.kept 39 (by kernel_rfl)
          conv at g39 => rhs; whnf
          have g40 := hI.kept 40 (by kernel_rfl)
          conv at g40 => rhs; whnf
          have g41 := hI.kept 41 (by kernel_rfl)
          conv at g41 => rhs; whnf
          have g42 := hI.kept 42 (by kernel_rfl)
          conv at g42 => rhs; whnf
          have g43 := hI.kept 43 (by kernel_rfl)
          conv at g43 => rhs; whnf
          have g44 := hI.kept 44 (by kernel_rfl)
          conv at g44 => rhs; whnf
          have g45 := hI.kept 45 (by kernel_rfl)
          conv at g45 => rhs; whnf
          have g46 := hI.kept 46 (by kernel_rfl)
          conv at g46 => rhs; whnf
          have g47 := hI.kept 47 (by kernel_rfl)
          conv at g47 => rhs; whnf
          have g48 := hI.kept 48 (by kernel_rfl)
          conv at g48 => rhs; whnf
          have g49 := hI.kept 49 (by kernel_rfl)
          conv at g49 => rhs; whnf
          have g50 := hI.kept 50 (by kernel_rfl)
          conv at g50 => rhs; whnf
          have g51 := hI.kept 51 (by kernel_rfl)
          conv at g51 => rhs; whnf
          have g52 := hI.kept 52 (by kernel_rfl)
          conv at g52 => rhs; whnf
          have g53 := hI.kept 53 (by kernel_rfl)
          conv at g53 => rhs; whnf
          have g54 := hI.kept 54 (by kernel_rfl)
          conv at g54 => rhs; whnf
          have g55 := hI.kept 55 (by kernel_rfl)
          conv at g55 => rhs; whnf
          have g56 := hI.kept 56 (by kernel_rfl)
          conv at g56 => rhs; whnf
          have g57 := hI.kept 57 (by kernel_rfl)
          conv at g57 => rhs; whnf
          have g63 : act.tmps[63]?.getD undef = undef := hI.kept 63 (by kernel_rfl)
          have g64 : act.tmps[64]?.getD undef = undef := hI.kept 64 (by kernel_rfl)
          have g65 : act.tmps[65]?.getD undef = undef := hI.kept 65 (by kernel_rfl)
          have g66 : act.tmps[66]?.getD undef = undef := hI.kept 66 (by kernel_rfl)
          have g67 : act.tmps[67]?.getD undef = undef := hI.kept 67 (by kernel_rfl)
          have g68 : act.tmps[68]?.getD undef = undef := hI.kept 68 (by kernel_rfl)
          have g69 : act.tmps[69]?.getD undef = undef := hI.kept 69 (by kernel_rfl)
          have g70 : act.tmps[70]?.getD undef = undef := hI.kept 70 (by kernel_rfl)
          have g71 : act.tmps[71]?.getD undef = undef := hI.kept 71 (by kernel_rfl)
          have g72 : act.tmps[72]?.getD undef = undef := hI.kept 72 (by kernel_rfl)
          have g73 : act.tmps[73]?.getD undef = undef := hI.kept 73 (by kernel_rfl)
          have g74 : act.tmps[74]?.getD undef = undef := hI.kept 74 (by kernel_rfl)
          have g75 : act.tmps[75]?.getD undef = undef := hI.kept 75 (by kernel_rfl)
          have g76 : act.tmps[76]?.getD undef = undef := hI.kept 76 (by kernel_rfl)
          have g77 : act.tmps[77]?.getD undef = undef := hI.kept 77 (by kernel_rfl)
          have g78 : act.tmps[78]?.getD undef = undef := hI.kept 78 (by kernel_rfl)
          have g79 : act.tmps[79]?.getD undef = undef := hI.kept 79 (by kernel_rfl)
          have g80 : act.tmps[80]?.getD undef = undef := hI.kept 80 (by kernel_rfl)
          have g81 : act.tmps[81]?.getD undef = undef := hI.kept 81 (by kernel_rfl)
          have g82 : act.tmps[82]?.getD undef = undef := hI.kept 82 (by kernel_rfl)
          have g83 : act.tmps[83]?.getD undef = undef := hI.kept 83 (by kernel_rfl)
          have g84 : act.tmps[84]?.getD undef = undef := hI.kept 84 (by kernel_rfl)
          have g85 : act.tmps[85]?.getD undef = undef := hI.kept 85 (by kernel_rfl)
          have g86 : act.tmps[86]?.getD undef = undef := hI.kept 86 (by kernel_rfl)
          have g87 : act.tmps[87]?.getD undef = undef := hI.kept 87 (by kernel_rfl)
          have g88 : act.tmps[88]?.getD undef = undef := hI.kept 88 (by kernel_rfl)
          have g89 : act.tmps[89]?.getD undef = undef := hI.kept 89 (by kernel_rfl)
          have g90 : act.tmps[90]?.getD undef = undef := hI.kept 90 (by kernel_rfl)
          have g91 : act.tmps[91]?.getD undef = undef := hI.kept 91 (by kernel_rfl)
          have g92 : act.tmps[92]?.getD undef = undef := hI.kept 92 (by kernel_rfl)
          have g93 : act.tmps[93]?.getD undef = undef := hI.kept 93 (by kernel_rfl)
          have g94 : act.tmps[94]?.getD undef = undef := hI.kept 94 (by kernel_rfl)
          have g95 : act.tmps[95]?.getD undef = undef := hI.kept 95 (by kernel_rfl)
          have g96 : act.tmps[96]?.getD undef = undef := hI.kept 96 (by kernel_rfl)
          have g97 : act.tmps[97]?.getD undef = undef := hI.kept 97 (by kernel_rfl)
          have g98 : act.tmps[98]?.getD undef = undef := hI.kept 98 (by kernel_rfl)
          have g99 : act.tmps[99]?.getD undef = undef := hI.kept 99 (by kernel_rfl)
          have g100 : act.tmps[100]?.getD undef = undef := hI.kept 100 (by kernel_rfl)
          have g101 : act.tmps[101]?.getD undef = undef := hI.kept 101 (by kernel_rfl)
          have g102 : act.tmps[102]?.getD undef = undef := hI.kept 102 (by kernel_rfl)
          have g103 : act.tmps[103]?.getD undef = undef := hI.kept 103 (by kernel_rfl)
          have g104 : act.tmps[104]?.getD undef = undef := hI.kept 104 (by kernel_rfl)
          have g105 : act.tmps[105]?.getD undef = undef := hI.kept 105 (by kernel_rfl)
          have g106 : act.tmps[106]?.getD undef = undef := hI.kept 106 (by kernel_rfl)
          have g107 : act.tmps[107]?.getD undef = undef := hI.kept 107 (by kernel_rfl)
          have g108 : act.tmps[108]?.getD undef = undef := hI.kept 108 (by kernel_rfl)
          have g109 : act.tmps[109]?.getD undef = undef := hI.kept 109 (by kernel_rfl)
          have g110 : act.tmps[110]?.getD undef = undef := hI.kept 110 (by kernel_rfl)
          have g111 : act.tmps[111]?.getD undef = undef := hI.kept 111 (by kernel_rfl)
          have g112 : act.tmps[112]?.getD undef = undef := hI.kept 112 (by kernel_rfl)
          have g113 : act.tmps[113]?.getD undef = undef := hI.kept 113 (by kernel_rfl)
          have g114 : act.tmps[114]?.getD undef = undef := hI.kept 114 (by kernel_rfl)
          have g115 : act.tmps[115]?.getD undef = undef := hI.kept 115 (by kernel_rfl)
          have g116 : act.tmps[116]?.getD undef = undef := hI.kept 116 (by kernel_rfl)
          have g117 : act.tmps[117]?.getD undef = undef := hI.kept 117 (by kernel_rfl)
          have g118 : act.tmps[118]?.getD undef = undef := hI.kept 118 (by kernel_rfl)
          have g119 : act.tmps[119]?.getD undef = undef := hI.kept 119 (by kernel_rfl)
          have g120 : act.tmps[120]?.getD undef = undef := hI.kept 120 (by kernel_rfl)
          have g121 : act.tmps[121]?.getD undef = undef := hI.kept 121 (by kernel_rfl)
          have g122 : act.tmps[122]?.getD undef = undef := hI.kept 122 (by kernel_rfl)
          have g123 : act.tmps[123]?.getD undef = undef := hI.kept 123 (by kernel_rfl)
          have hsz : act.tmps.size = 124 := hI.size.trans (by kernel_rfl)
          have hd := hI.defers
          clear hI hall K0x0 K0x1 K1x0 K1x1 WBx0 WBx1 V0x0 V0x1 V1x0 V1x1 GBx0 GBx1
          obtain ⟨tt, dd⟩ := act
          simp only at g0 g1 g2 g3 g4 g5 g6 g7 g8 g9 g10 g11 g12 g13 g14 g15 g16 g17 g18 g19 g20 g21 g22 g23 g24 g25 g26 g27 g28 g29 g30 g31 g32 g33 g34 g35 g36 g37 g38 g39 g40 g41 g42 g43 g44 g45 g46 g47 g48 g49 g50 g51 g52 g53 g54 g55 g56 g57 g62 g63 g64 g65 g66 g67 g68 g69 g70 g71 g72 g73 g74 g75 g76 g77 g78 g79 g80 g81 g82 g83 g84 g85 g86 g87 g88 g89 g90 g91 g92 g93 g94 g95 g96 g97 g98 g99 g100 g101 g102 g103 g104 g105 g106 g107 g108 g109 g110 g111 g112 g113 g114 g115 g116 g117 g118 g119 g120 g121 g122 g123 hsz hd
          subst hd
          have hl : tt = #[tt[0]?.getD undef, tt[1]?.getD undef, tt[2]?.getD undef, tt[3]?.getD undef, tt[4]?.getD undef, tt[5]?.getD undef, tt[6]?.getD undef, tt[7]?.getD undef, tt[8]?.getD undef, tt[9]?.getD undef, tt[10]?.getD undef, tt[11]?.getD undef, tt[12]?.getD undef, tt[13]?.getD undef, tt[14]?.getD undef, tt[15]?.getD undef, tt[16]?.getD undef, tt[17]?.getD undef, tt[18]?.getD undef, tt[19]?.getD undef, tt[20]?.getD undef, tt[21]?.getD undef, tt[22]?.getD undef, tt[23]?.getD undef, tt[24]?.getD undef, tt[25]?.getD undef, tt[26]?.getD undef, tt[27]?.getD undef, tt[28]?.getD undef, tt[29]?.getD undef, tt[30]?.getD undef, tt[31]?.getD undef, tt[32]?.getD undef, tt[33]?.getD undef, tt[34]?.getD undef, tt[35]?.getD undef, tt[36]?.getD undef, tt[37]?.getD undef, tt[38]?.getD undef, tt[39]?.getD undef, tt[40]?.getD undef, tt[41]?.getD undef, tt[42]?.getD undef, tt[43]?.getD undef, tt[44]?.getD undef, tt[45]?.getD undef, tt[46]?.getD undef, tt[47]?.getD undef, tt[48]?.getD undef, tt[49]?.getD undef, tt[50]?.getD undef, tt[51]?.getD undef, tt[52]?.getD undef, tt[53]?.getD undef, tt[54]?.getD undef, tt[55]?.getD undef, tt[56]?.getD undef, tt[57]?.getD undef, tt[58]?.getD undef, tt[59]?.getD undef, tt[60]?.getD undef, tt[61]?.getD undef, tt[62]?.getD undef, tt[63]?.getD undef, tt[64]?.getD undef, tt[65]?.getD undef, tt[66]?.getD undef, tt[67]?.getD undef, tt[68]?.getD undef, tt[69]?.getD undef, tt[70]?.getD undef, tt[71]?.getD undef, tt[72]?.getD undef, tt[73]?.getD undef, tt[74]?.getD undef, tt[75]?.getD undef, tt[76]?.getD undef, tt[77]?.getD undef, tt[78]?.getD undef, tt[79]?.getD undef, tt[80]?.getD undef, tt[81]?.getD undef, tt[82]?.getD undef, tt[83]?.getD undef, tt[84]?.getD undef, tt[85]?.getD undef, tt[86]?.getD undef, tt[87]?.getD undef, tt[88]?.getD undef, tt[89]?.getD undef, tt[90]?.getD undef, tt[91]?.getD undef, tt[92]?.getD undef, tt[93]?.getD undef, tt[94]?.getD undef, tt[95]?.getD undef, tt[96]?.getD undef, tt[97]?.getD undef, tt[98]?.getD undef, tt[99]?.getD undef, tt[100]?.getD undef, tt[101]?.getD undef, tt[102]?.getD undef, tt[103]?.getD undef, tt[104]?.getD undef, tt[105]?.getD undef, tt[106]?.getD undef, tt[107]?.getD undef, tt[108]?.getD undef, tt[109]?.getD undef, tt[110]?.getD undef, tt[111]?.getD undef, tt[112]?.getD undef, tt[113]?.getD undef, tt[114]?.getD undef, tt[115]?.getD undef, tt[116]?.getD undef, tt[117]?.getD undef, tt[118]?.getD undef, tt[119]?.getD undef, tt[120]?.getD undef, tt[121]?.getD undef, tt[122]?.getD undef, tt[123]?.getD undef] := (arr_lit hsz).trans rfl
          rw [g0, g1, g2, g3, g4, g5, g6, g7, g8, g9, g10, g11, g12, g13, g14, g15, g16, g17, g18, g19, g20, g21, g22, g23, g24, g25, g26, g27, g28, g29, g30, g31, g32, g33, g34, g35, g36, g37, g38, g39, g40, g41, g42, g43, g44, g45, g46, g47, g48, g49, g50, g51, g52, g53, g54, g55, g56, g57, g62, g63, g64, g65, g66, g67, g68, g69, g70, g71, g72, g73, g74, g75, g76, g77, g78, g79, g80, g81, g82, g83, g84, g85, g86, g87, g88, g89, g90, g91, g92, g93, g94, g95, g96, g97, g98, g99, g100, g101, g102, g103, g104, g105, g106, g107, g108, g109, g110, g111, g112, g113, g114, g115, g116, g117, g118, g119, g120, g121, g122, g123] at hl
          clear g0 g1 g2 g3 g4 g5 g6 g7 g8 g9 g10 g11 g12 g13 g14 g15 g16 g17 g18 g19 g20 g21 g22 g23 g24 g25 g26 g27 g28 g29 g30 g31 g32 g33 g34 g35 g36 g37 g38 g39 g40 g41 g42 g43 g44 g45 g46 g47 g48 g49 g50 g51 g52 g53 g54 g55 g56 g57 g62 g63 g64 g65 g66 g67 g68 g69 g70 g71 g72 g73 g74 g75 g76 g77 g78 g79 g80 g81 g82 g83 g84 g85 g86 g87 g88 g89 g90 g91 g92 g93 g94 g95 g96 g97 g98 g99 g100 g101 g102 g103 g104 g105 g106 g107 g108 g109 g110 g111 g112 g113 g114 g115 g116 g117 g118 g119 g120 g121 g122 g123 hsz
          generalize tt[58]?.getD undef = y58 at hl
          generalize tt[59]?.getD undef = y59 at hl
          generalize tt[60]?.getD undef = y60 at hl
          generalize tt[61]?.getD undef = y61 at hl
          subst hl
          obtain ⟨wd11, hww⟩ : ∃ x, x = w3 := ⟨_, rfl⟩
          rw [← hww] at hB ⊢
          clear hww
          have B11 : Hid (Below w.heap.size w wd11) := Lib.hid (below_of B10.out B10.out.size hB)
          have Z11 : Hid (wd10.heap.size ≤ wd11.heap.size) := Lib.hid hB.size
          have K0_11 : Hid (BlkL wd11 (w.heap.size) [.slice A0 a0.length ca0, .slice L0 l0.length cl0]) := Lib.hid (K0_10.out.below hB)
          have K1_11 : Hid (BlkL wd11 (w.heap.size + 1) [.slice A1 a1.length ca1, .slice L1 l1.length cl1]) := Lib.hid (K1_10.out.below hB)
          have WB_8 : Hid (BlkL wd11 cBk [.slice cRa (gLn (mgO a0 l0 a1 l1 u2) (mxL a0 a1 u2)).length cda, .slice cRb (gLn (mgO a0 l0 a1 l1 u2) (mxL l0 l1 u2)).length cdb]) := Lib.hid (WB_7.out.below hB)
          have Xc_8 : Hid (OwnR2 wd11 wd2.heap.size cRa cRb cka ckb (gLn (mgO a0 l0 a1 l1 u2) (mxL a0 a1 u2)) (gLn (mgO a0 l0 a1 l1 u2) (mxL l0 l1 u2))) := Lib.hid (Xc_7.out.below hB)
          have Xx0_7 : Hid (OwnR2 wd11 wd3.heap.size (some ⟨x01, 0, none⟩) (some ⟨x02, 0, none⟩) x01 x02 a0 l0) := Lib.hid (Xx0_6.out.below hB)
          have V0_6 : Hid (BlkL wd11 (wd4.heap.size) [.slice (some ⟨x01, 0, none⟩) a0.length a0.length, .slice (some ⟨x02, 0, none⟩) l0.length l0.length]) := Lib.hid (V0_5.out.below hB)
          have Xx1_5 : Hid (OwnR2 wd11 wd5.heap.size (some ⟨x11, 0, none⟩) (some ⟨x12, 0, none⟩) x11 x12 a1 l1) := Lib.hid (Xx1_4.out.below hB)
          have V1_4 : Hid (BlkL wd11 (wd6.heap.size) [.slice (some ⟨x11, 0, none⟩) a1.length a1.length, .slice (some ⟨x12, 0, none⟩) l1.length l1.length]) := Lib.hid (V1_3.out.below hB)
          have Xg_3 : Hid (OwnR2 wd11 wd7.heap.size gR1 gR2 gg1 gg2 (gLn (mgO a0 l0 a1 l1 u2) (mxL a0 a1 u2)) (gLn (mgO a0 l0 a1 l1 u2) (mxL l0 l1 u2))) := Lib.hid (Xg_2.out.below hB)
          have GB_2 : Hid (BlkL wd11 (wd8.heap.size) [.slice gR1 (gLn (mgO a0 l0 a1 l1 u2) (mxL a0 a1 u2)).length gc1, .slice gR2 (gLn (mgO a0 l0 a1 l1 u2) (mxL l0 l1 u2)).length gc2]) := Lib.hid (GB_1.out.below hB)
          clear K0_10 K1_10 WB_7 Xc_7 Xx0_6 V0_5 Xx1_4 V1_3 Xg_2 GB_1
          clear hB
          obtain ⟨K0x0, K0x1⟩ := K0_11.out.two
          obtain ⟨K1x0, K1x1⟩ := K1_11.out.two
          obtain ⟨WBx0, WBx1⟩ := WB_8.out.two
          obtain ⟨V0x0, V0x1⟩ := V0_6.out.two
          obtain ⟨V1x0, V1x1⟩ := V1_4.out.two
          obtain ⟨GBx0, GBx1⟩ := GB_2.out.two
          go_wp2_with fail
          clear K0x0 K0x1 K1x0 K1x1 WBx0 WBx1 V0x0 V0x1 V1x0 V1x1 GBx0 GBx1
          refine wp_region_inv4 (fun iq wv v => match iq with
            | 0 => v = .agg #[.slice (some ⟨x11, 0, none⟩) a1.length a1.length, .slice (some ⟨x12, 0, none⟩) l1.length l1.length]
            | 1 => v = .agg #[.slice A1 a1.length ca1, .slice L1 l1.length cl1]
            | 2 => ∃ q1 q2, v = .agg #[.slice (some ⟨q1, 0, none⟩) a1.length a1.length, .slice (some ⟨q2, 0, none⟩) l1.length l1.length] ∧ OwnR2 wv wd11.heap.size (some ⟨q1, 0, none⟩) (some ⟨q2, 0, none⟩) q1 q2 a1 l1
            | 3 => v = .bool true
            | 4 => v = .bool false
            | _ => False) (fun _ ww => Below wd11.heap.size wd11 ww) (fun w w' => Below w.heap.size w w') ?hmono (by kernel_rfl) (by kernel_rfl) ((Below.refl _ _).drew) ?hop ?hend
          case hmono =>
            intro i wa wb v hR hV
            rcases i with _ | _ | _ | _ | _ | i
            · exact hV
            · exact hV
            · obtain ⟨q1, q2, rfl, ho⟩ := hV; exact ⟨q1, q2, rfl, ho.below hR⟩
            · exact hV
            · exact hV
            · exact hV
          case hop =>
            intro q o hq listed act w3 hI hnot hcl hall
            have hB := hI.cls
            obtain ⟨K0x0, K0x1⟩ := (K0_11.out.below hB).two
            obtain ⟨K1x0, K1x1⟩ := (K1_11.out.below hB).two
            obtain ⟨WBx0, WBx1⟩ := (WB_8.out.below hB).two
            obtain ⟨V0x0, V0x1⟩ := (V0_6.out.below hB).two
            obtain ⟨V1x0, V1x1⟩ := (V1_4.out.below hB).two
            obtain ⟨GBx0, GBx1⟩ := (GB_2.out.below hB).two
            rcases q with _ | _ | _ | _ | _ | q
            · simp at hq; subst hq
              have g11 : act.tmps[11]?.getD undef = .pointer (some ⟨wd6.heap.size, 0, none⟩) := hI.kept 11 (by kernel_rfl)
              clear hI hall hnot hcl
              refine .inl ⟨wanted_none rfl, ?_⟩
              unfold Oper.wp
              go_simp
              all_goals first | exact ⟨_, rfl, Below.refl _ _, rfl, hB⟩ | exact ⟨Below.refl _ _, hB⟩ | exact Below.refl _ _
            · simp at hq; subst hq
              have g4 : act.tmps[4]?.getD undef = .pointer (some ⟨(w.heap.size + 1), 0, none⟩) := hI.kept 4 (by kernel_rfl)
              clear hI hall hnot hcl
              refine .inl ⟨wanted_none rfl, ?_⟩
              unfold Oper.wp
              go_simp
              all_goals first | exact ⟨_, rfl, Below.refl _ _, rfl, hB⟩ | exact ⟨Below.refl _ _, hB⟩ | exact Below.refl _ _
            · simp at hq; subst hq
              have g64 : act.tmps[64]?.getD undef = .agg #[.slice A1 a1.length ca1, .slice L1 l1.length cl1] := hI.has 1 64 rfl (hall ⟨1, .data⟩ (by simp) rfl)
              clear hI hall hnot hcl
              refine .inl ⟨wanted_none rfl, ?_⟩
              unfold Oper.wp
              go_simp
              refine (l_toRose A1 L1 ca1 cl1 a1 l1 _ (HP1.out.below (below_of B11.out B11.out.size hB)) HN1.out).mono ?_
              rintro e w4 ⟨q1, q2, rfl, ho, b4⟩
              exact ⟨_, rfl, b4, ⟨q1, q2, rfl, OwnR2.of ho.2.2.1 ho.2.2.2 (by have := ho.1; have := hB.size; omega) ho.2.1⟩, below_of hB hB.size b4⟩
            · simp at hq; subst hq
              have g63 : act.tmps[63]?.getD undef = .agg #[.slice (some ⟨x11, 0, none⟩) a1.length a1.length, .slice (some ⟨x12, 0, none⟩) l1.length l1.length] := hI.has 0 63 rfl (hall ⟨0, .data⟩ (by simp) rfl)
              obtain ⟨q12, q22, g65, h2a⟩ := hI.has 2 65 rfl (hall ⟨2, .data⟩ (by simp) rfl)
              clear hI hall hnot hcl
              refine .inl ⟨wanted_none rfl, ?_⟩
              unfold Oper.wp
              go_simp
              refine (l_eqRose _ _ _ _ _ _ _ _ a1 l1 _ (Xx1_5.out.below hB).fl (OwnR2.fl h2a) HN1.out).mono ?_
              rintro e w4 ⟨rfl, b4⟩
              exact ⟨_, rfl, b4, rfl, below_of hB hB.size b4⟩
            · simp at hq; subst hq
              have g66 : act.tmps[66]?.getD undef = .bool true := hI.has 3 66 rfl (hall ⟨3, .data⟩ (by simp) rfl)
              clear hI hall hnot hcl
              refine .inl ⟨wanted_none rfl, ?_⟩
              unfold Oper.wp
              go_simp
              all_goals first | exact ⟨_, rfl, Below.refl _ _, rfl, hB⟩ | exact ⟨Below.refl _ _, hB⟩ | exact Below.refl _ _
            · simp at hq
          case hend =>
            intro listed act w3 hI hall
            have hB := hI.cls
            obtain ⟨K0x0, K0x1⟩ := (K0_11.out.below hB).two
            obtain ⟨K1x0, K1x1⟩ := (K1_11.out.below hB).two
            obtain ⟨WBx0, WBx1⟩ := (WB_8.out.below hB).two
            obtain ⟨V0x0, V0x1⟩ := (V0_6.out.below hB).two
            obtain ⟨V1x0, V1x1⟩ := (V1_4.out.below hB).two
            obtain ⟨GBx0, GBx1⟩ := (GB_2.out.below hB).two
            have g67 : act.tmps[67]?.getD undef = .bool false := hI.has 4 67 rfl (hall 4 (by decide))
            have g0 := hI.kept 0 (by kernel_rfl)
            conv at g0 => rhs; whnf
            have g1 := hI.kept 1 (by kernel_rfl)
            conv at g1 => rhs; whnf
            have g2 := hI.kept 2 (by kernel_rfl)
            conv at g2 => rhs; whnf
            have g3 := hI.kept 3 (by kernel_rfl)
            conv at g3 => rhs; whnf
            have g4 := hI.kept 4 (by kernel_rfl)
            conv at g4 => rhs; whnf
            have g5 : act.tmps[5]?.getD undef = undef := hI.kept 5 (by kernel_rfl)
            have g6 := hI.kept 6 (by kernel_rfl)
            conv at g6 => rhs; whnf
            have g7 := hI.kept 7 (by kernel_rfl)
            conv at g7 => rhs; whnf
            have g8 := hI.kept 8 (by kernel_rfl)
            conv at g8 => rhs; whnf
            have g9 := hI.kept 9 (by kernel_rfl)
            conv at g9 => rhs; whnf
            have g10 := hI.kept 10 (by kernel_rfl)
            conv at g10 => rhs; whnf
            have g11 := hI.kept 11 (by kernel_rfl)
            conv at g11 => rhs; whnf
            have g12 := hI.kept 12 (by kernel_rfl)
            conv at g12 => rhs; whnf
            have g13 := hI.kept 13 (by kernel_rfl)
            conv at g13 => rhs; whnf
            have g14 : act.tmps[14]?.getD undef = undef := hI.kept 14 (by kernel_rfl)
            have g15 : act.tmps[15]?.getD undef = undef := hI.kept 15 (by kernel_rfl)
            have g16 : act.tmps[16]?.getD undef = undef := hI.kept 16 (by kernel_rfl)
            have g17 : act.tmps[17]?.getD undef = undef := hI.kept 17 (by kernel_rfl)
            have g18 : act.tmps[18]?.getD undef = undef := hI.kept 18 (by kernel_rfl)
            have g19 := hI.kept 19 (by kernel_rfl)
            conv at g19 => rhs; whnf
            have g20 := hI.kept 20 (by kernel_rfl)
            conv at g20 => rhs; whnf
            have g21 := hI.kept 21 (by kernel_rfl)
            conv at g21 => rhs; whnf
            have g22 := hI.kept 22 (by kernel_rfl)
            conv at g22 => rhs; whnf
            have g23 := hI.kept 23 (by kernel_rfl)
            conv at g23 => rhs; whnf
            have g24 := hI.kept 24 (by kernel_rfl)
            conv at g24 => rhs; whnf
            have g25 := hI.kept 25 (by kernel_rfl)
            conv at g25 => rhs; whnf
            have g26 := hI.kept 26 (by kernel_rfl)
            conv at g26 => rhs; whnf
            have g27 := hI.kept 27 (by kernel_rfl)
            conv at g27 => rhs; whnf
            have g28 := hI.kept 28 (by kernel_rfl)
            conv at g28 => rhs; whnf
            have g29 := hI.kept 29 (by kernel_rfl)
            conv at g29 => rhs; whnf
            have g30 := hI.kept 30 (by kernel_rfl)
            conv at g30 => rhs; whnf
            have g31 := hI.kept 31 (by kernel_rfl)
            conv at g31 => rhs; whnf
            have g32 := hI.kept 32 (by kernel_rfl)
            conv at g32 => rhs; whnf
            have g33 := hI.kept 33 (by kernel_rfl)
            conv at g33 => rhs; whnf
            have g34 := hI.kept 34 (by kernel_rfl)
            conv at g34 => rhs; whnf
            have g35 := hI.kept 35 (by kernel_rfl)
            conv at g35 => rhs; whnf
            have g36 := hI.kept 36 (by kernel_rfl)
            conv at g36 => rhs; whnf
            have g37 := hI.kept 37 (by kernel_rfl)
            conv at g37 => rhs; whnf
            have g38 := hI.kept 38 (by kernel_rfl)
            conv at g38 => rhs; whnf
            have g39 := hI.kept 39 (by kernel_rfl)
            conv at g39 => rhs; whnf
            have g40 := hI.kept 40 (by kernel_rfl)
            conv at g40 => rhs; whnf
            have g41 := hI.kept 41 (by kernel_rfl)
            conv at g41 => rhs; whnf
            have g42 := hI.kept 42 (by kernel_rfl)
            conv at g42 => rhs; whnf
            have g43 := hI.kept 43 (by kernel_rfl)
            conv at g43 => rhs; whnf
            have g44 := hI.kept 44 (by kernel_rfl)
            conv at g44 => rhs; whnf
            have g45 := hI.kept 45 (by kernel_rfl)
            conv at g45 => rhs; whnf
            have g46 := hI.kept 46 (by kernel_rfl)
            conv at g46 => rhs; whnf
            have g47 := hI.kept 47 (by kernel_rfl)
            conv at g47 => rhs; whnf
            have g48 := hI.kept 48 (by kernel_rfl)
            conv at g48 => rhs; whnf
            have g49 := hI.kept 49 (by kernel_rfl)
            conv at g49 => rhs; whnf
            have g50 := hI.kept 50 (by kernel_rfl)
            conv at g50 => rhs; whnf
            have g51 := hI.kept 51 (by kernel_rfl)
            conv at g51 => rhs; whnf
            have g52 := hI.kept 52 (by kernel_rfl)
            conv at g52 => rhs; whnf
            have g53 := hI.kept 53 (by kernel_rfl)
            conv at g53 => rhs; whnf
            have g54 := hI.kept 54 (by kernel_rfl)
            conv at g54 => rhs; whnf
            have g55 := hI.kept 55 (by kernel_rfl)
            conv at g55 => rhs; whnf
            have g56 := hI.kept 56 (by kernel_rfl)
            conv at g56 => rhs; whnf
            have g57 := hI.kept 57 (by kernel_rfl)
            conv at g57 => rhs; whnf
            have g58 := hI.kept 58 (by kernel_rfl)
            conv at g58 => rhs; whnf
            have g59 := hI.kept 59 (by kernel_rfl)
            conv at g59 => rhs; whnf
            have g60 := hI.kept 60 (by kernel_rfl)
            conv at g60 => rhs; whnf
            have g61 := hI.kept 61 (by kernel_rfl)
            conv at g61 => rhs; whnf
            have g62 := hI.kept 62 (by kernel_rfl)
            conv at g62 => rhs; whnf
            have g68 : act.tmps[68]?.getD undef = undef := hI.kept 68 (by kernel_rfl)
            have g69 : act.tmps[69]?.getD undef = undef := hI.kept 69 (by kernel_rfl)
            have g70 : act.tmps[70]?.getD undef = undef := hI.kept 70 (by kernel_rfl)
            have g71 : act.tmps[71]?.getD undef = undef := hI.kept 71 (by kernel_rfl)
            have g72 : act.tmps[72]?.getD undef = undef := hI.kept 72 (by kernel_rfl)
            have g73 : act.tmps[73]?.getD undef = undef := hI.kept 73 (by kernel_rfl)
            have g74 : act.tmps[74]?.getD undef = undef := hI.kept 74 (by kernel_rfl)
            have g75 : act.tmps[75]?.getD undef = undef := hI.kept 75 (by kernel_rfl)
            have g76 : act.tmps[76]?.getD undef = undef := hI.kept 76 (by kernel_rfl)
            have g77 : act.tmps[77]?.getD undef = undef := hI.kept 77 (by kernel_rfl)
            have g78 : act.tmps[78]?.getD undef = undef := hI.kept 78 (by kernel_rfl)
            have g79 : act.tmps[79]?.getD undef = undef := hI.kept 79 (by kernel_rfl)
            have g80 : act.tmps[80]?.getD undef = undef := hI.kept 80 (by kernel_rfl)
            have g81 : act.tmps[81]?.getD undef = undef := hI.kept 81 (by kernel_rfl)
            have g82 : act.tmps[82]?.getD undef = undef := hI.kept 82 (by kernel_rfl)
            have g83 : act.tmps[83]?.getD undef = undef := hI.kept 83 (by kernel_rfl)
            have g84 : act.tmps[84]?.getD undef = undef := hI.kept 84 (by kernel_rfl)
            have g85 : act.tmps[85]?.getD undef = undef := hI.kept 85 (by kernel_rfl)
            have g86 : act.tmps[86]?.getD undef = undef := hI.kept 86 (by kernel_rfl)
            have g87 : act.tmps[87]?.getD undef = undef := hI.kept 87 (by kernel_rfl)
            have g88 : act.tmps[88]?.getD undef = undef := hI.kept 88 (by kernel_rfl)
            have g89 : act.tmps[89]?.getD undef = undef := hI.kept 89 (by kernel_rfl)
            have g90 : act.tmps[90]?.getD undef = undef := hI.kept 90 (by kernel_rfl)
            have g91 : act.tmps[91]?.getD undef = undef := hI.kept 91 (by kernel_rfl)
            have g92 : act.tmps[92]?.getD undef = undef := hI.kept 92 (by kernel_rfl)
            have g93 : act.tmps[93]?.getD undef = undef := hI.kept 93 (by kernel_rfl)
            have g94 : act.tmps[94]?.getD undef = undef := hI.kept 94 (by kernel_rfl)
            have g95 : act.tmps[95]?.getD undef = undef := hI.kept 95 (by kernel_rfl)
            have g96 : act.tmps[96]?.getD undef = undef := hI.kept 96 (by kernel_rfl)
            have g97 : act.tmps[97]?.getD undef = undef := hI.kept 97 (by kernel_rfl)
            have g98 : act.tmps[98]?.getD undef = undef := hI.kept 98 (by kernel_rfl)
            have g99 : act.tmps[99]?.getD undef = undef := hI.kept 99 (by kernel_rfl)
            have g100 : act.tmps[100]?.getD undef = undef := hI.kept 100 (by kernel_rfl)
            have g101 : act.tmps[101]?.getD undef = undef := hI.kept 101 (by kernel_rfl)
            have g102 : act.tmps[102]?.getD undef = undef := hI.kept 102 (by kernel_rfl)
            have g103 : act.tmps[103]?.getD undef = undef := hI.kept 103 (by kernel_rfl)
            have g104 : act.tmps[104]?.getD undef = undef := hI.kept 104 (by kernel_rfl)
            have g105 : act.tmps[105]?.getD undef = undef := hI.kept 105 (by kernel_rfl)
            have g106 : act.tmps[106]?.getD undef = undef := hI.kept 106 (by kernel_rfl)
            have g107 : act.tmps[107]?.getD undef = undef := hI.kept 107 (by kernel_rfl)
            have g108 : act.tmps[108]?.getD undef = undef := hI.kept 108 (by kernel_rfl)
            have g109 : act.tmps[109]?.getD undef = undef := hI.kept 109 (by kernel_rfl)
            have g110 : act.tmps[110]?.getD undef = undef := hI.kept 110 (by kernel_rfl)
            have g111 : act.tmps[111]?.getD undef = undef := hI.kept 111 (by kernel_rfl)
            have g112 : act.tmps[112]?.getD undef = undef := hI.kept 112 (by kernel_rfl)
            have g113 : act.tmps[113]?.getD undef = undef := hI.kept 113 (by kernel_rfl)
            have g114 : act.tmps[114]?.getD undef = undef := hI.kept 114 (by kernel_rfl)
            have g115 : act.tmps[115]?.getD undef = undef := hI.kept 115 (by kernel_rfl)
            have g116 : act.tmps[116]?.getD undef = undef := hI.kept 116 (by kernel_rfl)
            have g117 : act.tmps[117]?.getD undef = undef := hI.kept 117 (by kernel_rfl)
            have g118 : act.tmps[118]?.getD undef = undef := hI.kept 118 (by kernel_rfl)
            have g119 : act.tmps[119]?.getD undef = undef := hI.kept 119 (by kernel_rfl)
            have g120 : act.tmps[120]?.getD undef = undef := hI.kept 120 (by kernel_rfl)
            have g121 : act.tmps[121]?.getD undef = undef := hI.kept 121 (by kernel_rfl)
            have g122 : act.tmps[122]?.getD undef = undef := hI.kept 122 (by kernel_rfl)
            have g123 : act.tmps[123]?.getD undef = undef := hI.kept 123 (by kernel_rfl)
            have hsz : act.tmps.size = 124 := hI.size.trans (by kernel_rfl)
            have hd := hI.defers
            clear hI hall K0x0 K0x1 K1x0 K1x1 WBx0 WBx1 V0x0 V0x1 V1x0 V1x1 GBx0 GBx1
            obtain ⟨tt, dd⟩ := act
            simp only at g0 g1 g2 g3 g4 g5 g6 g7 g8 g9 g10 g11 g12 g13 g14 g15 g16 g17 g18 g19 g20 g21 g22 g23 g24 g25 g26 g27 g28 g29 g30 g31 g32 g33 g34 g35 g36 g37 g38 g39 g40 g41 g42 g43 g44 g45 g46 g47 g48 g49 g50 g51 g52 g53 g54 g55 g56 g57 g58 g59 g60 g61 g62 g67 g68 g69 g70 g71 g72 g73 g74 g75 g76 g77 g78 g79 g80 g81 g82 g83 g84 g85 g86 g87 g88 g89 g90 g91 g92 g93 g94 g95 g96 g97 g98 g99 g100 g101 g102 g103 g104 g105 g106 g107 g108 g109 g110 g111 g112 g113 g114 g115 g116 g117 g118 g119 g120 g121 g122 g123 hsz hd
            subst hd
            have hl : tt = #[tt[0]?.getD undef, tt[1]?.getD undef, tt[2]?.getD undef, tt[3]?.getD undef, tt[4]?.getD undef, tt[5]?.getD undef, tt[6]?.getD undef, tt[7]?.getD undef, tt[8]?.getD undef, tt[9]?.getD undef, tt[10]?.getD undef, tt[11]?.getD undef, tt[12]?.getD undef, tt[13]?.getD undef, tt[14]?.getD undef, tt[15]?.getD undef, tt[16]?.getD undef, tt[17]?.getD undef, tt[18]?.getD undef, tt[19]?.getD undef, tt[20]?.getD undef, tt[21]?.getD undef, tt[22]?.getD undef, tt[23]?.getD undef, tt[24]?.getD undef, tt[25]?.getD undef, tt[26]?.getD undef, tt[27]?.getD undef, tt[28]?.getD undef, tt[29]?.getD undef, tt[30]?.getD undef, tt[31]?.getD undef, tt[32]?.getD undef, tt[33]?.getD undef, tt[34]?.getD undef, tt[35]?.getD undef, tt[36]?.getD undef, tt[37]?.getD undef, tt[38]?.getD undef, tt[39]?.getD undef, tt[40]?.getD undef, tt[41]?.getD undef, tt[42]?.getD undef, tt[43]?.getD undef, tt[44]?.getD undef, tt[45]?.getD undef, tt[46]?.getD undef, tt[47]?.getD undef, tt[48]?.getD undef, tt[49]?.getD undef, tt[50]?.getD undef, tt[51]?.getD undef, tt[52]?.getD undef, tt[53]?.getD undef, tt[54]?.getD undef, tt[55]?.getD undef, tt[56]?.getD undef, tt[57]?.getD undef, tt[58]?.getD undef, tt[59]?.getD undef, tt[60]?.getD undef, tt[61]?.getD undef, tt[62]?.getD undef, tt[63]?.getD undef, tt[64]?.getD undef, tt[65]?.getD undef, tt[66]?.getD undef, tt[67]?.getD undef, tt[68]?.getD undef, tt[69]?.getD undef, tt[70]?.getD undef, tt[71]?.getD undef, tt[72]?.getD undef, tt[73]?.getD undef, tt[74]?.getD undef, tt[75]?.getD undef, tt[76]?.getD undef, tt[77]?.getD undef, tt[78]?.getD undef, tt[79]?.getD undef, tt[80]?.getD undef, tt[81]?.getD undef, tt[82]?.getD undef, tt[83]?.getD undef, tt[84]?.getD undef, tt[85]?.getD undef, tt[86]?.getD undef, tt[87]?.getD undef, tt[88]?.getD undef, tt[89]?.getD undef, tt[90]?.getD undef, tt[91]?.getD undef, tt[92]?.getD undef, tt[93]?.getD undef, tt[94]?.getD undef, tt[95]?.getD undef, tt[96]?.getD undef, tt[97]?.getD undef, tt[98]?.getD undef, tt[99]?.getD undef, tt[100]?.getD undef, tt[101]?.getD undef, tt[102]?.getD undef, tt[103]?.getD undef, tt[104]?.getD undef, tt[105]?.getD undef, tt[106]?.getD undef, tt[107]?.getD undef, tt[108]?.getD undef, tt[109]?.getD undef, tt[110]?.getD undef, tt[111]?.getD undef, tt[112]?.getD undef, tt[113]?.getD undef, tt[114]?.getD undef, tt[115]?.getD undef, tt[116]?.getD undef, tt[117]?.getD undef, tt[118]?.getD undef, tt[119]?.getD undef, tt[120]?.getD undef, tt[121]?.getD undef, tt[122]?.getD undef, tt[123]?.getD undef] := (arr_lit hsz).trans rfl
            rw [g0, g1, g2, g3, g4, g5, g6, g7, g8, g9, g10, g11, g12, g13, g14, g15, g16, g17, g18, g19, g20, g21, g22, g23, g24, g25, g26, g27, g28, g29, g30, g31, g32, g33, g34, g35, g36, g37, g38, g39, g40, g41, g42, g43, g44, g45, g46, g47, g48, g49, g50, g51, g52, g53, g54, g55, g56, g57, g58, g59, g60, g61, g62, g67, g68, g69, g70, g71, g72, g73, g74, g75, g76, g77, g78, g79, g80, g81, g82, g83, g84, g85, g86, g87, g88, g89, g90, g91, g92, g93, g94, g95, g96, g97, g98, g99, g100, g101, g102, g103, g104, g105, g106, g107, g108, g109, g110, g111, g112, g113, g114, g115, g116, g117, g118, g119, g120, g121, g122, g123] at hl
            clear g0 g1 g2 g3 g4 g5 g6 g7 g8 g9 g10 g11 g12 g13 g14 g15 g16 g17 g18 g19 g20 g21 g22 g23 g24 g25 g26 g27 g28 g29 g30 g31 g32 g33 g34 g35 g36 g37 g38 g39 g40 g41 g42 g43 g44 g45 g46 g47 g48 g49 g50 g51 g52 g53 g54 g55 g56 g57 g58 g59 g60 g61 g62 g67 g68 g69 g70 g71 g72 g73 g74 g75 g76 g77 g78 g79 g80 g81 g82 g83 g84 g85 g86 g87 g88 g89 g90 g91 g92 g93 g94 g95 g96 g97 g98 g99 g100 g101 g102 g103 g104 g105 g106 g107 g108 g109 g110 g111 g112 g113 g114 g115 g116 g117 g118 g119 g120 g121 g122 g123 hsz
            generalize tt[63]?.getD undef = y63 at hl
            generalize tt[64]?.getD undef = y64 at hl
            generalize tt[65]?.getD undef = y65 at hl
            generalize tt[66]?.getD undef = y66 at hl
            subst hl
            obtain ⟨wd12, hww⟩ : ∃ x, x = w3 := ⟨_, rfl⟩
            rw [← hww] at hB ⊢
            clear hww
            have B12 : Hid (Below w.heap.size w wd12) := Lib.hid (below_of B11.out B11.out.size hB)
            have Z12 : Hid (wd11.heap.size ≤ wd12.heap.size) := Lib.hid hB.size
            have K0_12 : Hid (BlkL wd12 (w.heap.size) [.slice A0 a0.length ca0, .slice L0 l0.length cl0]) := Lib.hid (K0_11.out.below hB)
            have K1_12 : Hid (BlkL wd12 (w.heap.size + 1) [.slice A1 a1.length ca1, .slice L1 l1.length cl1]) := Lib.hid (K1_11.out.below hB)
            have WB_9 : Hid (BlkL wd12 cBk [.slice cRa (gLn (mgO a0 l0 a1 l1 u2) (mxL a0 a1 u2)).length cda, .slice cRb (gLn (mgO a0 l0 a1 l1 u2) (mxL l0 l1 u2)).length cdb]) := Lib.hid (WB_8.out.below hB)
            have Xc_9 : Hid (OwnR2 wd12 wd2.heap.size cRa cRb cka ckb (gLn (mgO a0 l0 a1 l1 u2) (mxL a0 a1 u2)) (gLn (mgO a0 l0 a1 l1 u2) (mxL l0 l1 u2))) := Lib.hid (Xc_8.out.below hB)
            have Xx0_8 : Hid (OwnR2 wd12 wd3.heap.size (some ⟨x01, 0, none⟩) (some ⟨x02, 0, none⟩) x01 x02 a0 l0) := Lib.hid (Xx0_7.out.below hB)
            have V0_7 : Hid (BlkL wd12 (wd4.heap.size) [.slice (some ⟨x01, 0, none⟩) a0.length a0.length, .slice (some ⟨x02, 0, none⟩) l0.length l0.length]) := Lib.hid (V0_6.out.below hB)
            have Xx1_6 : Hid (OwnR2 wd12 wd5.heap.size (some ⟨x11, 0, none⟩) (some ⟨x12, 0, none⟩) x11 x12 a1 l1) := Lib.hid (Xx1_5.out.below hB)
            have V1_5 : Hid (BlkL wd12 (wd6.heap.size) [.slice (some ⟨x11, 0, none⟩) a1.length a1.length, .slice (some ⟨x12, 0, none⟩) l1.length l1.length]) := Lib.hid (V1_4.out.below hB)
            have Xg_4 : Hid (OwnR2 wd12 wd7.heap.size gR1 gR2 gg1 gg2 (gLn (mgO a0 l0 a1 l1 u2) (mxL a0 a1 u2)) (gLn (mgO a0 l0 a1 l1 u2) (mxL l0 l1 u2))) := Lib.hid (Xg_3.out.below hB)
            have GB_3 : Hid (BlkL wd12 (wd8.heap.size) [.slice gR1 (gLn (mgO a0 l0 a1 l1 u2) (mxL a0 a1 u2)).length gc1, .slice gR2 (gLn (mgO a0 l0 a1 l1 u2) (mxL l0 l1 u2)).length gc2]) := Lib.hid (GB_2.out.below hB)
            clear K0_11 K1_11 WB_8 Xc_8 Xx0_7 V0_6 Xx1_5 V1_4 Xg_3 GB_2
            clear hB
            obtain ⟨K0x0, K0x1⟩ := K0_12.out.two
            obtain ⟨K1x0, K1x1⟩ := K1_12.out.two
            obtain ⟨WBx0, WBx1⟩ := WB_9.out.two
            obtain ⟨V0x0, V0x1⟩ := V0_7.out.two
            obtain ⟨V1x0, V1x1⟩ := V1_5.out.two
            obtain ⟨GBx0, GBx1⟩ := GB_3.out.two
            go_wp2_with fail
            refine (l_markRose _ _ _ _ _ _ _ (1) a0 l0 _ (Xx0_8.out) (by have := HN0.out; unfold FewS at this; omega) (by omega) _ (by omega)).mono ?_
            rintro e wd13 ⟨rfl, -, t⟩
            have B13 : Hid (Below w.heap.size w wd13) := Lib.hid (t.2.2.2 w B12.out (by intro b hh; have h1 := Xx0bd.out.bd hh; have := Z0.out; have := Z1.out; have := Z2.out; have := Z3.out; have := Y3.out; have := Z4.out; have := Z5.out; have := Y5.out; have := Z6.out; have := Z7.out; have := Y7.out; have := Z8.out; have := Z9.out; have := Y9.out; have := Z10.out; have := Z11.out; have := Z12.out; omega))
            have Z13 : Hid (wd12.heap.size ≤ wd13.heap.size) := Lib.hid t.1
            have K0_13 : Hid (BlkL wd13 (w.heap.size) [.slice A0 a0.length ca0, .slice L0 l0.length cl0]) := Lib.hid (K0_12.out.turnS t (by intro hh; have h1 := Xx0bd.out.bd hh; have := Z0.out; have := Z1.out; have := Z2.out; have := Z3.out; have := Y3.out; have := Z4.out; have := Z5.out; have := Y5.out; have := Z6.out; have := Z7.out; have := Y7.out; have := Z8.out; have := Z9.out; have := Y9.out; have := Z10.out; have := Z11.out; have := Z12.out; omega))
            have K1_13 : Hid (BlkL wd13 (w.heap.size + 1) [.slice A1 a1.length ca1, .slice L1 l1.length cl1]) := Lib.hid (K1_12.out.turnS t (by intro hh; have h1 := Xx0bd.out.bd hh; have := Z0.out; have := Z1.out; have := Z2.out; have := Z3.out; have := Y3.out; have := Z4.out; have := Z5.out; have := Y5.out; have := Z6.out; have := Z7.out; have := Y7.out; have := Z8.out; have := Z9.out; have := Y9.out; have := Z10.out; have := Z11.out; have := Z12.out; omega))
            have WB_10 : Hid (BlkL wd13 cBk [.slice cRa (gLn (mgO a0 l0 a1 l1 u2) (mxL a0 a1 u2)).length cda, .slice cRb (gLn (mgO a0 l0 a1 l1 u2) (mxL l0 l1 u2)).length cdb]) := Lib.hid (WB_9.out.turnS t (by intro hh; have h1 := Xx0bd.out.bd hh; have := Z0.out; have := Z1.out; have := Z2.out; have := Z3.out; have := Y3.out; have := Z4.out; have := Z5.out; have := Y5.out; have := Z6.out; have := Z7.out; have := Y7.out; have := Z8.out; have := Z9.out; have := Y9.out; have := Z10.out; have := Z11.out; have := Z12.out; omega))
            have Xc_10 : Hid (OwnR2 wd13 wd2.heap.size cRa cRb cka ckb (gLn (mgO a0 l0 a1 l1 u2) (mxL a0 a1 u2)) (gLn (mgO a0 l0 a1 l1 u2) (mxL l0 l1 u2))) := Lib.hid (Xc_9.out.turnS t (by intro c hc hh; have h1 := Xx0bd.out.bd hh; have h2 := Xcbd.out.bd hc; have := Z0.out; have := Z1.out; have := Z2.out; have := Z3.out; have := Y3.out; have := Z4.out; have := Z5.out; have := Y5.out; have := Z6.out; have := Z7.out; have := Y7.out; have := Z8.out; have := Z9.out; have := Y9.out; have := Z10.out; have := Z11.out; have := Z12.out; omega))
            have V0_8 : Hid (BlkL wd13 (wd4.heap.size) [.slice (some ⟨x01, 0, none⟩) a0.length a0.length, .slice (some ⟨x02, 0, none⟩) l0.length l0.length]) := Lib.hid (V0_7.out.turnS t (by intro hh; have h1 := Xx0bd.out.bd hh; have := Z0.out; have := Z1.out; have := Z2.out; have := Z3.out; have := Y3.out; have := Z4.out; have := Z5.out; have := Y5.out; have := Z6.out; have := Z7.out; have := Y7.out; have := Z8.out; have := Z9.out; have := Y9.out; have := Z10.out; have := Z11.out; have := Z12.out; omega))
            have Xx1_7 : Hid (OwnR2 wd13 wd5.heap.size (some ⟨x11, 0, none⟩) (some ⟨x12, 0, none⟩) x11 x12 a1 l1) := Lib.hid (Xx1_6.out.turnS t (by intro c hc hh; have h1 := Xx0bd.out.bd hh; have h2 := Xx1bd.out.bd hc; have := Z0.out; have := Z1.out; have := Z2.out; have := Z3.out; have := Y3.out; have := Z4.out; have := Z5.out; have := Y5.out; have := Z6.out; have := Z7.out; have := Y7.out; have := Z8.out; have := Z9.out; have := Y9.out; have := Z10.out; have := Z11.out; have := Z12.out; omega))
            have V1_6 : Hid (BlkL wd13 (wd6.heap.size) [.slice (some ⟨x11, 0, none⟩) a1.length a1.length, .slice (some ⟨x12, 0, none⟩) l1.length l1.length]) := Lib.hid (V1_5.out.turnS t (by intro hh; have h1 := Xx0bd.out.bd hh; have := Z0.out; have := Z1.out; have := Z2.out; have := Z3.out; have := Y3.out; have := Z4.out; have := Z5.out; have := Y5.out; have := Z6.out; have := Z7.out; have := Y7.out; have := Z8.out; have := Z9.out; have := Y9.out; have := Z10.out; have := Z11.out; have := Z12.out; omega))
            have Xg_5 : Hid (OwnR2 wd13 wd7.heap.size gR1 gR2 gg1 gg2 (gLn (mgO a0 l0 a1 l1 u2) (mxL a0 a1 u2)) (gLn (mgO a0 l0 a1 l1 u2) (mxL l0 l1 u2))) := Lib.hid (Xg_4.out.turnS t (by intro c hc hh; have h1 := Xx0bd.out.bd hh; have h2 := Xgbd.out.bd hc; have := Z0.out; have := Z1.out; have := Z2.out; have := Z3.out; have := Y3.out; have := Z4.out; have := Z5.out; have := Y5.out; have := Z6.out; have := Z7.out; have := Y7.out; have := Z8.out; have := Z9.out; have := Y9.out; have := Z10.out; have := Z11.out; have := Z12.out; omega))
            have GB_4 : Hid (BlkL wd13 (wd8.heap.size) [.slice gR1 (gLn (mgO a0 l0 a1 l1 u2) (mxL a0 a1 u2)).length gc1, .slice gR2 (gLn (mgO a0 l0 a1 l1 u2) (mxL l0 l1 u2)).length gc2]) := Lib.hid (GB_3.out.turnS t (by intro hh; have h1 := Xx0bd.out.bd hh; have := Z0.out; have := Z1.out; have := Z2.out; have := Z3.out; have := Y3.out; have := Z4.out; have := Z5.out; have := Y5.out; have := Z6.out; have := Z7.out; have := Y7.out; have := Z8.out; have := Z9.out; have := Y9.out; have := Z10.out; have := Z11.out; have := Z12.out; omega))
            clear K0x0 K0x1 K1x0 K1x1 WBx0 WBx1 V0x0 V0x1 V1x0 V1x1 GBx0 GBx1
            clear K0_12 K1_12 WB_9 Xc_9 V0_7 Xx1_6 V1_5 Xg_4 GB_3
            clear t
            have hk0 : (0 : Int) ≤ ((1 : Nat) : Int) + (a0.length : Int) + (l0.length : Int) := by omega
            obtain ⟨K0x0, K0x1⟩ := K0_13.out.two
            obtain ⟨K1x0, K1x1⟩ := K1_13.out.two
            obtain ⟨WBx0, WBx1⟩ := WB_10.out.two
            obtain ⟨V0x0, V0x1⟩ := V0_8.out.two
            obtain ⟨V1x0, V1x1⟩ := V1_6.out.two
            obtain ⟨GBx0, GBx1⟩ := GB_4.out.two
            go_wp2_with fail
            refine (l_markRose _ _ _ _ _ _ _ (1 + a0.length + l0.length) a1 l1 _ (Xx1_7.out) (by have := HN1.out; unfold FewS at this; omega) (by omega) _ (by omega)).mono ?_
            rintro e wd14 ⟨rfl, -, t⟩
            have B14 : Hid (Below w.heap.size w wd14) := Lib.hid (t.2.2.2 w B13.out (by intro b hh; have h1 := Xx1bd.out.bd hh; have := Z0.out; have := Z1.out; have := Z2.out; have := Z3.out; have := Y3.out; have := Z4.out; have := Z5.out; have := Y5.out; have := Z6.out; have := Z7.out; have := Y7.out; have := Z8.out; have := Z9.out; have := Y9.out; have := Z10.out; have := Z11.out; have := Z12.out; have := Z13.out; omega))
            have Z14 : Hid (wd13.heap.size ≤ wd14.heap.size) := Lib.hid t.1
            have K0_14 : Hid (BlkL wd14 (w.heap.size) [.slice A0 a0.length ca0, .slice L0 l0.length cl0]) := Lib.hid (K0_13.out.turnS t (by intro hh; have h1 := Xx1bd.out.bd hh; have := Z0.out; have := Z1.out; have := Z2.out; have := Z3.out; have := Y3.out; have := Z4.out; have := Z5.out; have := Y5.out; have := Z6.out; have := Z7.out; have := Y7.out; have := Z8.out; have := Z9.out; have := Y9.out; have := Z10.out; have := Z11.out; have := Z12.out; have := Z13.out; omega))
            have K1_14 : Hid (BlkL wd14 (w.heap.size + 1) [.slice A1 a1.length ca1, .slice L1 l1.length cl1]) := Lib.hid (K1_13.out.turnS t (by intro hh; have h1 := Xx1bd.out.bd hh; have := Z0.out; have := Z1.out; have := Z2.out; have := Z3.out; have := Y3.out; have := Z4.out; have := Z5.out; have := Y5.out; have := Z6.out; have := Z7.out; have := Y7.out; have := Z8.out; have := Z9.out; have := Y9.out; have := Z10.out; have := Z11.out; have := Z12.out; have := Z13.out; omega))
            have WB_11 : Hid (BlkL wd14 cBk [.slice cRa (gLn (mgO a0 l0 a1 l1 u2) (mxL a0 a1 u2)).length cda, .slice cRb (gLn (mgO a0 l0 a1 l1 u2) (mxL l0 l1 u2)).length cdb]) := Lib.hid (WB_10.out.turnS t (by intro hh; have h1 := Xx1bd.out.bd hh; have := Z0.out; have := Z1.out; have := Z2.out; have := Z3.out; have := Y3.out; have := Z4.out; have := Z5.out; have := Y5.out; have := Z6.out; have := Z7.out; have := Y7.out; have := Z8.out; have := Z9.out; have := Y9.out; have := Z10.out; have := Z11.out; have := Z12.out; have := Z13.out; omega))
            have Xc_11 : Hid (OwnR2 wd14 wd2.heap.size cRa cRb cka ckb (gLn (mgO a0 l0 a1 l1 u2) (mxL a0 a1 u2)) (gLn (mgO a0 l0 a1 l1 u2) (mxL l0 l1 u2))) := Lib.hid (Xc_10.out.turnS t (by intro c hc hh; have h1 := Xx1bd.out.bd hh; have h2 := Xcbd.out.bd hc; have := Z0.out; have := Z1.out; have := Z2.out; have := Z3.out; have := Y3.out; have := Z4.out; have := Z5.out; have := Y5.out; have := Z6.out; have := Z7.out; have := Y7.out; have := Z8.out; have := Z9.out; have := Y9.out; have := Z10.out; have := Z11.out; have := Z12.out; have := Z13.out; omega))
            have V0_9 : Hid (BlkL wd14 (wd4.heap.size) [.slice (some ⟨x01, 0, none⟩) a0.length a0.length, .slice (some ⟨x02, 0, none⟩) l0.length l0.length]) := Lib.hid (V0_8.out.turnS t (by intro hh; have h1 := Xx1bd.out.bd hh; have := Z0.out; have := Z1.out; have := Z2.out; have := Z3.out; have := Y3.out; have := Z4.out; have := Z5.out; have := Y5.out; have := Z6.out; have := Z7.out; have := Y7.out; have := Z8.out; have := Z9.out; have := Y9.out; have := Z10.out; have := Z11.out; have := Z12.out; have := Z13.out; omega))
            have V1_7 : Hid (BlkL wd14 (wd6.heap.size) [.slice (some ⟨x11, 0, none⟩) a1.length a1.length, .slice (some ⟨x12, 0, none⟩) l1.length l1.length]) := Lib.hid (V1_6.out.turnS t (by intro hh; have h1 := Xx1bd.out.bd hh; have := Z0.out; have := Z1.out; have := Z2.out; have := Z3.out; have := Y3.out; have := Z4.out; have := Z5.out; have := Y5.out; have := Z6.out; have := Z7.out; have := Y7.out; have := Z8.out; have := Z9.out; have := Y9.out; have := Z10.out; have := Z11.out; have := Z12.out; have := Z13.out; omega))
            have Xg_6 : Hid (OwnR2 wd14 wd7.heap.size gR1 gR2 gg1 gg2 (gLn (mgO a0 l0 a1 l1 u2) (mxL a0 a1 u2)) (gLn (mgO a0 l0 a1 l1 u2) (mxL l0 l1 u2))) := Lib.hid (Xg_5.out.turnS t (by intro c hc hh; have h1 := Xx1bd.out.bd hh; have h2 := Xgbd.out.bd hc; have := Z0.out; have := Z1.out; have := Z2.out; have := Z3.out; have := Y3.out; have := Z4.out; have := Z5.out; have := Y5.out; have := Z6.out; have := Z7.out; have := Y7.out; have := Z8.out; have := Z9.out; have := Y9.out; have := Z10.out; have := Z11.out; have := Z12.out; have := Z13.out; omega))
            have GB_5 : Hid (BlkL wd14 (wd8.heap.size) [.slice gR1 (gLn (mgO a0 l0 a1 l1 u2) (mxL a0 a1 u2)).length gc1, .slice gR2 (gLn (mgO a0 l0 a1 l1 u2) (mxL l0 l1 u2)).length gc2]) := Lib.hid (GB_4.out.turnS t (by intro hh; have h1 := Xx1bd.out.bd hh; have := Z0.out; have := Z1.out; have := Z2.out; have := Z3.out; have := Y3.out; have := Z4.out; have := Z5.out; have := Y5.out; have := Z6.out; have := Z7.out; have := Y7.out; have := Z8.out; have := Z9.out; have := Y9.out; have := Z10.out; have := Z11.out; have := Z12.out; have := Z13.out; omega))
            clear K0x0 K0x1 K1x0 K1x1 WBx0 WBx1 V0x0 V0x1 V1x0 V1x1 GBx0 GBx1
            clear K0_13 K1_13 WB_10 Xc_10 V0_8 V1_6 Xg_5 GB_4
            clear t
            have hk1 : (0 : Int) ≤ ((1 : Nat) : Int) + (a0.length : Int) + (l0.length : Int) + (a1.length : Int) + (l1.length : Int) := by omega
            obtain ⟨K0x0, K0x1⟩ := K0_14.out.two
            obtain ⟨K1x0, K1x1⟩ := K1_14.out.two
            obtain ⟨WBx0, WBx1⟩ := WB_11.out.two
            obtain ⟨V0x0, V0x1⟩ := V0_9.out.two
            obtain ⟨V1x0, V1x1⟩ := V1_7.out.two
            obtain ⟨GBx0, GBx1⟩ := GB_5.out.two
            go_wp2_with fail
            refine (l_eqRose _ _ _ _ _ _ _ _ (gLn (mgO a0 l0 a1 l1 u2) (mxL a0 a1 u2)) (gLn (mgO a0 l0 a1 l1 u2) (mxL l0 l1 u2)) _ Xg_6.out.fl Xc_11.out.fl HF.out).mono ?_
            rintro e wd15 ⟨rfl, b⟩
            have B15 : Hid (Below w.heap.size w wd15) := Lib.hid (below_of B14.out B14.out.size b)
            have Z15 : Hid (wd14.heap.size ≤ wd15.heap.size) := Lib.hid b.size
            have K0_15 : Hid (BlkL wd15 (w.heap.size) [.slice A0 a0.length ca0, .slice L0 l0.length cl0]) := Lib.hid (K0_14.out.below b)
            have K1_15 : Hid (BlkL wd15 (w.heap.size + 1) [.slice A1 a1.length ca1, .slice L1 l1.length cl1]) := Lib.hid (K1_14.out.below b)
            have WB_12 : Hid (BlkL wd15 cBk [.slice cRa (gLn (mgO a0 l0 a1 l1 u2) (mxL a0 a1 u2)).length cda, .slice cRb (gLn (mgO a0 l0 a1 l1 u2) (mxL l0 l1 u2)).length cdb]) := Lib.hid (WB_11.out.below b)
            have Xc_12 : Hid (OwnR2 wd15 wd2.heap.size cRa cRb cka ckb (gLn (mgO a0 l0 a1 l1 u2) (mxL a0 a1 u2)) (gLn (mgO a0 l0 a1 l1 u2) (mxL l0 l1 u2))) := Lib.hid (Xc_11.out.below b)
            have V0_10 : Hid (BlkL wd15 (wd4.heap.size) [.slice (some ⟨x01, 0, none⟩) a0.length a0.length, .slice (some ⟨x02, 0, none⟩) l0.length l0.length]) := Lib.hid (V0_9.out.below b)
            have V1_8 : Hid (BlkL wd15 (wd6.heap.size) [.slice (some ⟨x11, 0, none⟩) a1.length a1.length, .slice (some ⟨x12, 0, none⟩) l1.length l1.length]) := Lib.hid (V1_7.out.below b)
            have Xg_7 : Hid (OwnR2 wd15 wd7.heap.size gR1 gR2 gg1 gg2 (gLn (mgO a0 l0 a1 l1 u2) (mxL a0 a1 u2)) (gLn (mgO a0 l0 a1 l1 u2) (mxL l0 l1 u2))) := Lib.hid (Xg_6.out.below b)
            have GB_6 : Hid (BlkL wd15 (wd8.heap.size) [.slice gR1 (gLn (mgO a0 l0 a1 l1 u2) (mxL a0 a1 u2)).length gc1, .slice gR2 (gLn (mgO a0 l0 a1 l1 u2) (mxL l0 l1 u2)).length gc2]) := Lib.hid (GB_5.out.below b)
            clear K0x0 K0x1 K1x0 K1x1 WBx0 WBx1 V0x0 V0x1 V1x0 V1x1 GBx0 GBx1
            clear K0_14 K1_14 WB_11 Xc_11 V0_9 V1_7 Xg_6 GB_5
            clear b
            obtain ⟨K0x0, K0x1⟩ := K0_15.out.two
            obtain ⟨K1x0, K1x1⟩ := K1_15.out.two
            obtain ⟨WBx0, WBx1⟩ := WB_12.out.two
            obtain ⟨V0x0, V0x1⟩ := V0_10.out.two
            obtain ⟨V1x0, V1x1⟩ := V1_8.out.two
            obtain ⟨GBx0, GBx1⟩ := GB_6.out.two
            go_wp2_with fail
            refine (l_markRose _ _ _ _ _ _ _ 1 (gLn (mgO a0 l0 a1 l1 u2) (mxL a0 a1 u2)) (gLn (mgO a0 l0 a1 l1 u2) (mxL l0 l1 u2)) _ (Xg_7.out) (by have := HF.out; unfold FewS at this; omega) (by omega) _ rfl).mono ?_
            rintro e wd16 ⟨rfl, om, t⟩
            have B16 : Hid (Below w.heap.size w wd16) := Lib.hid (t.2.2.2 w B15.out (by intro b hh; have h1 := Xgbd.out.bd hh; have := Z0.out; have := Z1.out; have := Z2.out; have := Z3.out; have := Y3.out; have := Z4.out; have := Z5.out; have := Y5.out; have := Z6.out; have := Z7.out; have := Y7.out; have := Z8.out; have := Z9.out; have := Y9.out; have := Z10.out; have := Z11.out; have := Z12.out; have := Z13.out; have := Z14.out; have := Z15.out; omega))
            have Z16 : Hid (wd15.heap.size ≤ wd16.heap.size) := Lib.hid t.1
            have K0_16 : Hid (BlkL wd16 (w.heap.size) [.slice A0 a0.length ca0, .slice L0 l0.length cl0]) := Lib.hid (K0_15.out.turnS t (by intro hh; have h1 := Xgbd.out.bd hh; have := Z0.out; have := Z1.out; have := Z2.out; have := Z3.out; have := Y3.out; have := Z4.out; have := Z5.out; have := Y5.out; have := Z6.out; have := Z7.out; have := Y7.out; have := Z8.out; have := Z9.out; have := Y9.out; have := Z10.out; have := Z11.out; have := Z12.out; have := Z13.out; have := Z14.out; have := Z15.out; omega))
            have K1_16 : Hid (BlkL wd16 (w.heap.size + 1) [.slice A1 a1.length ca1, .slice L1 l1.length cl1]) := Lib.hid (K1_15.out.turnS t (by intro hh; have h1 := Xgbd.out.bd hh; have := Z0.out; have := Z1.out; have := Z2.out; have := Z3.out; have := Y3.out; have := Z4.out; have := Z5.out; have := Y5.out; have := Z6.out; have := Z7.out; have := Y7.out; have := Z8.out; have := Z9.out; have := Y9.out; have := Z10.out; have := Z11.out; have := Z12.out; have := Z13.out; have := Z14.out; have := Z15.out; omega))
            have WB_13 : Hid (BlkL wd16 cBk [.slice cRa (gLn (mgO a0 l0 a1 l1 u2) (mxL a0 a1 u2)).length cda, .slice cRb (gLn (mgO a0 l0 a1 l1 u2) (mxL l0 l1 u2)).length cdb]) := Lib.hid (WB_12.out.turnS t (by intro hh; have h1 := Xgbd.out.bd hh; have := Z0.out; have := Z1.out; have := Z2.out; have := Z3.out; have := Y3.out; have := Z4.out; have := Z5.out; have := Y5.out; have := Z6.out; have := Z7.out; have := Y7.out; have := Z8.out; have := Z9.out; have := Y9.out; have := Z10.out; have := Z11.out; have := Z12.out; have := Z13.out; have := Z14.out; have := Z15.out; omega))
            have Xc_13 : Hid (OwnR2 wd16 wd2.heap.size cRa cRb cka ckb (gLn (mgO a0 l0 a1 l1 u2) (mxL a0 a1 u2)) (gLn (mgO a0 l0 a1 l1 u2) (mxL l0 l1 u2))) := Lib.hid (Xc_12.out.turnS t (by intro c hc hh; have h1 := Xgbd.out.bd hh; have h2 := Xcbd.out.bd hc; have := Z0.out; have := Z1.out; have := Z2.out; have := Z3.out; have := Y3.out; have := Z4.out; have := Z5.out; have := Y5.out; have := Z6.out; have := Z7.out; have := Y7.out; have := Z8.out; have := Z9.out; have := Y9.out; have := Z10.out; have := Z11.out; have := Z12.out; have := Z13.out; have := Z14.out; have := Z15.out; omega))
            have V0_11 : Hid (BlkL wd16 (wd4.heap.size) [.slice (some ⟨x01, 0, none⟩) a0.length a0.length, .slice (some ⟨x02, 0, none⟩) l0.length l0.length]) := Lib.hid (V0_10.out.turnS t (by intro hh; have h1 := Xgbd.out.bd hh; have := Z0.out; have := Z1.out; have := Z2.out; have := Z3.out; have := Y3.out; have := Z4.out; have := Z5.out; have := Y5.out; have := Z6.out; have := Z7.out; have := Y7.out; have := Z8.out; have := Z9.out; have := Y9.out; have := Z10.out; have := Z11.out; have := Z12.out; have := Z13.out; have := Z14.out; have := Z15.out; omega))
            have V1_9 : Hid (BlkL wd16 (wd6.heap.size) [.slice (some ⟨x11, 0, none⟩) a1.length a1.length, .slice (some ⟨x12, 0, none⟩) l1.length l1.length]) := Lib.hid (V1_8.out.turnS t (by intro hh; have h1 := Xgbd.out.bd hh; have := Z0.out; have := Z1.out; have := Z2.out; have := Z3.out; have := Y3.out; have := Z4.out; have := Z5.out; have := Y5.out; have := Z6.out; have := Z7.out; have := Y7.out; have := Z8.out; have := Z9.out; have := Y9.out; have := Z10.out; have := Z11.out; have := Z12.out; have := Z13.out; have := Z14.out; have := Z15.out; omega))
            have GB_7 : Hid (BlkL wd16 (wd8.heap.size) [.slice gR1 (gLn (mgO a0 l0 a1 l1 u2) (mxL a0 a1 u2)).length gc1, .slice gR2 (gLn (mgO a0 l0 a1 l1 u2) (mxL l0 l1 u2)).length gc2]) := Lib.hid (GB_6.out.turnS t (by intro hh; have h1 := Xgbd.out.bd hh; have := Z0.out; have := Z1.out; have := Z2.out; have := Z3.out; have := Y3.out; have := Z4.out; have := Z5.out; have := Y5.out; have := Z6.out; have := Z7.out; have := Y7.out; have := Z8.out; have := Z9.out; have := Y9.out; have := Z10.out; have := Z11.out; have := Z12.out; have := Z13.out; have := Z14.out; have := Z15.out; omega))
            have XM : Hid (OwnR2 wd16 wd7.heap.size gR1 gR2 gg1 gg2 (marks 1 (gLn (mgO a0 l0 a1 l1 u2) (mxL a0 a1 u2)).length) (marks (1 + (gLn (mgO a0 l0 a1 l1 u2) (mxL a0 a1 u2)).length) (gLn (mgO a0 l0 a1 l1 u2) (mxL l0 l1 u2)).length)) := Lib.hid (om)
            clear K0x0 K0x1 K1x0 K1x1 WBx0 WBx1 V0x0 V0x1 V1x0 V1x1 GBx0 GBx1
            clear K0_15 K1_15 WB_12 Xc_12 V0_10 V1_8 GB_6
            clear t om
            have hm : (0 : Int) ≤ ((1 : Nat) : Int) + ((gLn (mgO a0 l0 a1 l1 u2) (mxL a0 a1 u2)).length : Int) + ((gLn (mgO a0 l0 a1 l1 u2) (mxL l0 l1 u2)).length : Int) := by omega
            obtain ⟨K0x0, K0x1⟩ := K0_16.out.two
            obtain ⟨K1x0, K1x1⟩ := K1_16.out.two
            obtain ⟨WBx0, WBx1⟩ := WB_13.out.two
            obtain ⟨V0x0, V0x1⟩ := V0_11.out.two
            obtain ⟨V1x0, V1x1⟩ := V1_9.out.two
            obtain ⟨GBx0, GBx1⟩ := GB_7.out.two
            go_wp2_with fail
            refine (l_heldRose _ _ _ _ _ _ _ 1 _ _ _ (XM.out) (by have := HF.out; unfold FewS at this; omega) (by omega) _ rfl).mono ?_
            rintro e wd17 ⟨rfl, b⟩
            have B17 : Hid (Below w.heap.size w wd17) := Lib.hid (below_of B16.out B16.out.size b)
            have Z17 : Hid (wd16.heap.size ≤ wd17.heap.size) := Lib.hid b.size
            have K0_17 : Hid (BlkL wd17 (w.heap.size) [.slice A0 a0.length ca0, .slice L0 l0.length cl0]) := Lib.hid (K0_16.out.below b)
            have K1_17 : Hid (BlkL wd17 (w.heap.size + 1) [.slice A1 a1.length ca1, .slice L1 l1.length cl1]) := Lib.hid (K1_16.out.below b)
            have WB_14 : Hid (BlkL wd17 cBk [.slice cRa (gLn (mgO a0 l0 a1 l1 u2) (mxL a0 a1 u2)).length cda, .slice cRb (gLn (mgO a0 l0 a1 l1 u2) (mxL l0 l1 u2)).length cdb]) := Lib.hid (WB_13.out.below b)
            have Xc_14 : Hid (OwnR2 wd17 wd2.heap.size cRa cRb cka ckb (gLn (mgO a0 l0 a1 l1 u2) (mxL a0 a1 u2)) (gLn (mgO a0 l0 a1 l1 u2) (mxL l0 l1 u2))) := Lib.hid (Xc_13.out.below b)
            have V0_12 : Hid (BlkL wd17 (wd4.heap.size) [.slice (some ⟨x01, 0, none⟩) a0.length a0.length, .slice (some ⟨x02, 0, none⟩) l0.length l0.length]) := Lib.hid (V0_11.out.below b)
            have V1_10 : Hid (BlkL wd17 (wd6.heap.size) [.slice (some ⟨x11, 0, none⟩) a1.length a1.length, .slice (some ⟨x12, 0, none⟩) l1.length l1.length]) := Lib.hid (V1_9.out.below b)
            have GB_8 : Hid (BlkL wd17 (wd8.heap.size) [.slice gR1 (gLn (mgO a0 l0 a1 l1 u2) (mxL a0 a1 u2)).length gc1, .slice gR2 (gLn (mgO a0 l0 a1 l1 u2) (mxL l0 l1 u2)).length gc2]) := Lib.hid (GB_7.out.below b)
            have XM_1 : Hid (OwnR2 wd17 wd7.heap.size gR1 gR2 gg1 gg2 (marks 1 (gLn (mgO a0 l0 a1 l1 u2) (mxL a0 a1 u2)).length) (marks (1 + (gLn (mgO a0 l0 a1 l1 u2) (mxL a0 a1 u2)).length) (gLn (mgO a0 l0 a1 l1 u2) (mxL l0 l1 u2)).length)) := Lib.hid (XM.out.below b)
            clear K0x0 K0x1 K1x0 K1x1 WBx0 WBx1 V0x0 V0x1 V1x0 V1x1 GBx0 GBx1
            clear K0_16 K1_16 WB_13 Xc_13 V0_11 V1_9 GB_7 XM
            clear b
            obtain ⟨K0x0, K0x1⟩ := K0_17.out.two
            obtain ⟨K1x0, K1x1⟩ := K1_17.out.two
            obtain ⟨WBx0, WBx1⟩ := WB_14.out.two
            obtain ⟨V0x0, V0x1⟩ := V0_12.out.two
            obtain ⟨V1x0, V1x1⟩ := V1_10.out.two
            obtain ⟨GBx0, GBx1⟩ := GB_8.out.two
            go_wp2_with fail
            clear K0x0 K0x1 K1x0 K1x1 WBx0 WBx1 V0x0 V0x1 V1x0 V1x1 GBx0 GBx1
            refine wp_region_inv7B (fun iq wv v => match iq with
              | 0 => v = .agg #[.slice A0 a0.length ca0, .slice L0 l0.length cl0]
              | 1 => ∃ q1 q2, v = .agg #[.slice (some ⟨q1, 0, none⟩) a0.length a0.length, .slice (some ⟨q2, 0, none⟩) l0.length l0.length] ∧ OwnR2 wv wd17.heap.size (some ⟨q1, 0, none⟩) (some ⟨q2, 0, none⟩) q1 q2 a0 l0
              | 2 => v = .agg #[.slice A1 a1.length ca1, .slice L1 l1.length cl1]
              | 3 => ∃ q1 q2, v = .agg #[.slice (some ⟨q1, 0, none⟩) a1.length a1.length, .slice (some ⟨q2, 0, none⟩) l1.length l1.length] ∧ OwnR2 wv wd17.heap.size (some ⟨q1, 0, none⟩) (some ⟨q2, 0, none⟩) q1 q2 a1 l1
              | 4 => v = .float .f32 u2
              | 5 => WGiv wd17.heap.size (mgO a0 l0 a1 l1 u2) (mxL a0 a1 u2) (mxL l0 l1 u2) wv v
              | 6 => WGiv wd17.heap.size (mgO a0 l0 a1 l1 u2) (mxL a0 a1 u2) (mxL l0 l1 u2) wv v
              | 7 => WAgg wd17.heap.size (mgO a0 l0 a1 l1 u2) (mxL a0 a1 u2) (mxL l0 l1 u2) wv v
              | 8 => v = .bool (mgO a0 l0 a1 l1 u2)
              | 9 => ∃ B, v = .pointer (some ⟨B, 0, none⟩)
              | 10 => True
              | 11 => v = .bool (mgO a0 l0 a1 l1 u2)
              | _ => False) (CMs wd17 9 10 17 (mgO a0 l0 a1 l1 u2) (mxL a0 a1 u2) (mxL l0 l1 u2)) (fun wa wb => KO wa wb) ?hmono (by kernel_rfl) (by kernel_rfl) CMs.start ?hop ?hend
            case hmono =>
              intro i wa wb v hR hV
              rcases i with _ | _ | _ | _ | _ | _ | _ | _ | _ | _ | _ | _ | i
              · exact hV
              · obtain ⟨q1, q2, rfl, ho⟩ := hV; exact ⟨q1, q2, rfl, ho.ko hR⟩
              · exact hV
              · obtain ⟨q1, q2, rfl, ho⟩ := hV; exact ⟨q1, q2, rfl, ho.ko hR⟩
              · exact hV
              · exact hV.ko hR
              · exact hV.ko hR
              · exact hV.ko hR
              · exact hV
              · exact hV
              · exact hV
              · exact hV
              · exact hV
            case hop =>
              intro q o hq listed act w3 hI hCA hnot hcl hall
              have hC := hCA
              have hB := hC.below
              have hlen : listed.size = 12 := hI.len
              obtain ⟨K0x0, K0x1⟩ := (K0_17.out.below hB).two
              obtain ⟨K1x0, K1x1⟩ := (K1_17.out.below hB).two
              obtain ⟨WBx0, WBx1⟩ := (WB_14.out.below hB).two
              obtain ⟨V0x0, V0x1⟩ := (V0_12.out.below hB).two
              obtain ⟨V1x0, V1x1⟩ := (V1_10.out.below hB).two
              obtain ⟨GBx0, GBx1⟩ := (GB_8.out.below hB).two
              rcases q with _ | _ | _ | _ | _ | _ | _ | _ | _ | _ | _ | _ | q
              · simp at hq; subst hq
                have g3 : act.tmps[3]?.getD undef = .pointer (some ⟨w.heap.size, 0, none⟩) := hI.kept 3 (by kernel_rfl)
                clear hI hall hnot hcl
                refine .inl ⟨wanted_none rfl, ?_⟩
                unfold Oper.wp
                go_simp
                all_goals exact ⟨_, rfl, KO.of_below (Below.refl _ _), rfl, CMs.step (k := 0) hC hlen (by decide) (by decide) (by decide) 99 (by decide) _ (Below.refl _ _)⟩
              · simp at hq; subst hq
                have g99 : act.tmps[99]?.getD undef = .agg #[.slice A0 a0.length ca0, .slice L0 l0.length cl0] := hI.has 0 99 rfl (hall ⟨0, .data⟩ (by simp) rfl)
                clear hI hall hnot hcl
                refine .inl ⟨wanted_none rfl, ?_⟩
                unfold Oper.wp
                go_simp
                refine (l_toRose A0 L0 ca0 cl0 a0 l0 _ (HP0.out.below (below_of B17.out B17.out.size hB)) HN0.out).mono ?_
                rintro e w4 ⟨q1, q2, rfl, ho, b4⟩
                exact ⟨_, rfl, KO.of_below b4, ⟨q1, q2, rfl, OwnR2.of ho.2.2.1 ho.2.2.2 (by have := ho.1; have := hB.size; omega) ho.2.1⟩, CMs.step (k := 1) hC hlen (by decide) (by decide) (by decide) 100 (by decide) _ b4⟩
              · simp at hq; subst hq
                have g4 : act.tmps[4]?.getD undef = .pointer (some ⟨(w.heap.size + 1), 0, none⟩) := hI.kept 4 (by kernel_rfl)
                clear hI hall hnot hcl
                refine .inl ⟨wanted_none rfl, ?_⟩
                unfold Oper.wp
                go_simp
                all_goals exact ⟨_, rfl, KO.of_below (Below.refl _ _), rfl, CMs.step (k := 2) hC hlen (by decide) (by decide) (by decide) 101 (by decide) _ (Below.refl _ _)⟩
              · simp at hq; subst hq
                have g101 : act.tmps[101]?.getD undef = .agg #[.slice A1 a1.length ca1, .slice L1 l1.length cl1] := hI.has 2 101 rfl (hall ⟨2, .data⟩ (by simp) rfl)
                clear hI hall hnot hcl
                refine .inl ⟨wanted_none rfl, ?_⟩
                unfold Oper.wp
                go_simp
                refine (l_toRose A1 L1 ca1 cl1 a1 l1 _ (HP1.out.below (below_of B17.out B17.out.size hB)) HN1.out).mono ?_
                rintro e w4 ⟨q1, q2, rfl, ho, b4⟩
                exact ⟨_, rfl, KO.of_below b4, ⟨q1, q2, rfl, OwnR2.of ho.2.2.1 ho.2.2.2 (by have := ho.1; have := hB.size; omega) ho.2.1⟩, CMs.step (k := 3) hC hlen (by decide) (by decide) (by decide) 102 (by decide) _ b4⟩
              · simp at hq; subst hq
                have g2 : act.tmps[2]?.getD undef = .float .f32 u2 := hI.kept 2 (by kernel_rfl)
                clear hI hall hnot hcl
                refine .inl ⟨wanted_none rfl, ?_⟩
                unfold Oper.wp
                go_simp
                all_goals exact ⟨_, rfl, KO.of_below (Below.refl _ _), rfl, CMs.step (k := 4) hC hlen (by decide) (by decide) (by decide) 103 (by decide) _ (Below.refl _ _)⟩
              · simp at hq; subst hq
                obtain ⟨q11, q21, g100, h1a⟩ := hI.has 1 100 rfl (hall ⟨1, .data⟩ (by simp) rfl)
                obtain ⟨q13, q23, g102, h3a⟩ := hI.has 3 102 rfl (hall ⟨3, .data⟩ (by simp) rfl)
                have g103 : act.tmps[103]?.getD undef = .float .f32 u2 := hI.has 4 103 rfl (hall ⟨4, .data⟩ (by simp) rfl)
                clear hI hall hnot hcl
                refine .inl ⟨wanted_none rfl, ?_⟩
                unfold Oper.wp
                go_simp
                refine (i_MixRoses _ _ _ _ _ _ _ _ a0 l0 a1 l1 u2 _ (OwnR2.fl h1a) HN0.out (OwnR2.fl h3a) HN1.out).mono ?_
                rintro e w4 ⟨Ra, Rb, da, db, ka, kb, rfl, ho, b4⟩
                exact ⟨_, rfl, KO.of_below b4, WGiv.mk' (OwnR2.baseR ho (by have := hB.size; omega)), CMs.step (k := 5) hC hlen (by decide) (by decide) (by decide) 104 (by decide) _ b4⟩
              · simp at hq; subst hq
                obtain ⟨Ra5, Rb5, da5, db5, ka5, kb5, g104, h5a⟩ := hI.has 5 104 rfl (hall ⟨5, .data⟩ (by simp) rfl)
                clear hI hall hnot hcl
                refine .inl ⟨wanted_none rfl, ?_⟩
                unfold Oper.wp
                go_simp
                exact ⟨_, rfl, KO.of_below (Below.refl _ _), WGiv.mk' h5a, CMs.step (k := 6) hC hlen (by decide) (by decide) (by decide) 98 (by decide) _ (Below.refl _ _)⟩
              · simp at hq; subst hq
                obtain ⟨Ra6, Rb6, da6, db6, ka6, kb6, g98, h6a⟩ := hI.has 6 98 rfl (hall ⟨6, .data⟩ (by simp) rfl)
                clear hI hall hnot hcl
                refine .inl ⟨wanted_none rfl, ?_⟩
                unfold Oper.wp
                go_simp
                exact ⟨_, rfl, KO.of_below (Below.refl _ _), WAgg.mk' h6a, CMs.step (k := 7) hC hlen (by decide) (by decide) (by decide) 105 (by decide) _ (Below.refl _ _)⟩
              · simp at hq; subst hq
                obtain ⟨Ra6, Rb6, da6, db6, ka6, kb6, g98, h6a⟩ := hI.has 6 98 rfl (hall ⟨6, .data⟩ (by simp) rfl)
                clear hI hall hnot hcl
                refine .inl ⟨wanted_none rfl, ?_⟩
                unfold Oper.wp
                go_simp
                exact ⟨_, rfl, KO.of_below (Below.refl _ _), rfl, CMs.step (k := 8) hC hlen (by decide) (by decide) (by decide) 106 (by decide) _ (Below.refl _ _)⟩
              · simp at hq; subst hq
                have hns := hcl.not (j := 10) (i := 9) (e := ⟨9, .data⟩) rfl (by simp) rfl rfl hnot
                have hsz : 17 < act.tmps.size := by rw [show act.tmps.size = 124 from hI.size.trans (by kernel_rfl)]; decide
                clear hI hall hnot hcl
                refine .inl ⟨wanted_none rfl, ?_⟩
                unfold Oper.wp
                go_simp
                exact ⟨_, rfl, KO.of_below ((Below.refl _ _).alloc (Nat.le_refl _) _), ⟨_, rfl⟩, CMs.made hC hlen (by decide) (by decide) hns hsz _⟩
              · simp at hq; subst hq
                have G17 := hI.has 9 17 rfl (hall ⟨9, .data⟩ (by simp) rfl)
                obtain ⟨Ra7, Rb7, da7, db7, ka7, kb7, g105, h7a⟩ := hI.has 7 105 rfl (hall ⟨7, .data⟩ (by simp) rfl)
                have hal : listed.getD 9 false = true := hall ⟨9, .data⟩ (by simp) rfl
                obtain ⟨B, gB, hlo, hblk⟩ := hC.blk hal hnot
                have gB2 := gB
                rw [Array.getD_eq_getD_getElem?] at gB2
                clear hI hall hnot hcl
                refine .inl ⟨wanted_none rfl, ?_⟩
                unfold Oper.wp
                go_simp
                have p0 := (hblk.2 0 _ rfl).1
                have q0 := (hblk.2 0 _ rfl).2
                have p1 := (hblk.2 1 _ rfl).1
                have q1 := (hblk.2 1 _ rfl).2
                go_simp
                have hf := ((hblk.set (i := 0) (by simp) (.slice Ra7 (gLn (mgO a0 l0 a1 l1 u2) (mxL a0 a1 u2)).length da7)).set (i := 1) (by simp) (.slice Rb7 (gLn (mgO a0 l0 a1 l1 u2) (mxL l0 l1 u2)).length db7))
                have hk := KO.store2 hblk (.slice Ra7 (gLn (mgO a0 l0 a1 l1 u2) (mxL a0 a1 u2)).length da7) (.slice Rb7 (gLn (mgO a0 l0 a1 l1 u2) (mxL l0 l1 u2)).length db7)
                have hbb := ((hC.below.setCell (p := ⟨B, 0, none⟩) hlo (.slice Ra7 (gLn (mgO a0 l0 a1 l1 u2) (mxL a0 a1 u2)).length da7)).setCell (p := ⟨B, 1, none⟩) hlo (.slice Rb7 (gLn (mgO a0 l0 a1 l1 u2) (mxL l0 l1 u2)).length db7))
                have hcm := CMs.stored hC hlen (by decide) hbb ⟨B, Ra7, Rb7, da7, db7, ka7, kb7, gB, hlo, hf, h7a.ko hk⟩ undef
                first | exact ⟨hk, trivial, hcm⟩ | exact ⟨hk, hcm⟩
              · simp at hq; subst hq
                have g106 : act.tmps[106]?.getD undef = .bool (mgO a0 l0 a1 l1 u2) := hI.has 8 106 rfl (hall ⟨8, .data⟩ (by simp) rfl)
                clear hI hall hnot hcl
                refine .inl ⟨wanted_none rfl, ?_⟩
                unfold Oper.wp
                go_simp
                all_goals exact ⟨_, rfl, KO.of_below (Below.refl _ _), rfl, CMs.step (k := 11) hC hlen (by decide) (by decide) (by decide) 18 (by decide) _ (Below.refl _ _)⟩
              · simp at hq
            case hend =>
              intro listed act w3 hI hCA hall
              have hC := hCA
              have hB := hC.below
              have hlen : listed.size = 12 := hI.len
              obtain ⟨K0x0, K0x1⟩ := (K0_17.out.below hB).two
              obtain ⟨K1x0, K1x1⟩ := (K1_17.out.below hB).two
              obtain ⟨WBx0, WBx1⟩ := (WB_14.out.below hB).two
              obtain ⟨V0x0, V0x1⟩ := (V0_12.out.below hB).two
              obtain ⟨V1x0, V1x1⟩ := (V1_10.out.below hB).two
              obtain ⟨GBx0, GBx1⟩ := (GB_8.out.below hB).two
              obtain ⟨hBk, hRa, hRb, hda, hdb, hka, hkb, g17, hlo, hblk, hown⟩ := hC.fin (hall 10 (by decide))
              rw [Array.getD_eq_getD_getElem?] at g17
              have g18 : act.tmps[18]?.getD undef = .bool (mgO a0 l0 a1 l1 u2) := hI.has 11 18 rfl (hall 11 (by decide))
              have g0 := hI.kept 0 (by kernel_rfl)
              conv at g0 => rhs; whnf
              have g1 := hI.kept 1 (by kernel_rfl)
              conv at g1 => rhs; whnf
              have g2 := hI.kept 2 (by kernel_rfl)
              conv at g2 => rhs; whnf
              have g3 := hI.kept 3 (by kernel_rfl)
              conv at g3 => rhs; whnf
              have g4 := hI.kept 4 (by kernel_rfl)
              conv at g4 => rhs; whnf
              have g5 : act.tmps[5]?.getD undef = undef := hI.kept 5 (by kernel_rfl)
              have g6 := hI.kept 6 (by kernel_rfl)
              conv at g6 => rhs; whnf
              have g7 := hI.kept 7 (by kernel_rfl)
              conv at g7 => rhs; whnf
              have g8 := hI.kept 8 (by kernel_rfl)
              conv at g8 => rhs; whnf
              have g9 := hI.kept 9 (by kernel_rfl)
              conv at g9 => rhs; whnf
              have g10 := hI.kept 10 (by kernel_rfl)
              conv at g10 => rhs; whnf
              have g11 := hI.kept 11 (by kernel_rfl)
              conv at g11 => rhs; whnf
              have g12 := hI.kept 12 (by kernel_rfl)
              conv at g12 => rhs; whnf
              have g13 := hI.kept 13 (by kernel_rfl)
              conv at g13 => rhs; whnf
              have g14 := hI.kept 14 (by kernel_rfl)
              conv at g14 => rhs; whnf
              have g15 := hI.kept 15 (by kernel_rfl)
              conv at g15 => rhs; whnf
              have g16 := hI.kept 16 (by kernel_rfl)
              conv at g16 => rhs; whnf
              have g19 := hI.kept 19 (by kernel_rfl)
              conv at g19 => rhs; whnf
              have g20 := hI.kept 20 (by kernel_rfl)
              conv at g20 => rhs; whnf
              have g21 := hI.kept 21 (by kernel_rfl)
              conv at g21 => rhs; whnf
              have g22 := hI.kept 22 (by kernel_rfl)
              conv at g22 => rhs; whnf
              have g23 := hI.kept 23 (by kernel_rfl)
              conv at g23 => rhs; whnf
              have g24 := hI.kept 24 (by kernel_rfl)
              conv at g24 => rhs; whnf
              have g25 := hI.kept 25 (by kernel_rfl)
              conv at g25 => rhs; whnf
              have g26 := hI.kept 26 (by kernel_rfl)
              conv at g26 => rhs; whnf
              have g27 := hI.kept 27 (by kernel_rfl)
              conv at g27 => rhs; whnf
              have g28 := hI.kept 28 (by kernel_rfl)
              conv at g28 => rhs; whnf
              have g29 := hI.kept 29 (by kernel_rfl)
              conv at g29 => rhs; whnf
              have g30 := hI.kept 30 (by kernel_rfl)
              conv at g30 => rhs; whnf
              have g31 := hI.kept 31 (by kernel_rfl)
              conv at g31 => rhs; whnf
              have g32 := hI.kept 32 (by kernel_rfl)
              conv at g32 => rhs; whnf
              have g33 := hI.kept 33 (by kernel_rfl)
              conv at g33 => rhs; whnf
              have g34 := hI.kept 34 (by kernel_rfl)
              conv at g34 => rhs; whnf
              have g35 := hI.kept 35 (by kernel_rfl)
              conv at g35 => rhs; whnf
              have g36 := hI.kept 36 (by kernel_rfl)
              conv at g36 => rhs; whnf
              have g37 := hI.kept 37 (by kernel_rfl)
              conv at g37 => rhs; whnf
              have g38 := hI.kept 38 (by kernel_rfl)
              conv at g38 => rhs; whnf
              have g39 := hI.kept 39 (by kernel_rfl)
              conv at g39 => rhs; whnf
              have g40 := hI.kept 40 (by kernel_rfl)
              conv at g40 => rhs; whnf
              have g41 := hI.kept 41 (by kernel_rfl)
              conv at g41 => rhs; whnf
              have g42 := hI.kept 42 (by kernel_rfl)
              conv at g42 => rhs; whnf
              have g43 := hI.kept 43 (by kernel_rfl)
              conv at g43 => rhs; whnf
              have g44 := hI.kept 44 (by kernel_rfl)
              conv at g44 => rhs; whnf
              have g45 := hI.kept 45 (by kernel_rfl)
              conv at g45 => rhs; whnf
              have g46 := hI.kept 46 (by kernel_rfl)
              conv at g46 => rhs; whnf
              have g47 := hI.kept 47 (by kernel_rfl)
              conv at g47 => rhs; whnf
              have g48 := hI.kept 48 (by kernel_rfl)
              conv at g48 => rhs; whnf
              have g49 := hI.kept 49 (by kernel_rfl)
              conv at g49 => rhs; whnf
              have g50 := hI.kept 50 (by kernel_rfl)
              conv at g50 => rhs; whnf
              have g51 := hI.kept 51 (by kernel_rfl)
              conv at g51 => rhs; whnf
              have g52 := hI.kept 52 (by kernel_rfl)
              conv at g52 => rhs; whnf
              have g53 := hI.kept 53 (by kernel_rfl)
              conv at g53 => rhs; whnf
              have g54 := hI.kept 54 (by kernel_rfl)
              conv at g54 => rhs; whnf
              have g55 := hI.kept 55 (by kernel_rfl)
              conv at g55 => rhs; whnf
              have g56 := hI.kept 56 (by kernel_rfl)
              conv at g56 => rhs; whnf
              have g57 := hI.kept 57 (by kernel_rfl)
              conv at g57 => rhs; whnf
              have g58 := hI.kept 58 (by kernel_rfl)
              conv at g58 => rhs; whnf
              have g59 := hI.kept 59 (by kernel_rfl)
              conv at g59 => rhs; whnf
              have g60 := hI.kept 60 (by kernel_rfl)
              conv at g60 => rhs; whnf
              have g61 := hI.kept 61 (by kernel_rfl)
              conv at g61 => rhs; whnf
              have g62 := hI.kept 62 (by kernel_rfl)
              conv at g62 => rhs; whnf
              have g63 := hI.kept 63 (by kernel_rfl)
              conv at g63 => rhs; whnf
              have g64 := hI.kept 64 (by kernel_rfl)
              conv at g64 => rhs; whnf
              have g65 := hI.kept 65 (by kernel_rfl)
              conv at g65 => rhs; whnf
              have g66 := hI.kept 66 (by kernel_rfl)
              conv at g66 => rhs; whnf
              have g67 := hI.kept 67 (by kernel_rfl)
              conv at g67 => rhs; whnf
              have g68 := hI.kept 68 (by kernel_rfl)
              conv at g68 => rhs; whnf
              have g69 := hI.kept 69 (by kernel_rfl)
              conv at g69 => rhs; whnf
              have g70 := hI.kept 70 (by kernel_rfl)
              conv at g70 => rhs; whnf
              have g71 := hI.kept 71 (by kernel_rfl)
              conv at g71 => rhs; whnf
              have g72 := hI.kept 72 (by kernel_rfl)
              conv at g72 => rhs; whnf
              have g73 := hI.kept 73 (by kernel_rfl)
              conv at g73 => rhs; whnf
              have g74 := hI.kept 74 (by kernel_rfl)
              conv at g74 => rhs; whnf
              have g75 := hI.kept 75 (by kernel_rfl)
              conv at g75 => rhs; whnf
              have g76 := hI.kept 76 (by kernel_rfl)
              conv at g76 => rhs; whnf
              have g77 := hI.kept 77 (by kernel_rfl)
              conv at g77 => rhs; whnf
              have g78 := hI.kept 78 (by kernel_rfl)
              conv at g78 => rhs; whnf
              have g79 := hI.kept 79 (by kernel_rfl)
              conv at g79 => rhs; whnf
              have g80 := hI.kept 80 (by kernel_rfl)
              conv at g80 => rhs; whnf
              have g81 := hI.kept 81 (by kernel_rfl)
              conv at g81 => rhs; whnf
              have g82 := hI.kept 82 (by kernel_rfl)
              conv at g82 => rhs; whnf
              have g83 := hI.kept 83 (by kernel_rfl)
              conv at g83 => rhs; whnf
              have g84 := hI.kept 84 (by kernel_rfl)
              conv at g84 => rhs; whnf
              have g85 := hI.kept 85 (by kernel_rfl)
              conv at g85 => rhs; whnf
              have g86 := hI.kept 86 (by kernel_rfl)
              conv at g86 => rhs; whnf
              have g87 := hI.kept 87 (by kernel_rfl)
              conv at g87 => rhs; whnf
              have g88 := hI.kept 88 (by kernel_rfl)
              conv at g88 => rhs; whnf
              have g89 := hI.kept 89 (by kernel_rfl)
              conv at g89 => rhs; whnf
              have g90 := hI.kept 90 (by kernel_rfl)
              conv at g90 => rhs; whnf
              have g91 := hI.kept 91 (by kernel_rfl)
              conv at g91 => rhs; whnf
              have g92 := hI.kept 92 (by kernel_rfl)
              conv at g92 => rhs; whnf
              have g93 := hI.kept 93 (by kernel_rfl)
              conv at g93 => rhs; whnf
              have g94 := hI.kept 94 (by kernel_rfl)
              conv at g94 => rhs; whnf
              have g95 := hI.kept 95 (by kernel_rfl)
              conv at g95 => rhs; whnf
              have g96 := hI.kept 96 (by kernel_rfl)
              conv at g96 => rhs; whnf
              have g97 := hI.kept 97 (by kernel_rfl)
              conv at g97 => rhs; whnf
              have g107 : act.tmps[107]?.getD undef = undef := hI.kept 107 (by kernel_rfl)
              have g108 : act.tmps[108]?.getD undef = undef := hI.kept 108 (by kernel_rfl)
              have g109 : act.tmps[109]?.getD undef = undef := hI.kept 109 (by kernel_rfl)
              have g110 : act.tmps[110]?.getD undef = undef := hI.kept 110 (by kernel_rfl)
              have g111 : act.tmps[111]?.getD undef = undef := hI.kept 111 (by kernel_rfl)
              have g112 : act.tmps[112]?.getD undef = undef := hI.kept 112 (by kernel_rfl)
              have g113 : act.tmps[113]?.getD undef = undef := hI.kept 113 (by kernel_rfl)
              have g114 : act.tmps[114]?.getD undef = undef := hI.kept 114 (by kernel_rfl)
              have g115 : act.tmps[115]?.getD undef = undef := hI.kept 115 (by kernel_rfl)
              have g116 : act.tmps[116]?.getD undef = undef := hI.kept 116 (by kernel_rfl)
              have g117 : act.tmps[117]?.getD undef = undef := hI.kept 117 (by kernel_rfl)
              have g118 : act.tmps[118]?.getD undef = undef := hI.kept 118 (by kernel_rfl)
              have g119 : act.tmps[119]?.getD undef = undef := hI.kept 119 (by kernel_rfl)
              have g120 : act.tmps[120]?.getD undef = undef := hI.kept 120 (by kernel_rfl)
              have g121 : act.tmps[121]?.getD undef = undef := hI.kept 121 (by kernel_rfl)
              have g122 : act.tmps[122]?.getD undef = undef := hI.kept 122 (by kernel_rfl)
              have g123 : act.tmps[123]?.getD undef = undef := hI.kept 123 (by kernel_rfl)
              have hsz : act.tmps.size = 124 := hI.size.trans (by kernel_rfl)
              have hd := hI.defers
              clear hI hall hC hCA hlen K0x0 K0x1 K1x0 K1x1 WBx0 WBx1 V0x0 V0x1 V1x0 V1x1 GBx0 GBx1
              obtain ⟨tt, dd⟩ := act
              simp only at g0 g1 g2 g3 g4 g5 g6 g7 g8 g9 g10 g11 g12 g13 g14 g15 g16 g17 g18 g19 g20 g21 g22 g23 g24 g25 g26 g27 g28 g29 g30 g31 g32 g33 g34 g35 g36 g37 g38 g39 g40 g41 g42 g43 g44 g45 g46 g47 g48 g49 g50 g51 g52 g53 g54 g55 g56 g57 g58 g59 g60 g61 g62 g63 g64 g65 g66 g67 g68 g69 g70 g71 g72 g73 g74 g75 g76 g77 g78 g79 g80 g81 g82 g83 g84 g85 g86 g87 g88 g89 g90 g91 g92 g93 g94 g95 g96 g97 g107 g108 g109 g110 g111 g112 g113 g114 g115 g116 g117 g118 g119 g120 g121 g122 g123 hsz hd
              subst hd
              have hl : tt = #[tt[0]?.getD undef, tt[1]?.getD undef, tt[2]?.getD undef, tt[3]?.getD undef, tt[4]?.getD undef, tt[5]?.getD undef, tt[6]?.getD undef, tt[7]?.getD undef, tt[8]?.getD undef, tt[9]?.getD undef, tt[10]?.getD undef, tt[11]?.getD undef, tt[12]?.getD undef, tt[13]?.getD undef, tt[14]?.getD undef, tt[15]?.getD undef, tt[16]?.getD undef, tt[17]?.getD undef, tt[18]?.getD undef, tt[19]?.getD undef, tt[20]?.getD undef, tt[21]?.getD undef, tt[22]?.getD undef, tt[23]?.getD undef, tt[24]?.getD undef, tt[25]?.getD undef, tt[26]?.getD undef, tt[27]?.getD undef, tt[28]?.getD undef, tt[29]?.getD undef, tt[30]?.getD undef, tt[31]?.getD undef, tt[32]?.getD undef, tt[33]?.getD undef, tt[34]?.getD undef, tt[35]?.getD undef, tt[36]?.getD undef, tt[37]?.getD undef, tt[38]?.getD undef, tt[39]?.getD undef, tt[40]?.getD undef, tt[41]?.getD undef, tt[42]?.getD undef, tt[43]?.getD undef, tt[44]?.getD undef, tt[45]?.getD undef, tt[46]?.getD undef, tt[47]?.getD undef, tt[48]?.getD undef, tt[49]?.getD undef, tt[50]?.getD undef, tt[51]?.getD undef, tt[52]?.getD undef, tt[53]?.getD undef, tt[54]?.getD undef, tt[55]?.getD undef, tt[56]?.getD undef, tt[57]?.getD undef, tt[58]?.getD undef, tt[59]?.getD undef, tt[60]?.getD undef, tt[61]?.getD undef, tt[62]?.getD undef, tt[63]?.getD undef, tt[64]?.getD undef, tt[65]?.getD undef, tt[66]?.getD undef, tt[67]?.getD undef, tt[68]?.getD undef, tt[69]?.getD undef, tt[70]?.getD undef, tt[71]?.getD undef, tt[72]?.getD undef, tt[73]?.getD undef, tt[74]?.getD undef, tt[75]?.getD undef, tt[76]?.getD undef, tt[77]?.getD undef, tt[78]?.getD undef, tt[79]?.getD undef, tt[80]?.getD undef, tt[81]?.getD undef, tt[82]?.getD undef, tt[83]?.getD undef, tt[84]?.getD undef, tt[85]?.getD undef, tt[86]?.getD undef, tt[87]?.getD undef, tt[88]?.getD undef, tt[89]?.getD undef, tt[90]?.getD undef, tt[91]?.getD undef, tt[92]?.getD undef, tt[93]?.getD undef, tt[94]?.getD undef, tt[95]?.getD undef, tt[96]?.getD undef, tt[97]?.getD undef, tt[98]?.getD undef, tt[99]?.getD undef, tt[100]?.getD undef, tt[101]?.getD undef, tt[102]?.getD undef, tt[103]?.getD undef, tt[104]?.getD undef, tt[105]?.getD undef, tt[106]?.getD undef, tt[107]?.getD undef, tt[108]?.getD undef, tt[109]?.getD undef, tt[110]?.getD undef, tt[111]?.getD undef, tt[112]?.getD undef, tt[113]?.getD undef, tt[114]?.getD undef, tt[115]?.getD undef, tt[116]?.getD undef, tt[117]?.getD undef, tt[118]?.getD undef, tt[119]?.getD undef, tt[120]?.getD undef, tt[121]?.getD undef, tt[122]?.getD undef, tt[123]?.getD undef] := (arr_lit hsz).trans rfl
              rw [g0, g1, g2, g3, g4, g5, g6, g7, g8, g9, g10, g11, g12, g13, g14, g15, g16, g17, g18, g19, g20, g21, g22, g23, g24, g25, g26, g27, g28, g29, g30, g31, g32, g33, g34, g35, g36, g37, g38, g39, g40, g41, g42, g43, g44, g45, g46, g47, g48, g49, g50, g51, g52, g53, g54, g55, g56, g57, g58, g59, g60, g61, g62, g63, g64, g65, g66, g67, g68, g69, g70, g71, g72, g73, g74, g75, g76, g77, g78, g79, g80, g81, g82, g83, g84, g85, g86, g87, g88, g89, g90, g91, g92, g93, g94, g95, g96, g97, g107, g108, g109, g110, g111, g112, g113, g114, g115, g116, g117, g118, g119, g120, g121, g122, g123] at hl
              clear g0 g1 g2 g3 g4 g5 g6 g7 g8 g9 g10 g11 g12 g13 g14 g15 g16 g17 g18 g19 g20 g21 g22 g23 g24 g25 g26 g27 g28 g29 g30 g31 g32 g33 g34 g35 g36 g37 g38 g39 g40 g41 g42 g43 g44 g45 g46 g47 g48 g49 g50 g51 g52 g53 g54 g55 g56 g57 g58 g59 g60 g61 g62 g63 g64 g65 g66 g67 g68 g69 g70 g71 g72 g73 g74 g75 g76 g77 g78 g79 g80 g81 g82 g83 g84 g85 g86 g87 g88 g89 g90 g91 g92 g93 g94 g95 g96 g97 g107 g108 g109 g110 g111 g112 g113 g114 g115 g116 g117 g118 g119 g120 g121 g122 g123 hsz
              generalize tt[98]?.getD undef = y98 at hl
              generalize tt[99]?.getD undef = y99 at hl
              generalize tt[100]?.getD undef = y100 at hl
              generalize tt[101]?.getD undef = y101 at hl
              generalize tt[102]?.getD undef = y102 at hl
              generalize tt[103]?.getD undef = y103 at hl
              generalize tt[104]?.getD undef = y104 at hl
              generalize tt[105]?.getD undef = y105 at hl
              generalize tt[106]?.getD undef = y106 at hl
              subst hl
              obtain ⟨wd18, hww⟩ : ∃ x, x = w3 := ⟨_, rfl⟩
              rw [← hww] at hB hblk hown ⊢
              clear hww
              have B18 : Hid (Below w.heap.size w wd18) := Lib.hid (below_of B17.out B17.out.size hB)
              have Z18 : Hid (wd17.heap.size ≤ wd18.heap.size) := Lib.hid hB.size
              have K0_18 : Hid (BlkL wd18 (w.heap.size) [.slice A0 a0.length ca0, .slice L0 l0.length cl0]) := Lib.hid (K0_17.out.below hB)
              have K1_18 : Hid (BlkL wd18 (w.heap.size + 1) [.slice A1 a1.length ca1, .slice L1 l1.length cl1]) := Lib.hid (K1_17.out.below hB)
              have WB_15 : Hid (BlkL wd18 cBk [.slice cRa (gLn (mgO a0 l0 a1 l1 u2) (mxL a0 a1 u2)).length cda, .slice cRb (gLn (mgO a0 l0 a1 l1 u2) (mxL l0 l1 u2)).length cdb]) := Lib.hid (WB_14.out.below hB)
              have Xc_15 : Hid (OwnR2 wd18 wd2.heap.size cRa cRb cka ckb (gLn (mgO a0 l0 a1 l1 u2) (mxL a0 a1 u2)) (gLn (mgO a0 l0 a1 l1 u2) (mxL l0 l1 u2))) := Lib.hid (Xc_14.out.below hB)
              have V0_13 : Hid (BlkL wd18 (wd4.heap.size) [.slice (some ⟨x01, 0, none⟩) a0.length a0.length, .slice (some ⟨x02, 0, none⟩) l0.length l0.length]) := Lib.hid (V0_12.out.below hB)
              have V1_11 : Hid (BlkL wd18 (wd6.heap.size) [.slice (some ⟨x11, 0, none⟩) a1.length a1.length, .slice (some ⟨x12, 0, none⟩) l1.length l1.length]) := Lib.hid (V1_10.out.below hB)
              have GB_9 : Hid (BlkL wd18 (wd8.heap.size) [.slice gR1 (gLn (mgO a0 l0 a1 l1 u2) (mxL a0 a1 u2)).length gc1, .slice gR2 (gLn (mgO a0 l0 a1 l1 u2) (mxL l0 l1 u2)).length gc2]) := Lib.hid (GB_8.out.below hB)
              have XM_2 : Hid (OwnR2 wd18 wd7.heap.size gR1 gR2 gg1 gg2 (marks 1 (gLn (mgO a0 l0 a1 l1 u2) (mxL a0 a1 u2)).length) (marks (1 + (gLn (mgO a0 l0 a1 l1 u2) (mxL a0 a1 u2)).length) (gLn (mgO a0 l0 a1 l1 u2) (mxL l0 l1 u2)).length)) := Lib.hid (XM_1.out.below hB)
              clear K0_17 K1_17 WB_14 Xc_14 V0_12 V1_10 GB_8 XM_1
              clear hB
              have Y18 : Hid (hBk < wd18.heap.size ∧ wd17.heap.size ≤ hBk) := Lib.hid ⟨hblk.1, hlo⟩
              have HB : Hid (BlkL wd18 hBk [.slice hRa (gLn (mgO a0 l0 a1 l1 u2) (mxL a0 a1 u2)).length hda, .slice hRb (gLn (mgO a0 l0 a1 l1 u2) (mxL l0 l1 u2)).length hdb]) := Lib.hid (hblk)
              have Xh : Hid (OwnR2 wd18 wd17.heap.size hRa hRb hka hkb (gLn (mgO a0 l0 a1 l1 u2) (mxL a0 a1 u2)) (gLn (mgO a0 l0 a1 l1 u2) (mxL l0 l1 u2))) := Lib.hid (hown)
              have Xhbd := Xh
              clear hblk hown hlo
              obtain ⟨K0x0, K0x1⟩ := K0_18.out.two
              obtain ⟨K1x0, K1x1⟩ := K1_18.out.two
              obtain ⟨WBx0, WBx1⟩ := WB_15.out.two
              obtain ⟨V0x0, V0x1⟩ := V0_13.out.two
              obtain ⟨V1x0, V1x1⟩ := V1_11.out.two
              obtain ⟨GBx0, GBx1⟩ := GB_9.out.two
              obtain ⟨HBx0, HBx1⟩ := HB.out.two
              go_wp2_with fail
              refine (l_eqRose _ _ _ _ _ _ _ _ (gLn (mgO a0 l0 a1 l1 u2) (mxL a0 a1 u2)) (gLn (mgO a0 l0 a1 l1 u2) (mxL l0 l1 u2)) _ Xh.out.fl Xc_15.out.fl HF.out).mono ?_
              rintro e wd19 ⟨rfl, b⟩
              have B19 : Hid (Below w.heap.size w wd19) := Lib.hid (below_of B18.out B18.out.size b)
              have Z19 : Hid (wd18.heap.size ≤ wd19.heap.size) := Lib.hid b.size
              have K0_19 : Hid (BlkL wd19 (w.heap.size) [.slice A0 a0.length ca0, .slice L0 l0.length cl0]) := Lib.hid (K0_18.out.below b)
              have K1_19 : Hid (BlkL wd19 (w.heap.size + 1) [.slice A1 a1.length ca1, .slice L1 l1.length cl1]) := Lib.hid (K1_18.out.below b)
              have WB_16 : Hid (BlkL wd19 cBk [.slice cRa (gLn (mgO a0 l0 a1 l1 u2) (mxL a0 a1 u2)).length cda, .slice cRb (gLn (mgO a0 l0 a1 l1 u2) (mxL l0 l1 u2)).length cdb]) := Lib.hid (WB_15.out.below b)
              have Xc_16 : Hid (OwnR2 wd19 wd2.heap.size cRa cRb cka ckb (gLn (mgO a0 l0 a1 l1 u2) (mxL a0 a1 u2)) (gLn (mgO a0 l0 a1 l1 u2) (mxL l0 l1 u2))) := Lib.hid (Xc_15.out.below b)
              have V0_14 : Hid (BlkL wd19 (wd4.heap.size) [.slice (some ⟨x01, 0, none⟩) a0.length a0.length, .slice (some ⟨x02, 0, none⟩) l0.length l0.length]) := Lib.hid (V0_13.out.below b)
              have V1_12 : Hid (BlkL wd19 (wd6.heap.size) [.slice (some ⟨x11, 0, none⟩) a1.length a1.length, .slice (some ⟨x12, 0, none⟩) l1.length l1.length]) := Lib.hid (V1_11.out.below b)
              have GB_10 : Hid (BlkL wd19 (wd8.heap.size) [.slice gR1 (gLn (mgO a0 l0 a1 l1 u2) (mxL a0 a1 u2)).length gc1, .slice gR2 (gLn (mgO a0 l0 a1 l1 u2) (mxL l0 l1 u2)).length gc2]) := Lib.hid (GB_9.out.below b)
              have XM_3 : Hid (OwnR2 wd19 wd7.heap.size gR1 gR2 gg1 gg2 (marks 1 (gLn (mgO a0 l0 a1 l1 u2) (mxL a0 a1 u2)).length) (marks (1 + (gLn (mgO a0 l0 a1 l1 u2) (mxL a0 a1 u2)).length) (gLn (mgO a0 l0 a1 l1 u2) (mxL l0 l1 u2)).length)) := Lib.hid (XM_2.out.below b)
              have HB_1 : Hid (BlkL wd19 hBk [.slice hRa (gLn (mgO a0 l0 a1 l1 u2) (mxL a0 a1 u2)).length hda, .slice hRb (gLn (mgO a0 l0 a1 l1 u2) (mxL l0 l1 u2)).length hdb]) := Lib.hid (HB.out.below b)
              have Xh_1 : Hid (OwnR2 wd19 wd17.heap.size hRa hRb hka hkb (gLn (mgO a0 l0 a1 l1 u2) (mxL a0 a1 u2)) (gLn (mgO a0 l0 a1 l1 u2) (mxL l0 l1 u2))) := Lib.hid (Xh.out.below b)
              clear K0x0 K0x1 K1x0 K1x1 WBx0 WBx1 V0x0 V0x1 V1x0 V1x1 GBx0 GBx1 HBx0 HBx1
              clear K0_18 K1_18 WB_15 Xc_15 V0_13 V1_11 GB_9 XM_2 HB Xh
              clear b
              obtain ⟨K0x0, K0x1⟩ := K0_19.out.two
              obtain ⟨K1x0, K1x1⟩ := K1_19.out.two
              obtain ⟨WBx0, WBx1⟩ := WB_16.out.two
              obtain ⟨V0x0, V0x1⟩ := V0_14.out.two
              obtain ⟨V1x0, V1x1⟩ := V1_12.out.two
              obtain ⟨GBx0, GBx1⟩ := GB_10.out.two
              obtain ⟨HBx0, HBx1⟩ := HB_1.out.two
              go_wp2_with fail
              refine (l_heldRose _ _ _ _ _ _ _ 1 _ _ _ (XM_3.out) (by have := HF.out; unfold FewS at this; omega) (by omega) _ rfl).mono ?_
              rintro e wd20 ⟨rfl, b⟩
              have B20 : Hid (Below w.heap.size w wd20) := Lib.hid (below_of B19.out B19.out.size b)
              have Z20 : Hid (wd19.heap.size ≤ wd20.heap.size) := Lib.hid b.size
              have K0_20 : Hid (BlkL wd20 (w.heap.size) [.slice A0 a0.length ca0, .slice L0 l0.length cl0]) := Lib.hid (K0_19.out.below b)
              have K1_20 : Hid (BlkL wd20 (w.heap.size + 1) [.slice A1 a1.length ca1, .slice L1 l1.length cl1]) := Lib.hid (K1_19.out.below b)
              have WB_17 : Hid (BlkL wd20 cBk [.slice cRa (gLn (mgO a0 l0 a1 l1 u2) (mxL a0 a1 u2)).length cda, .slice cRb (gLn (mgO a0 l0 a1 l1 u2) (mxL l0 l1 u2)).length cdb]) := Lib.hid (WB_16.out.below b)
              have Xc_17 : Hid (OwnR2 wd20 wd2.heap.size cRa cRb cka ckb (gLn (mgO a0 l0 a1 l1 u2) (mxL a0 a1 u2)) (gLn (mgO a0 l0 a1 l1 u2) (mxL l0 l1 u2))) := Lib.hid (Xc_16.out.below b)
              have V0_15 : Hid (BlkL wd20 (wd4.heap.size) [.slice (some ⟨x01, 0, none⟩) a0.length a0.length, .slice (some ⟨x02, 0, none⟩) l0.length l0.length]) := Lib.hid (V0_14.out.below b)
              have V1_13 : Hid (BlkL wd20 (wd6.heap.size) [.slice (some ⟨x11, 0, none⟩) a1.length a1.length, .slice (some ⟨x12, 0, none⟩) l1.length l1.length]) := Lib.hid (V1_12.out.below b)
              have GB_11 : Hid (BlkL wd20 (wd8.heap.size) [.slice gR1 (gLn (mgO a0 l0 a1 l1 u2) (mxL a0 a1 u2)).length gc1, .slice gR2 (gLn (mgO a0 l0 a1 l1 u2) (mxL l0 l1 u2)).length gc2]) := Lib.hid (GB_10.out.below b)
              have XM_4 : Hid (OwnR2 wd20 wd7.heap.size gR1 gR2 gg1 gg2 (marks 1 (gLn (mgO a0 l0 a1 l1 u2) (mxL a0 a1 u2)).length) (marks (1 + (gLn (mgO a0 l0 a1 l1 u2) (mxL a0 a1 u2)).length) (gLn (mgO a0 l0 a1 l1 u2) (mxL l0 l1 u2)).length)) := Lib.hid (XM_3.out.below b)
              have HB_2 : Hid (BlkL wd20 hBk [.slice hRa (gLn (mgO a0 l0 a1 l1 u2) (mxL a0 a1 u2)).length hda, .slice hRb (gLn (mgO a0 l0 a1 l1 u2) (mxL l0 l1 u2)).length hdb]) := Lib.hid (HB_1.out.below b)
              have Xh_2 : Hid (OwnR2 wd20 wd17.heap.size hRa hRb hka hkb (gLn (mgO a0 l0 a1 l1 u2) (mxL a0 a1 u2)) (gLn (mgO a0 l0 a1 l1 u2) (mxL l0 l1 u2))) := Lib.hid (Xh_1.out.below b)
              clear K0x0 K0x1 K1x0 K1x1 WBx0 WBx1 V0x0 V0x1 V1x0 V1x1 GBx0 GBx1 HBx0 HBx1
              clear K0_19 K1_19 WB_16 Xc_16 V0_14 V1_12 GB_10 XM_3 HB_1 Xh_1
              clear b
              obtain ⟨K0x0, K0x1⟩ := K0_20.out.two
              obtain ⟨K1x0, K1x1⟩ := K1_20.out.two
              obtain ⟨WBx0, WBx1⟩ := WB_17.out.two
              obtain ⟨V0x0, V0x1⟩ := V0_15.out.two
              obtain ⟨V1x0, V1x1⟩ := V1_13.out.two
              obtain ⟨GBx0, GBx1⟩ := GB_11.out.two
              obtain ⟨HBx0, HBx1⟩ := HB_2.out.two
              go_wp2
              go_ret
              exact ⟨rfl, B20.out⟩
    · skip
      have HN0 : Hid (FewS a0 l0) := Lib.hid (by unfold FewS; omega)
      obtain ⟨w0, hw0⟩ : ∃ x, x = ((w.alloc (.cells #[.slice A0 a0.length ca0, .slice L0 l0.length cl0] 24)).alloc (.cells #[.slice A1 a1.length ca1, .slice L1 l1.length cl1] 24)) := ⟨_, rfl⟩
      have B0 : Hid (Below w.heap.size w w0) := Lib.hid (by rw [hw0]; exact ((Below.refl _ _).alloc (Nat.le_refl _) _).alloc (by simp <;> omega) _)
      have Z0 : Hid (w0.heap.size = w.heap.size + 2) := Lib.hid (by rw [hw0]; simp)
      have K0 : Hid (BlkL w0 (w.heap.size) [.slice A0 a0.length ca0, .slice L0 l0.length cl0]) := Lib.hid (by rw [hw0]; exact (blkL_at w #[.slice A0 a0.length ca0, .slice L0 l0.length cl0] 24 rfl).alloc _)
      have K1 : Hid (BlkL w0 (w.heap.size + 1) [.slice A1 a1.length ca1, .slice L1 l1.length cl1]) := Lib.hid (by rw [hw0]; exact blkL_at (w.alloc (.cells #[.slice A0 a0.length ca0, .slice L0 l0.length cl0] 24)) #[.slice A1 a1.length ca1, .slice L1 l1.length cl1] 24 (by simp))
      go_enter Try.func3, Try.ntmps3
      go_wp2_with fail
      rw [← hw0]
      clear hw0
      have hq0 : (0 : Int) ≤ 1048576 - (a0.length : Int) - (l0.length : Int) := by omega
      obtain ⟨K0x0, K0x1⟩ := K0.out.two
      obtain ⟨K1x0, K1x1⟩ := K1.out.two
      go_wp2_with fail
      refine (l_szRose_yes A0 L0 _ ca0 _ cl0 _ _ (by omega) (by omega)).mono ?_
      rintro e wd1 ⟨rfl, b⟩
      have B1 : Hid (Below w.heap.size w wd1) := Lib.hid (below_of B0.out B0.out.size b)
      have Z1 : Hid (w0.heap.size ≤ wd1.heap.size) := Lib.hid b.size
      have K0_1 : Hid (BlkL wd1 (w.heap.size) [.slice A0 a0.length ca0, .slice L0 l0.length cl0]) := Lib.hid (K0.out.below b)
      have K1_1 : Hid (BlkL wd1 (w.heap.size + 1) [.slice A1 a1.length ca1, .slice L1 l1.length cl1]) := Lib.hid (K1.out.below b)
      clear K0x0 K0x1 K1x0 K1x1
      clear K0 K1
      clear b
      obtain ⟨K0x0, K0x1⟩ := K0_1.out.two
      obtain ⟨K1x0, K1x1⟩ := K1_1.out.two
      go_wp2_with fail
      refine (l_szRose_no A1 L1 _ ca1 _ cl1 _ _ (by omega) (by omega) (by omega) ma1 ml1).mono ?_
      rintro e wd2 ⟨rfl, b⟩
      have B2 : Hid (Below w.heap.size w wd2) := Lib.hid (below_of B1.out B1.out.size b)
      have Z2 : Hid (wd1.heap.size ≤ wd2.heap.size) := Lib.hid b.size
      have K0_2 : Hid (BlkL wd2 (w.heap.size) [.slice A0 a0.length ca0, .slice L0 l0.length cl0]) := Lib.hid (K0_1.out.below b)
      have K1_2 : Hid (BlkL wd2 (w.heap.size + 1) [.slice A1 a1.length ca1, .slice L1 l1.length cl1]) := Lib.hid (K1_1.out.below b)
      clear K0x0 K0x1 K1x0 K1x1
      clear K0_1 K1_1
      clear b
      obtain ⟨K0x0, K0x1⟩ := K0_2.out.two
      obtain ⟨K1x0, K1x1⟩ := K1_2.out.two
      go_wp2
      go_ret
      exact ⟨rfl, B2.out⟩
  · skip
    obtain ⟨w0, hw0⟩ : ∃ x, x = ((w.alloc (.cells #[.slice A0 a0.length ca0, .slice L0 l0.length cl0] 24)).alloc (.cells #[.slice A1 a1.length ca1, .slice L1 l1.length cl1] 24)) := ⟨_, rfl⟩
    have B0 : Hid (Below w.heap.size w w0) := Lib.hid (by rw [hw0]; exact ((Below.refl _ _).alloc (Nat.le_refl _) _).alloc (by simp <;> omega) _)
    have Z0 : Hid (w0.heap.size = w.heap.size + 2) := Lib.hid (by rw [hw0]; simp)
    have K0 : Hid (BlkL w0 (w.heap.size) [.slice A0 a0.length ca0, .slice L0 l0.length cl0]) := Lib.hid (by rw [hw0]; exact (blkL_at w #[.slice A0 a0.length ca0, .slice L0 l0.length cl0] 24 rfl).alloc _)
    have K1 : Hid (BlkL w0 (w.heap.size + 1) [.slice A1 a1.length ca1, .slice L1 l1.length cl1]) := Lib.hid (by rw [hw0]; exact blkL_at (w.alloc (.cells #[.slice A0 a0.length ca0, .slice L0 l0.length cl0] 24)) #[.slice A1 a1.length ca1, .slice L1 l1.length cl1] 24 (by simp))
    go_enter Try.func3, Try.ntmps3
    go_wp2_with fail
    rw [← hw0]
    clear hw0
    obtain ⟨K0x0, K0x1⟩ := K0.out.two
    obtain ⟨K1x0, K1x1⟩ := K1.out.two
    go_wp2_with fail
    refine (l_szRose_no A0 L0 _ ca0 _ cl0 _ _ (by omega) (by omega) (by omega) ma0 ml0).mono ?_
    rintro e wd1 ⟨rfl, b⟩
    have B1 : Hid (Below w.heap.size w wd1) := Lib.hid (below_of B0.out B0.out.size b)
    have Z1 : Hid (w0.heap.size ≤ wd1.heap.size) := Lib.hid b.size
    have K0_1 : Hid (BlkL wd1 (w.heap.size) [.slice A0 a0.length ca0, .slice L0 l0.length cl0]) := Lib.hid (K0.out.below b)
    have K1_1 : Hid (BlkL wd1 (w.heap.size + 1) [.slice A1 a1.length ca1, .slice L1 l1.length cl1]) := Lib.hid (K1.out.below b)
    clear K0x0 K0x1 K1x0 K1x1
    clear K0 K1
    clear b
    obtain ⟨K0x0, K0x1⟩ := K0_1.out.two
    obtain ⟨K1x0, K1x1⟩ := K1_1.out.two
    go_wp2
    go_ret
    exact ⟨rfl, B1.out⟩
end Go.Proofs.Ytahbcpjipomcgaa
