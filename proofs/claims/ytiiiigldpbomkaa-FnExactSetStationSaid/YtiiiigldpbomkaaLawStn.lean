/- The law FnExactSetStation. No statement is proved here. -/
import Derived.Test.YtiiiigldpbomkaaStI
import Derived.Test.YtiiiigldpbomkaaStS
import Derived.Test.YtiiiigldpbomkaaKeepR
import Derived.Test.YtiiiigldpbomkaaRotL
import Derived.Test.YtiiiigldpbomkaaInv4
import Derived.Test.YtiiiigldpbomkaaAir
namespace Go.Proofs.Ytiiiigldpbomkaa
open Go Go.RowKit
set_option maxHeartbeats 16000000 in
set_option maxRecDepth 100000 in
theorem law_FnExactSetStation (A0 L0 D0 S0 : Option Addr) (ca0 cl0 cd0 n0 cs0 : Nat) (c0 : Int) (hub0 tip0 : Nat) (a0 l0 d0 s0 : List Nat) (u1 : Int) (x2 y2 z2 : Nat) (w : World) (h0 : Rt w A0 L0 D0 S0 a0 l0 d0 s0) (hs0 : s0.length = n0 * 3) (ma0 : a0.length ≤ 9223372036854775807) (ml0 : l0.length ≤ 9223372036854775807) (md0 : d0.length ≤ 9223372036854775807) (ms0 : n0 ≤ 9223372036854775807) (hu1 : (Lit.int .i64 u1).wf = true) (_hx2 : x2 < words .f32) (_hy2 : y2 < words .f32) (_hz2 : z2 < words .f32) :
    Calls Try.prog 4 #[.agg #[.slice A0 a0.length ca0, .slice L0 l0.length cl0, .slice D0 d0.length cd0, .slice S0 n0 cs0, .int .i64 c0, .float .f32 hub0, .float .f32 tip0], .int .i64 u1, .agg #[.float .f32 x2, .float .f32 y2, .float .f32 z2]] w fun e w' => e = .returned (.bool true) ∧ Below w.heap.size w w' := by
  have HP0 := Lib.hid h0
  clear h0
  have HSL0 := Lib.hid hs0
  clear hs0
  have HU1 := Lib.hid hu1
  clear hu1
  by_cases hn0 : a0.length + l0.length + d0.length + n0 ≤ 1048576
  · skip
    have HN0 : Hid (FewR a0 l0 d0 s0 n0) := Lib.hid (by have := HSL0.out; unfold FewR; omega)
    have HF : Hid (FewR (gLp (stO a0 l0 d0 s0 n0 c0 hub0 tip0 (hasT n0 u1) (setSt s0 u1.toNat x2 y2 z2) hub0 tip0) a0) (gLp (stO a0 l0 d0 s0 n0 c0 hub0 tip0 (hasT n0 u1) (setSt s0 u1.toNat x2 y2 z2) hub0 tip0) l0) (gLp (stO a0 l0 d0 s0 n0 c0 hub0 tip0 (hasT n0 u1) (setSt s0 u1.toNat x2 y2 z2) hub0 tip0) d0) (gLp (stO a0 l0 d0 s0 n0 c0 hub0 tip0 (hasT n0 u1) (setSt s0 u1.toNat x2 y2 z2) hub0 tip0) (setSt s0 u1.toNat x2 y2 z2)) (gN (stO a0 l0 d0 s0 n0 c0 hub0 tip0 (hasT n0 u1) (setSt s0 u1.toNat x2 y2 z2) hub0 tip0) n0)) := Lib.hid (st_few (by rw [setSt_length]; exact HSL0.out))
    obtain ⟨w0, hw0⟩ : ∃ x, x = ((w.alloc (.cells #[.slice A0 a0.length ca0, .slice L0 l0.length cl0, .slice D0 d0.length cd0, .slice S0 n0 cs0, .int .i64 c0, .float .f32 hub0, .float .f32 tip0] 41)).alloc (.cells #[.float .f32 x2, .float .f32 y2, .float .f32 z2] 43)) := ⟨_, rfl⟩
    have B0 : Hid (Below w.heap.size w w0) := Lib.hid (by rw [hw0]; exact ((Below.refl _ _).alloc (Nat.le_refl _) _).alloc (by simp <;> omega) _)
    have Z0 : Hid (w0.heap.size = w.heap.size + 2) := Lib.hid (by rw [hw0]; simp)
    have K0 : Hid (BlkL w0 (w.heap.size) [.slice A0 a0.length ca0, .slice L0 l0.length cl0, .slice D0 d0.length cd0, .slice S0 n0 cs0, .int .i64 c0, .float .f32 hub0, .float .f32 tip0]) := Lib.hid (by rw [hw0]; exact (blkL_at w #[.slice A0 a0.length ca0, .slice L0 l0.length cl0, .slice D0 d0.length cd0, .slice S0 n0 cs0, .int .i64 c0, .float .f32 hub0, .float .f32 tip0] 41 rfl).alloc _)
    have K2 : Hid (BlkL w0 (w.heap.size + 1) [.float .f32 x2, .float .f32 y2, .float .f32 z2]) := Lib.hid (by rw [hw0]; exact blkL_at (w.alloc (.cells #[.slice A0 a0.length ca0, .slice L0 l0.length cl0, .slice D0 d0.length cd0, .slice S0 n0 cs0, .int .i64 c0, .float .f32 hub0, .float .f32 tip0] 41)) #[.float .f32 x2, .float .f32 y2, .float .f32 z2] 43 (by simp))
    go_enter Try.func4, Try.ntmps4
    go_wp2_with fail
    rw [← hw0]
    clear hw0
    have hq0 : (0 : Int) ≤ 1048576 - (a0.length : Int) - (l0.length : Int) - (d0.length : Int) - (n0 : Int) := by omega
    obtain ⟨K0x0, K0x1, K0x2, K0x3, K0x4, K0x5, K0x6⟩ := K0.out.sevenT
    obtain ⟨K2x0, K2x1, K2x2⟩ := K2.out.three
    go_wp2_with fail
    refine (l_szRotor_yes A0 L0 D0 S0 _ ca0 _ cl0 _ cd0 n0 cs0 c0 hub0 tip0 _ _ (by omega) (by omega)).mono ?_
    rintro e wd1 ⟨rfl, b⟩
    have B1 : Hid (Below w.heap.size w wd1) := Lib.hid (below_of B0.out B0.out.size b)
    have Z1 : Hid (w0.heap.size ≤ wd1.heap.size) := Lib.hid b.size
    have K0_1 : Hid (BlkL wd1 (w.heap.size) [.slice A0 a0.length ca0, .slice L0 l0.length cl0, .slice D0 d0.length cd0, .slice S0 n0 cs0, .int .i64 c0, .float .f32 hub0, .float .f32 tip0]) := Lib.hid (K0.out.below b)
    have K2_1 : Hid (BlkL wd1 (w.heap.size + 1) [.float .f32 x2, .float .f32 y2, .float .f32 z2]) := Lib.hid (K2.out.below b)
    clear K0x0 K0x1 K0x2 K0x3 K0x4 K0x5 K0x6 K2x0 K2x1 K2x2
    clear K0 K2
    clear b
    obtain ⟨K0x0, K0x1, K0x2, K0x3, K0x4, K0x5, K0x6⟩ := K0_1.out.sevenT
    obtain ⟨K2x0, K2x1, K2x2⟩ := K2_1.out.three
    go_wp2_with fail
    clear K0x0 K0x1 K0x2 K0x3 K0x4 K0x5 K0x6 K2x0 K2x1 K2x2
    refine wp_region_inv7B (fun iq wv v => match iq with
      | 0 => v = .agg #[.slice A0 a0.length ca0, .slice L0 l0.length cl0, .slice D0 d0.length cd0, .slice S0 n0 cs0, .int .i64 c0, .float .f32 hub0, .float .f32 tip0]
      | 1 => ∃ q1 q2 q3 q4, v = .agg #[.slice (some ⟨q1, 0, none⟩) a0.length a0.length, .slice (some ⟨q2, 0, none⟩) l0.length l0.length, .slice (some ⟨q3, 0, none⟩) d0.length d0.length, .slice (some ⟨q4, 0, none⟩) n0 n0, .int .i64 c0, .float .f32 hub0, .float .f32 tip0] ∧ OwnT wv wd1.heap.size (some ⟨q1, 0, none⟩) (some ⟨q2, 0, none⟩) (some ⟨q3, 0, none⟩) (some ⟨q4, 0, none⟩) q1 q2 q3 q4 a0 l0 d0 s0
      | 2 => v = .int .i64 u1
      | 3 => v = .agg #[.float .f32 x2, .float .f32 y2, .float .f32 z2]
      | 4 => v = .agg #[.float .f32 x2, .float .f32 y2, .float .f32 z2]
      | 5 => RGiv wd1.heap.size (stO a0 l0 d0 s0 n0 c0 hub0 tip0 (hasT n0 u1) (setSt s0 u1.toNat x2 y2 z2) hub0 tip0) a0 l0 d0 ((setSt s0 u1.toNat x2 y2 z2)) n0 c0 hub0 tip0 wv v
      | 6 => RGiv wd1.heap.size (stO a0 l0 d0 s0 n0 c0 hub0 tip0 (hasT n0 u1) (setSt s0 u1.toNat x2 y2 z2) hub0 tip0) a0 l0 d0 ((setSt s0 u1.toNat x2 y2 z2)) n0 c0 hub0 tip0 wv v
      | 7 => RAgg wd1.heap.size (stO a0 l0 d0 s0 n0 c0 hub0 tip0 (hasT n0 u1) (setSt s0 u1.toNat x2 y2 z2) hub0 tip0) a0 l0 d0 ((setSt s0 u1.toNat x2 y2 z2)) n0 c0 hub0 tip0 wv v
      | 8 => v = .bool (stO a0 l0 d0 s0 n0 c0 hub0 tip0 (hasT n0 u1) (setSt s0 u1.toNat x2 y2 z2) hub0 tip0)
      | 9 => ∃ B, v = .pointer (some ⟨B, 0, none⟩)
      | 10 => True
      | 11 => v = .bool (stO a0 l0 d0 s0 n0 c0 hub0 tip0 (hasT n0 u1) (setSt s0 u1.toNat x2 y2 z2) hub0 tip0)
      | _ => False) (CR wd1 9 10 8 (stO a0 l0 d0 s0 n0 c0 hub0 tip0 (hasT n0 u1) (setSt s0 u1.toNat x2 y2 z2) hub0 tip0) a0 l0 d0 ((setSt s0 u1.toNat x2 y2 z2)) n0 c0 hub0 tip0) (fun wa wb => KO wa wb) ?hmono (by kernel_rfl) (by kernel_rfl) CR.start ?hop ?hend
    case hmono =>
      intro i wa wb v hR hV
      rcases i with _ | _ | _ | _ | _ | _ | _ | _ | _ | _ | _ | _ | i
      · exact hV
      · obtain ⟨q1, q2, q3, q4, rfl, ho⟩ := hV; exact ⟨q1, q2, q3, q4, rfl, ho.ko hR⟩
      · exact hV
      · exact hV
      · exact hV
      · exact hV.ko hR
      · exact hV.ko hR
      · exact hV.ko hR
      · exact hV
      · exact hV
      · exact hV
      · exact hV
      · exact hV
    case hop =>
      intro q o hq listed act w3 hI hCA hnot hcl hall
      have hC := hCA
      have hB := hC.below
      have hlen : listed.size = 12 := hI.len
      obtain ⟨K0x0, K0x1, K0x2, K0x3, K0x4, K0x5, K0x6⟩ := (K0_1.out.below hB).sevenT
      obtain ⟨K2x0, K2x1, K2x2⟩ := (K2_1.out.below hB).three
      rcases q with _ | _ | _ | _ | _ | _ | _ | _ | _ | _ | _ | _ | q
      · simp at hq; subst hq
        have g3 : act.tmps[3]?.getD undef = .pointer (some ⟨w.heap.size, 0, none⟩) := hI.kept 3 (by kernel_rfl)
        clear hI hall hnot hcl
        refine .inl ⟨wanted_none rfl, ?_⟩
        unfold Oper.wp
        go_simp
        all_goals exact ⟨_, rfl, KO.of_below (Below.refl _ _), rfl, CR.step (k := 0) hC hlen (by decide) (by decide) (by decide) 24 (by decide) _ (Below.refl _ _)⟩
      · simp at hq; subst hq
        have g24 : act.tmps[24]?.getD undef = .agg #[.slice A0 a0.length ca0, .slice L0 l0.length cl0, .slice D0 d0.length cd0, .slice S0 n0 cs0, .int .i64 c0, .float .f32 hub0, .float .f32 tip0] := hI.has 0 24 rfl (hall ⟨0, .data⟩ (by simp) rfl)
        clear hI hall hnot hcl
        refine .inl ⟨wanted_none rfl, ?_⟩
        unfold Oper.wp
        go_simp
        refine (l_toRotor A0 L0 D0 S0 ca0 cl0 cd0 n0 cs0 c0 hub0 tip0 a0 l0 d0 s0 _ (HP0.out.below (below_of B1.out B1.out.size hB)) HN0.out).mono ?_
        rintro e w4 ⟨q1, q2, q3, q4, rfl, ho, b4⟩
        exact ⟨_, rfl, KO.of_below b4, ⟨q1, q2, q3, q4, rfl, (OwnR.t ho).baseT (by have := hB.size; omega)⟩, CR.step (k := 1) hC hlen (by decide) (by decide) (by decide) 25 (by decide) _ b4⟩
      · simp at hq; subst hq
        have g1 : act.tmps[1]?.getD undef = .int .i64 u1 := hI.kept 1 (by kernel_rfl)
        clear hI hall hnot hcl
        refine .inl ⟨wanted_none rfl, ?_⟩
        unfold Oper.wp
        go_simp
        all_goals exact ⟨_, rfl, KO.of_below (Below.refl _ _), rfl, CR.step (k := 2) hC hlen (by decide) (by decide) (by decide) 26 (by decide) _ (Below.refl _ _)⟩
      · simp at hq; subst hq
        have g5 : act.tmps[5]?.getD undef = .pointer (some ⟨(w.heap.size + 1), 0, none⟩) := hI.kept 5 (by kernel_rfl)
        clear hI hall hnot hcl
        refine .inl ⟨wanted_none rfl, ?_⟩
        unfold Oper.wp
        go_simp
        all_goals exact ⟨_, rfl, KO.of_below (Below.refl _ _), rfl, CR.step (k := 3) hC hlen (by decide) (by decide) (by decide) 27 (by decide) _ (Below.refl _ _)⟩
      · simp at hq; subst hq
        have g27 : act.tmps[27]?.getD undef = .agg #[.float .f32 x2, .float .f32 y2, .float .f32 z2] := hI.has 3 27 rfl (hall ⟨3, .data⟩ (by simp) rfl)
        clear hI hall hnot hcl
        refine .inl ⟨wanted_none rfl, ?_⟩
        unfold Oper.wp
        go_simp
        refine (l_toStation x2 y2 z2 _).mono ?_
        rintro e w4 ⟨rfl, b4⟩
        exact ⟨_, rfl, KO.of_below b4, rfl, CR.step (k := 4) hC hlen (by decide) (by decide) (by decide) 28 (by decide) _ b4⟩
      · simp at hq; subst hq
        obtain ⟨q11, q21, q31, q41, g25, h1a⟩ := hI.has 1 25 rfl (hall ⟨1, .data⟩ (by simp) rfl)
        have g26 : act.tmps[26]?.getD undef = .int .i64 u1 := hI.has 2 26 rfl (hall ⟨2, .data⟩ (by simp) rfl)
        have g28 : act.tmps[28]?.getD undef = .agg #[.float .f32 x2, .float .f32 y2, .float .f32 z2] := hI.has 4 28 rfl (hall ⟨4, .data⟩ (by simp) rfl)
        clear hI hall hnot hcl
        refine .inl ⟨wanted_none rfl, ?_⟩
        unfold Oper.wp
        go_simp
        refine (s_SetStation _ _ _ _ _ _ _ _ _ _ _ _ a0 l0 d0 s0 u1 x2 y2 z2 _ (OwnT.rt h1a) HN0.out).mono ?_
        rintro e w4 ⟨Ra, Rb, Rc, Rd, da, db, dc, dd, ka, kb, kc, kd, rfl, ho, b4⟩
        exact ⟨_, rfl, KO.of_below b4, RGiv.mk' (ho.baseT (by have := hB.size; omega)), CR.step (k := 5) hC hlen (by decide) (by decide) (by decide) 29 (by decide) _ b4⟩
      · simp at hq; subst hq
        obtain ⟨Ra5, Rb5, Rc5, Rd5, da5, db5, dc5, dd5, ka5, kb5, kc5, kd5, g29, h5a⟩ := hI.has 5 29 rfl (hall ⟨5, .data⟩ (by simp) rfl)
        clear hI hall hnot hcl
        refine .inl ⟨wanted_none rfl, ?_⟩
        unfold Oper.wp
        go_simp
        exact ⟨_, rfl, KO.of_below (Below.refl _ _), RGiv.mk' h5a, CR.step (k := 6) hC hlen (by decide) (by decide) (by decide) 23 (by decide) _ (Below.refl _ _)⟩
      · simp at hq; subst hq
        obtain ⟨Ra6, Rb6, Rc6, Rd6, da6, db6, dc6, dd6, ka6, kb6, kc6, kd6, g23, h6a⟩ := hI.has 6 23 rfl (hall ⟨6, .data⟩ (by simp) rfl)
        clear hI hall hnot hcl
        refine .inl ⟨wanted_none rfl, ?_⟩
        unfold Oper.wp
        go_simp
        exact ⟨_, rfl, KO.of_below (Below.refl _ _), RAgg.mk' h6a, CR.step (k := 7) hC hlen (by decide) (by decide) (by decide) 30 (by decide) _ (Below.refl _ _)⟩
      · simp at hq; subst hq
        obtain ⟨Ra6, Rb6, Rc6, Rd6, da6, db6, dc6, dd6, ka6, kb6, kc6, kd6, g23, h6a⟩ := hI.has 6 23 rfl (hall ⟨6, .data⟩ (by simp) rfl)
        clear hI hall hnot hcl
        refine .inl ⟨wanted_none rfl, ?_⟩
        unfold Oper.wp
        go_simp
        exact ⟨_, rfl, KO.of_below (Below.refl _ _), rfl, CR.step (k := 8) hC hlen (by decide) (by decide) (by decide) 31 (by decide) _ (Below.refl _ _)⟩
      · simp at hq; subst hq
        have hns := hcl.not (j := 10) (i := 9) (e := ⟨9, .data⟩) rfl (by simp) rfl rfl hnot
        have hsz : 8 < act.tmps.size := by rw [show act.tmps.size = 109 from hI.size.trans (by kernel_rfl)]; decide
        clear hI hall hnot hcl
        refine .inl ⟨wanted_none rfl, ?_⟩
        unfold Oper.wp
        go_simp
        exact ⟨_, rfl, KO.of_below ((Below.refl _ _).alloc (Nat.le_refl _) _), ⟨_, rfl⟩, CR.made hC hlen (by decide) (by decide) hns hsz _⟩
      · simp at hq; subst hq
        have G8 := hI.has 9 8 rfl (hall ⟨9, .data⟩ (by simp) rfl)
        obtain ⟨Ra7, Rb7, Rc7, Rd7, da7, db7, dc7, dd7, ka7, kb7, kc7, kd7, g30, h7a⟩ := hI.has 7 30 rfl (hall ⟨7, .data⟩ (by simp) rfl)
        have hal : listed.getD 9 false = true := hall ⟨9, .data⟩ (by simp) rfl
        obtain ⟨B, gB, hlo, hblk⟩ := hC.blk hal hnot
        have gB2 := gB
        rw [Array.getD_eq_getD_getElem?] at gB2
        clear hI hall hnot hcl
        refine .inl ⟨wanted_none rfl, ?_⟩
        unfold Oper.wp
        go_simp
        have p0 := (hblk.2 0 _ rfl).1
        have q0 := (hblk.2 0 _ rfl).2
        have p1 := (hblk.2 1 _ rfl).1
        have q1 := (hblk.2 1 _ rfl).2
        have p2 := (hblk.2 2 _ rfl).1
        have q2 := (hblk.2 2 _ rfl).2
        have p3 := (hblk.2 3 _ rfl).1
        have q3 := (hblk.2 3 _ rfl).2
        have p4 := (hblk.2 4 _ rfl).1
        have q4 := (hblk.2 4 _ rfl).2
        have p5 := (hblk.2 5 _ rfl).1
        have q5 := (hblk.2 5 _ rfl).2
        have p6 := (hblk.2 6 _ rfl).1
        have q6 := (hblk.2 6 _ rfl).2
        go_simp
        have hf := (((((((hblk.set (i := 0) (by simp) (.slice Ra7 (gLp (stO a0 l0 d0 s0 n0 c0 hub0 tip0 (hasT n0 u1) (setSt s0 u1.toNat x2 y2 z2) hub0 tip0) a0).length da7)).set (i := 1) (by simp) (.slice Rb7 (gLp (stO a0 l0 d0 s0 n0 c0 hub0 tip0 (hasT n0 u1) (setSt s0 u1.toNat x2 y2 z2) hub0 tip0) l0).length db7)).set (i := 2) (by simp) (.slice Rc7 (gLp (stO a0 l0 d0 s0 n0 c0 hub0 tip0 (hasT n0 u1) (setSt s0 u1.toNat x2 y2 z2) hub0 tip0) d0).length dc7)).set (i := 3) (by simp) (.slice Rd7 (gN (stO a0 l0 d0 s0 n0 c0 hub0 tip0 (hasT n0 u1) (setSt s0 u1.toNat x2 y2 z2) hub0 tip0) n0) dd7)).set (i := 4) (by simp) (.int .i64 (gC (stO a0 l0 d0 s0 n0 c0 hub0 tip0 (hasT n0 u1) (setSt s0 u1.toNat x2 y2 z2) hub0 tip0) c0))).set (i := 5) (by simp) (.float .f32 (gN (stO a0 l0 d0 s0 n0 c0 hub0 tip0 (hasT n0 u1) (setSt s0 u1.toNat x2 y2 z2) hub0 tip0) hub0))).set (i := 6) (by simp) (.float .f32 (gN (stO a0 l0 d0 s0 n0 c0 hub0 tip0 (hasT n0 u1) (setSt s0 u1.toNat x2 y2 z2) hub0 tip0) tip0)))
        have hk := KO.store7 hblk (.slice Ra7 (gLp (stO a0 l0 d0 s0 n0 c0 hub0 tip0 (hasT n0 u1) (setSt s0 u1.toNat x2 y2 z2) hub0 tip0) a0).length da7) (.slice Rb7 (gLp (stO a0 l0 d0 s0 n0 c0 hub0 tip0 (hasT n0 u1) (setSt s0 u1.toNat x2 y2 z2) hub0 tip0) l0).length db7) (.slice Rc7 (gLp (stO a0 l0 d0 s0 n0 c0 hub0 tip0 (hasT n0 u1) (setSt s0 u1.toNat x2 y2 z2) hub0 tip0) d0).length dc7) (.slice Rd7 (gN (stO a0 l0 d0 s0 n0 c0 hub0 tip0 (hasT n0 u1) (setSt s0 u1.toNat x2 y2 z2) hub0 tip0) n0) dd7) (.int .i64 (gC (stO a0 l0 d0 s0 n0 c0 hub0 tip0 (hasT n0 u1) (setSt s0 u1.toNat x2 y2 z2) hub0 tip0) c0)) (.float .f32 (gN (stO a0 l0 d0 s0 n0 c0 hub0 tip0 (hasT n0 u1) (setSt s0 u1.toNat x2 y2 z2) hub0 tip0) hub0)) (.float .f32 (gN (stO a0 l0 d0 s0 n0 c0 hub0 tip0 (hasT n0 u1) (setSt s0 u1.toNat x2 y2 z2) hub0 tip0) tip0))
        have hbb := (((((((hC.below.setCell (p := ⟨B, 0, none⟩) hlo (.slice Ra7 (gLp (stO a0 l0 d0 s0 n0 c0 hub0 tip0 (hasT n0 u1) (setSt s0 u1.toNat x2 y2 z2) hub0 tip0) a0).length da7)).setCell (p := ⟨B, 1, none⟩) hlo (.slice Rb7 (gLp (stO a0 l0 d0 s0 n0 c0 hub0 tip0 (hasT n0 u1) (setSt s0 u1.toNat x2 y2 z2) hub0 tip0) l0).length db7)).setCell (p := ⟨B, 2, none⟩) hlo (.slice Rc7 (gLp (stO a0 l0 d0 s0 n0 c0 hub0 tip0 (hasT n0 u1) (setSt s0 u1.toNat x2 y2 z2) hub0 tip0) d0).length dc7)).setCell (p := ⟨B, 3, none⟩) hlo (.slice Rd7 (gN (stO a0 l0 d0 s0 n0 c0 hub0 tip0 (hasT n0 u1) (setSt s0 u1.toNat x2 y2 z2) hub0 tip0) n0) dd7)).setCell (p := ⟨B, 4, none⟩) hlo (.int .i64 (gC (stO a0 l0 d0 s0 n0 c0 hub0 tip0 (hasT n0 u1) (setSt s0 u1.toNat x2 y2 z2) hub0 tip0) c0))).setCell (p := ⟨B, 5, none⟩) hlo (.float .f32 (gN (stO a0 l0 d0 s0 n0 c0 hub0 tip0 (hasT n0 u1) (setSt s0 u1.toNat x2 y2 z2) hub0 tip0) hub0))).setCell (p := ⟨B, 6, none⟩) hlo (.float .f32 (gN (stO a0 l0 d0 s0 n0 c0 hub0 tip0 (hasT n0 u1) (setSt s0 u1.toNat x2 y2 z2) hub0 tip0) tip0)))
        have hcm := CR.stored hC hlen (by decide) hbb ⟨B, Ra7, Rb7, Rc7, Rd7, da7, db7, dc7, dd7, ka7, kb7, kc7, kd7, gB, hlo, hf, h7a.ko hk⟩ undef
        first | exact ⟨hk, trivial, hcm⟩ | exact ⟨hk, hcm⟩
      · simp at hq; subst hq
        have g31 : act.tmps[31]?.getD undef = .bool (stO a0 l0 d0 s0 n0 c0 hub0 tip0 (hasT n0 u1) (setSt s0 u1.toNat x2 y2 z2) hub0 tip0) := hI.has 8 31 rfl (hall ⟨8, .data⟩ (by simp) rfl)
        clear hI hall hnot hcl
        refine .inl ⟨wanted_none rfl, ?_⟩
        unfold Oper.wp
        go_simp
        all_goals exact ⟨_, rfl, KO.of_below (Below.refl _ _), rfl, CR.step (k := 11) hC hlen (by decide) (by decide) (by decide) 9 (by decide) _ (Below.refl _ _)⟩
      · simp at hq
    case hend =>
      intro listed act w3 hI hCA hall
      have hC := hCA
      have hB := hC.below
      have hlen : listed.size = 12 := hI.len
      obtain ⟨K0x0, K0x1, K0x2, K0x3, K0x4, K0x5, K0x6⟩ := (K0_1.out.below hB).sevenT
      obtain ⟨K2x0, K2x1, K2x2⟩ := (K2_1.out.below hB).three
      obtain ⟨cBk, cR1, cR2, cR3, cR4, cc1, cc2, cc3, cc4, cg1, cg2, cg3, cg4, g8, hlo, hblk, hown⟩ := hC.fin (hall 10 (by decide))
      rw [Array.getD_eq_getD_getElem?] at g8
      have g9 : act.tmps[9]?.getD undef = .bool (stO a0 l0 d0 s0 n0 c0 hub0 tip0 (hasT n0 u1) (setSt s0 u1.toNat x2 y2 z2) hub0 tip0) := hI.has 11 9 rfl (hall 11 (by decide))
      have g0 := hI.kept 0 (by kernel_rfl)
      conv at g0 => rhs; whnf
      have g1 := hI.kept 1 (by kernel_rfl)
      conv at g1 => rhs; whnf
      have g2 := hI.kept 2 (by kernel_rfl)
      conv at g2 => rhs; whnf
      have g3 := hI.kept 3 (by kernel_rfl)
      conv at g3 => rhs; whnf
      have g4 : act.tmps[4]?.getD undef = undef := hI.kept 4 (by kernel_rfl)
      have g5 := hI.kept 5 (by kernel_rfl)
      conv at g5 => rhs; whnf
      have g6 := hI.kept 6 (by kernel_rfl)
      conv at g6 => rhs; whnf
      have g7 := hI.kept 7 (by kernel_rfl)
      conv at g7 => rhs; whnf
      have g10 : act.tmps[10]?.getD undef = undef := hI.kept 10 (by kernel_rfl)
      have g11 : act.tmps[11]?.getD undef = undef := hI.kept 11 (by kernel_rfl)
      have g12 : act.tmps[12]?.getD undef = undef := hI.kept 12 (by kernel_rfl)
      have g13 : act.tmps[13]?.getD undef = undef := hI.kept 13 (by kernel_rfl)
      have g14 : act.tmps[14]?.getD undef = undef := hI.kept 14 (by kernel_rfl)
      have g15 : act.tmps[15]?.getD undef = undef := hI.kept 15 (by kernel_rfl)
      have g16 : act.tmps[16]?.getD undef = undef := hI.kept 16 (by kernel_rfl)
      have g17 : act.tmps[17]?.getD undef = undef := hI.kept 17 (by kernel_rfl)
      have g18 := hI.kept 18 (by kernel_rfl)
      conv at g18 => rhs; whnf
      have g19 := hI.kept 19 (by kernel_rfl)
      conv at g19 => rhs; whnf
      have g20 := hI.kept 20 (by kernel_rfl)
      conv at g20 => rhs; whnf
      have g21 := hI.kept 21 (by kernel_rfl)
      conv at g21 => rhs; whnf
      have g22 := hI.kept 22 (by kernel_rfl)
      conv at g22 => rhs; whnf
      have g32 : act.tmps[32]?.getD undef = undef := hI.kept 32 (by kernel_rfl)
      have g33 : act.tmps[33]?.getD undef = undef := hI.kept 33 (by kernel_rfl)
      have g34 : act.tmps[34]?.getD undef = undef := hI.kept 34 (by kernel_rfl)
      have g35 : act.tmps[35]?.getD undef = undef := hI.kept 35 (by kernel_rfl)
      have g36 : act.tmps[36]?.getD undef = undef := hI.kept 36 (by kernel_rfl)
      have g37 : act.tmps[37]?.getD undef = undef := hI.kept 37 (by kernel_rfl)
      have g38 : act.tmps[38]?.getD undef = undef := hI.kept 38 (by kernel_rfl)
      have g39 : act.tmps[39]?.getD undef = undef := hI.kept 39 (by kernel_rfl)
      have g40 : act.tmps[40]?.getD undef = undef := hI.kept 40 (by kernel_rfl)
      have g41 : act.tmps[41]?.getD undef = undef := hI.kept 41 (by kernel_rfl)
      have g42 : act.tmps[42]?.getD undef = undef := hI.kept 42 (by kernel_rfl)
      have g43 : act.tmps[43]?.getD undef = undef := hI.kept 43 (by kernel_rfl)
      have g44 : act.tmps[44]?.getD undef = undef := hI.kept 44 (by kernel_rfl)
      have g45 : act.tmps[45]?.getD undef = undef := hI.kept 45 (by kernel_rfl)
      have g46 : act.tmps[46]?.getD undef = undef := hI.kept 46 (by kernel_rfl)
      have g47 : act.tmps[47]?.getD undef = undef := hI.kept 47 (by kernel_rfl)
      have g48 : act.tmps[48]?.getD undef = undef := hI.kept 48 (by kernel_rfl)
      have g49 : act.tmps[49]?.getD undef = undef := hI.kept 49 (by kernel_rfl)
      have g50 : act.tmps[50]?.getD undef = undef := hI.kept 50 (by kernel_rfl)
      have g51 : act.tmps[51]?.getD undef = undef := hI.kept 51 (by kernel_rfl)
      have g52 : act.tmps[52]?.getD undef = undef := hI.kept 52 (by kernel_rfl)
      have g53 : act.tmps[53]?.getD undef = undef := hI.kept 53 (by kernel_rfl)
      have g54 : act.tmps[54]?.getD undef = undef := hI.kept 54 (by kernel_rfl)
      have g55 : act.tmps[55]?.getD undef = undef := hI.kept 55 (by kernel_rfl)
      have g56 : act.tmps[56]?.getD undef = undef := hI.kept 56 (by kernel_rfl)
      have g57 : act.tmps[57]?.getD undef = undef := hI.kept 57 (by kernel_rfl)
      have g58 : act.tmps[58]?.getD undef = undef := hI.kept 58 (by kernel_rfl)
      have g59 : act.tmps[59]?.getD undef = undef := hI.kept 59 (by kernel_rfl)
      have g60 : act.tmps[60]?.getD undef = undef := hI.kept 60 (by kernel_rfl)
      have g61 : act.tmps[61]?.getD undef = undef := hI.kept 61 (by kernel_rfl)
      have g62 : act.tmps[62]?.getD undef = undef := hI.kept 62 (by kernel_rfl)
      have g63 : act.tmps[63]?.getD undef = undef := hI.kept 63 (by kernel_rfl)
      have g64 : act.tmps[64]?.getD undef = undef := hI.kept 64 (by kernel_rfl)
      have g65 : act.tmps[65]?.getD undef = undef := hI.kept 65 (by kernel_rfl)
      have g66 : act.tmps[66]?.getD undef = undef := hI.kept 66 (by kernel_rfl)
      have g67 : act.tmps[67]?.getD undef = undef := hI.kept 67 (by kernel_rfl)
      have g68 : act.tmps[68]?.getD undef = undef := hI.kept 68 (by kernel_rfl)
      have g69 : act.tmps[69]?.getD undef = undef := hI.kept 69 (by kernel_rfl)
      have g70 : act.tmps[70]?.getD undef = undef := hI.kept 70 (by kernel_rfl)
      have g71 : act.tmps[71]?.getD undef = undef := hI.kept 71 (by kernel_rfl)
      have g72 : act.tmps[72]?.getD undef = undef := hI.kept 72 (by kernel_rfl)
      have g73 : act.tmps[73]?.getD undef = undef := hI.kept 73 (by kernel_rfl)
      have g74 : act.tmps[74]?.getD undef = undef := hI.kept 74 (by kernel_rfl)
      have g75 : act.tmps[75]?.getD undef = undef := hI.kept 75 (by kernel_rfl)
      have g76 : act.tmps[76]?.getD undef = undef := hI.kept 76 (by kernel_rfl)
      have g77 : act.tmps[77]?.getD undef = undef := hI.kept 77 (by kernel_rfl)
      have g78 : act.tmps[78]?.getD undef = undef := hI.kept 78 (by kernel_rfl)
      have g79 : act.tmps[79]?.getD undef = undef := hI.kept 79 (by kernel_rfl)
      have g80 : act.tmps[80]?.getD undef = undef := hI.kept 80 (by kernel_rfl)
      have g81 : act.tmps[81]?.getD undef = undef := hI.kept 81 (by kernel_rfl)
      have g82 : act.tmps[82]?.getD undef = undef := hI.kept 82 (by kernel_rfl)
      have g83 : act.tmps[83]?.getD undef = undef := hI.kept 83 (by kernel_rfl)
      have g84 : act.tmps[84]?.getD undef = undef := hI.kept 84 (by kernel_rfl)
      have g85 : act.tmps[85]?.getD undef = undef := hI.kept 85 (by kernel_rfl)
      have g86 : act.tmps[86]?.getD undef = undef := hI.kept 86 (by kernel_rfl)
      have g87 : act.tmps[87]?.getD undef = undef := hI.kept 87 (by kernel_rfl)
      have g88 : act.tmps[88]?.getD undef = undef := hI.kept 88 (by kernel_rfl)
      have g89 : act.tmps[89]?.getD undef = undef := hI.kept 89 (by kernel_rfl)
      have g90 : act.tmps[90]?.getD undef = undef := hI.kept 90 (by kernel_rfl)
      have g91 : act.tmps[91]?.getD undef = undef := hI.kept 91 (by kernel_rfl)
      have g92 : act.tmps[92]?.getD undef = undef := hI.kept 92 (by kernel_rfl)
      have g93 : act.tmps[93]?.getD undef = undef := hI.kept 93 (by kernel_rfl)
      have g94 : act.tmps[94]?.getD undef = undef := hI.kept 94 (by kernel_rfl)
      have g95 : act.tmps[95]?.getD undef = undef := hI.kept 95 (by kernel_rfl)
      have g96 : act.tmps[96]?.getD undef = undef := hI.kept 96 (by kernel_rfl)
      have g97 : act.tmps[97]?.getD undef = undef := hI.kept 97 (by kernel_rfl)
      have g98 : act.tmps[98]?.getD undef = undef := hI.kept 98 (by kernel_rfl)
      have g99 : act.tmps[99]?.getD undef = undef := hI.kept 99 (by kernel_rfl)
      have g100 : act.tmps[100]?.getD undef = undef := hI.kept 100 (by kernel_rfl)
      have g101 : act.tmps[101]?.getD undef = undef := hI.kept 101 (by kernel_rfl)
      have g102 : act.tmps[102]?.getD undef = undef := hI.kept 102 (by kernel_rfl)
      have g103 : act.tmps[103]?.getD undef = undef := hI.kept 103 (by kernel_rfl)
      have g104 : act.tmps[104]?.getD undef = undef := hI.kept 104 (by kernel_rfl)
      have g105 : act.tmps[105]?.getD undef = undef := hI.kept 105 (by kernel_rfl)
      have g106 : act.tmps[106]?.getD undef = undef := hI.kept 106 (by kernel_rfl)
      have g107 : act.tmps[107]?.getD undef = undef := hI.kept 107 (by kernel_rfl)
      have g108 : act.tmps[108]?.getD undef = undef := hI.kept 108 (by kernel_rfl)
      have hsz : act.tmps.size = 109 := hI.size.trans (by kernel_rfl)
      have hd := hI.defers
      clear hI hall hC hCA hlen K0x0 K0x1 K0x2 K0x3 K0x4 K0x5 K0x6 K2x0 K2x1 K2x2
      obtain ⟨tt, dd⟩ := act
      simp only at g0 g1 g2 g3 g4 g5 g6 g7 g8 g9 g10 g11 g12 g13 g14 g15 g16 g17 g18 g19 g20 g21 g22 g32 g33 g34 g35 g36 g37 g38 g39 g40 g41 g42 g43 g44 g45 g46 g47 g48 g49 g50 g51 g52 g53 g54 g55 g56 g57 g58 g59 g60 g61 g62 g63 g64 g65 g66 g67 g68 g69 g70 g71 g72 g73 g74 g75 g76 g77 g78 g79 g80 g81 g82 g83 g84 g85 g86 g87 g88 g89 g90 g91 g92 g93 g94 g95 g96 g97 g98 g99 g100 g101 g102 g103 g104 g105 g106 g107 g108 hsz hd
      subst hd
      have hl : tt = #[tt[0]?.getD undef, tt[1]?.getD undef, tt[2]?.getD undef, tt[3]?.getD undef, tt[4]?.getD undef, tt[5]?.getD undef, tt[6]?.getD undef, tt[7]?.getD undef, tt[8]?.getD undef, tt[9]?.getD undef, tt[10]?.getD undef, tt[11]?.getD undef, tt[12]?.getD undef, tt[13]?.getD undef, tt[14]?.getD undef, tt[15]?.getD undef, tt[16]?.getD undef, tt[17]?.getD undef, tt[18]?.getD undef, tt[19]?.getD undef, tt[20]?.getD undef, tt[21]?.getD undef, tt[22]?.getD undef, tt[23]?.getD undef, tt[24]?.getD undef, tt[25]?.getD undef, tt[26]?.getD undef, tt[27]?.getD undef, tt[28]?.getD undef, tt[29]?.getD undef, tt[30]?.getD undef, tt[31]?.getD undef, tt[32]?.getD undef, tt[33]?.getD undef, tt[34]?.getD undef, tt[35]?.getD undef, tt[36]?.getD undef, tt[37]?.getD undef, tt[38]?.getD undef, tt[39]?.getD undef, tt[40]?.getD undef, tt[41]?.getD undef, tt[42]?.getD undef, tt[43]?.getD undef, tt[44]?.getD undef, tt[45]?.getD undef, tt[46]?.getD undef, tt[47]?.getD undef, tt[48]?.getD undef, tt[49]?.getD undef, tt[50]?.getD undef, tt[51]?.getD undef, tt[52]?.getD undef, tt[53]?.getD undef, tt[54]?.getD undef, tt[55]?.getD undef, tt[56]?.getD undef, tt[57]?.getD undef, tt[58]?.getD undef, tt[59]?.getD undef, tt[60]?.getD undef, tt[61]?.getD undef, tt[62]?.getD undef, tt[63]?.getD undef, tt[64]?.getD undef, tt[65]?.getD undef, tt[66]?.getD undef, tt[67]?.getD undef, tt[68]?.getD undef, tt[69]?.getD undef, tt[70]?.getD undef, tt[71]?.getD undef, tt[72]?.getD undef, tt[73]?.getD undef, tt[74]?.getD undef, tt[75]?.getD undef, tt[76]?.getD undef, tt[77]?.getD undef, tt[78]?.getD undef, tt[79]?.getD undef, tt[80]?.getD undef, tt[81]?.getD undef, tt[82]?.getD undef, tt[83]?.getD undef, tt[84]?.getD undef, tt[85]?.getD undef, tt[86]?.getD undef, tt[87]?.getD undef, tt[88]?.getD undef, tt[89]?.getD undef, tt[90]?.getD undef, tt[91]?.getD undef, tt[92]?.getD undef, tt[93]?.getD undef, tt[94]?.getD undef, tt[95]?.getD undef, tt[96]?.getD undef, tt[97]?.getD undef, tt[98]?.getD undef, tt[99]?.getD undef, tt[100]?.getD undef, tt[101]?.getD undef, tt[102]?.getD undef, tt[103]?.getD undef, tt[104]?.getD undef, tt[105]?.getD undef, tt[106]?.getD undef, tt[107]?.getD undef, tt[108]?.getD undef] := (arr_lit hsz).trans rfl
      rw [g0, g1, g2, g3, g4, g5, g6, g7, g8, g9, g10, g11, g12, g13, g14, g15, g16, g17, g18, g19, g20, g21, g22, g32, g33, g34, g35, g36, g37, g38, g39, g40, g41, g42, g43, g44, g45, g46, g47, g48, g49, g50, g51, g52, g53, g54, g55, g56, g57, g58, g59, g60, g61, g62, g63, g64, g65, g66, g67, g68, g69, g70, g71, g72, g73, g74, g75, g76, g77, g78, g79, g80, g81, g82, g83, g84, g85, g86, g87, g88, g89, g90, g91, g92, g93, g94, g95, g96, g97, g98, g99, g100, g101, g102, g103, g104, g105, g106, g107, g108] at hl
      clear g0 g1 g2 g3 g4 g5 g6 g7 g8 g9 g10 g11 g12 g13 g14 g15 g16 g17 g18 g19 g20 g21 g22 g32 g33 g34 g35 g36 g37 g38 g39 g40 g41 g42 g43 g44 g45 g46 g47 g48 g49 g50 g51 g52 g53 g54 g55 g56 g57 g58 g59 g60 g61 g62 g63 g64 g65 g66 g67 g68 g69 g70 g71 g72 g73 g74 g75 g76 g77 g78 g79 g80 g81 g82 g83 g84 g85 g86 g87 g88 g89 g90 g91 g92 g93 g94 g95 g96 g97 g98 g99 g100 g101 g102 g103 g104 g105 g106 g107 g108 hsz
      generalize tt[23]?.getD undef = y23 at hl
      generalize tt[24]?.getD undef = y24 at hl
      generalize tt[25]?.getD undef = y25 at hl
      generalize tt[26]?.getD undef = y26 at hl
      generalize tt[27]?.getD undef = y27 at hl
      generalize tt[28]?.getD undef = y28 at hl
      generalize tt[29]?.getD undef = y29 at hl
      generalize tt[30]?.getD undef = y30 at hl
      generalize tt[31]?.getD undef = y31 at hl
      subst hl
      obtain ⟨wd2, hww⟩ : ∃ x, x = w3 := ⟨_, rfl⟩
      rw [← hww] at hB hblk hown ⊢
      clear hww
      have B2 : Hid (Below w.heap.size w wd2) := Lib.hid (below_of B1.out B1.out.size hB)
      have Z2 : Hid (wd1.heap.size ≤ wd2.heap.size) := Lib.hid hB.size
      have K0_2 : Hid (BlkL wd2 (w.heap.size) [.slice A0 a0.length ca0, .slice L0 l0.length cl0, .slice D0 d0.length cd0, .slice S0 n0 cs0, .int .i64 c0, .float .f32 hub0, .float .f32 tip0]) := Lib.hid (K0_1.out.below hB)
      have K2_2 : Hid (BlkL wd2 (w.heap.size + 1) [.float .f32 x2, .float .f32 y2, .float .f32 z2]) := Lib.hid (K2_1.out.below hB)
      clear K0_1 K2_1
      clear hB
      have Y2 : Hid (cBk < wd2.heap.size ∧ wd1.heap.size ≤ cBk) := Lib.hid ⟨hblk.1, hlo⟩
      have WB : Hid (BlkL wd2 cBk [.slice cR1 (gLp (stO a0 l0 d0 s0 n0 c0 hub0 tip0 (hasT n0 u1) (setSt s0 u1.toNat x2 y2 z2) hub0 tip0) a0).length cc1, .slice cR2 (gLp (stO a0 l0 d0 s0 n0 c0 hub0 tip0 (hasT n0 u1) (setSt s0 u1.toNat x2 y2 z2) hub0 tip0) l0).length cc2, .slice cR3 (gLp (stO a0 l0 d0 s0 n0 c0 hub0 tip0 (hasT n0 u1) (setSt s0 u1.toNat x2 y2 z2) hub0 tip0) d0).length cc3, .slice cR4 (gN (stO a0 l0 d0 s0 n0 c0 hub0 tip0 (hasT n0 u1) (setSt s0 u1.toNat x2 y2 z2) hub0 tip0) n0) cc4, .int .i64 (gC (stO a0 l0 d0 s0 n0 c0 hub0 tip0 (hasT n0 u1) (setSt s0 u1.toNat x2 y2 z2) hub0 tip0) c0), .float .f32 (gN (stO a0 l0 d0 s0 n0 c0 hub0 tip0 (hasT n0 u1) (setSt s0 u1.toNat x2 y2 z2) hub0 tip0) hub0), .float .f32 (gN (stO a0 l0 d0 s0 n0 c0 hub0 tip0 (hasT n0 u1) (setSt s0 u1.toNat x2 y2 z2) hub0 tip0) tip0)]) := Lib.hid (hblk)
      have Xc : Hid (OwnT wd2 wd1.heap.size cR1 cR2 cR3 cR4 cg1 cg2 cg3 cg4 (gLp (stO a0 l0 d0 s0 n0 c0 hub0 tip0 (hasT n0 u1) (setSt s0 u1.toNat x2 y2 z2) hub0 tip0) a0) (gLp (stO a0 l0 d0 s0 n0 c0 hub0 tip0 (hasT n0 u1) (setSt s0 u1.toNat x2 y2 z2) hub0 tip0) l0) (gLp (stO a0 l0 d0 s0 n0 c0 hub0 tip0 (hasT n0 u1) (setSt s0 u1.toNat x2 y2 z2) hub0 tip0) d0) (gLp (stO a0 l0 d0 s0 n0 c0 hub0 tip0 (hasT n0 u1) (setSt s0 u1.toNat x2 y2 z2) hub0 tip0) (setSt s0 u1.toNat x2 y2 z2))) := Lib.hid (hown)
      have Xcbd := Xc
      have XcNE := Lib.hid (Xc.out.apart WB.out)
      clear hblk hown hlo
      obtain ⟨K0x0, K0x1, K0x2, K0x3, K0x4, K0x5, K0x6⟩ := K0_2.out.sevenT
      obtain ⟨K2x0, K2x1, K2x2⟩ := K2_2.out.three
      obtain ⟨WBx0, WBx1, WBx2, WBx3, WBx4, WBx5, WBx6⟩ := WB.out.sevenT
      go_wp2_with fail
      refine (l_toRotor A0 L0 D0 S0 ca0 cl0 cd0 n0 cs0 c0 hub0 tip0 a0 l0 d0 s0 _ (HP0.out.below B2.out) HN0.out).mono ?_
      rintro e wd3 ⟨x01, x02, x03, x04, rfl, ho, b⟩
      have B3 : Hid (Below w.heap.size w wd3) := Lib.hid (below_of B2.out B2.out.size b)
      have Z3 : Hid (wd2.heap.size ≤ wd3.heap.size) := Lib.hid b.size
      have K0_3 : Hid (BlkL wd3 (w.heap.size) [.slice A0 a0.length ca0, .slice L0 l0.length cl0, .slice D0 d0.length cd0, .slice S0 n0 cs0, .int .i64 c0, .float .f32 hub0, .float .f32 tip0]) := Lib.hid (K0_2.out.below b)
      have K2_3 : Hid (BlkL wd3 (w.heap.size + 1) [.float .f32 x2, .float .f32 y2, .float .f32 z2]) := Lib.hid (K2_2.out.below b)
      have WB_1 : Hid (BlkL wd3 cBk [.slice cR1 (gLp (stO a0 l0 d0 s0 n0 c0 hub0 tip0 (hasT n0 u1) (setSt s0 u1.toNat x2 y2 z2) hub0 tip0) a0).length cc1, .slice cR2 (gLp (stO a0 l0 d0 s0 n0 c0 hub0 tip0 (hasT n0 u1) (setSt s0 u1.toNat x2 y2 z2) hub0 tip0) l0).length cc2, .slice cR3 (gLp (stO a0 l0 d0 s0 n0 c0 hub0 tip0 (hasT n0 u1) (setSt s0 u1.toNat x2 y2 z2) hub0 tip0) d0).length cc3, .slice cR4 (gN (stO a0 l0 d0 s0 n0 c0 hub0 tip0 (hasT n0 u1) (setSt s0 u1.toNat x2 y2 z2) hub0 tip0) n0) cc4, .int .i64 (gC (stO a0 l0 d0 s0 n0 c0 hub0 tip0 (hasT n0 u1) (setSt s0 u1.toNat x2 y2 z2) hub0 tip0) c0), .float .f32 (gN (stO a0 l0 d0 s0 n0 c0 hub0 tip0 (hasT n0 u1) (setSt s0 u1.toNat x2 y2 z2) hub0 tip0) hub0), .float .f32 (gN (stO a0 l0 d0 s0 n0 c0 hub0 tip0 (hasT n0 u1) (setSt s0 u1.toNat x2 y2 z2) hub0 tip0) tip0)]) := Lib.hid (WB.out.below b)
      have Xc_1 : Hid (OwnT wd3 wd1.heap.size cR1 cR2 cR3 cR4 cg1 cg2 cg3 cg4 (gLp (stO a0 l0 d0 s0 n0 c0 hub0 tip0 (hasT n0 u1) (setSt s0 u1.toNat x2 y2 z2) hub0 tip0) a0) (gLp (stO a0 l0 d0 s0 n0 c0 hub0 tip0 (hasT n0 u1) (setSt s0 u1.toNat x2 y2 z2) hub0 tip0) l0) (gLp (stO a0 l0 d0 s0 n0 c0 hub0 tip0 (hasT n0 u1) (setSt s0 u1.toNat x2 y2 z2) hub0 tip0) d0) (gLp (stO a0 l0 d0 s0 n0 c0 hub0 tip0 (hasT n0 u1) (setSt s0 u1.toNat x2 y2 z2) hub0 tip0) (setSt s0 u1.toNat x2 y2 z2))) := Lib.hid (Xc.out.below b)
      clear K0x0 K0x1 K0x2 K0x3 K0x4 K0x5 K0x6 K2x0 K2x1 K2x2 WBx0 WBx1 WBx2 WBx3 WBx4 WBx5 WBx6
      clear K0_2 K2_2 WB Xc
      have Xx0 : Hid (OwnT wd3 wd2.heap.size (some ⟨x01, 0, none⟩) (some ⟨x02, 0, none⟩) (some ⟨x03, 0, none⟩) (some ⟨x04, 0, none⟩) x01 x02 x03 x04 a0 l0 d0 s0) := Lib.hid (OwnR.t ho)
      have Xx0bd := Xx0
      clear ho b
      obtain ⟨wd4, hw4⟩ : ∃ x, x = wd3.alloc (.cells #[.slice (some ⟨x01, 0, none⟩) a0.length a0.length, .slice (some ⟨x02, 0, none⟩) l0.length l0.length, .slice (some ⟨x03, 0, none⟩) d0.length d0.length, .slice (some ⟨x04, 0, none⟩) n0 n0, .int .i64 c0, .float .f32 hub0, .float .f32 tip0] 30) := ⟨_, rfl⟩
      have b : Below wd3.heap.size wd3 wd4 := by rw [hw4]; exact (Below.refl _ _).alloc (Nat.le_refl _) _
      have Y4 : Hid (wd3.heap.size + 1 ≤ wd4.heap.size) := Lib.hid (by rw [hw4]; simp)
      have B4 : Hid (Below w.heap.size w wd4) := Lib.hid (below_of B3.out B3.out.size b)
      have Z4 : Hid (wd3.heap.size ≤ wd4.heap.size) := Lib.hid b.size
      have K0_4 : Hid (BlkL wd4 (w.heap.size) [.slice A0 a0.length ca0, .slice L0 l0.length cl0, .slice D0 d0.length cd0, .slice S0 n0 cs0, .int .i64 c0, .float .f32 hub0, .float .f32 tip0]) := Lib.hid (K0_3.out.below b)
      have K2_4 : Hid (BlkL wd4 (w.heap.size + 1) [.float .f32 x2, .float .f32 y2, .float .f32 z2]) := Lib.hid (K2_3.out.below b)
      have WB_2 : Hid (BlkL wd4 cBk [.slice cR1 (gLp (stO a0 l0 d0 s0 n0 c0 hub0 tip0 (hasT n0 u1) (setSt s0 u1.toNat x2 y2 z2) hub0 tip0) a0).length cc1, .slice cR2 (gLp (stO a0 l0 d0 s0 n0 c0 hub0 tip0 (hasT n0 u1) (setSt s0 u1.toNat x2 y2 z2) hub0 tip0) l0).length cc2, .slice cR3 (gLp (stO a0 l0 d0 s0 n0 c0 hub0 tip0 (hasT n0 u1) (setSt s0 u1.toNat x2 y2 z2) hub0 tip0) d0).length cc3, .slice cR4 (gN (stO a0 l0 d0 s0 n0 c0 hub0 tip0 (hasT n0 u1) (setSt s0 u1.toNat x2 y2 z2) hub0 tip0) n0) cc4, .int .i64 (gC (stO a0 l0 d0 s0 n0 c0 hub0 tip0 (hasT n0 u1) (setSt s0 u1.toNat x2 y2 z2) hub0 tip0) c0), .float .f32 (gN (stO a0 l0 d0 s0 n0 c0 hub0 tip0 (hasT n0 u1) (setSt s0 u1.toNat x2 y2 z2) hub0 tip0) hub0), .float .f32 (gN (stO a0 l0 d0 s0 n0 c0 hub0 tip0 (hasT n0 u1) (setSt s0 u1.toNat x2 y2 z2) hub0 tip0) tip0)]) := Lib.hid (WB_1.out.below b)
      have Xc_2 : Hid (OwnT wd4 wd1.heap.size cR1 cR2 cR3 cR4 cg1 cg2 cg3 cg4 (gLp (stO a0 l0 d0 s0 n0 c0 hub0 tip0 (hasT n0 u1) (setSt s0 u1.toNat x2 y2 z2) hub0 tip0) a0) (gLp (stO a0 l0 d0 s0 n0 c0 hub0 tip0 (hasT n0 u1) (setSt s0 u1.toNat x2 y2 z2) hub0 tip0) l0) (gLp (stO a0 l0 d0 s0 n0 c0 hub0 tip0 (hasT n0 u1) (setSt s0 u1.toNat x2 y2 z2) hub0 tip0) d0) (gLp (stO a0 l0 d0 s0 n0 c0 hub0 tip0 (hasT n0 u1) (setSt s0 u1.toNat x2 y2 z2) hub0 tip0) (setSt s0 u1.toNat x2 y2 z2))) := Lib.hid (Xc_1.out.below b)
      have Xx0_1 : Hid (OwnT wd4 wd2.heap.size (some ⟨x01, 0, none⟩) (some ⟨x02, 0, none⟩) (some ⟨x03, 0, none⟩) (some ⟨x04, 0, none⟩) x01 x02 x03 x04 a0 l0 d0 s0) := Lib.hid (Xx0.out.below b)
      have V0 : Hid (BlkL wd4 (wd3.heap.size) [.slice (some ⟨x01, 0, none⟩) a0.length a0.length, .slice (some ⟨x02, 0, none⟩) l0.length l0.length, .slice (some ⟨x03, 0, none⟩) d0.length d0.length, .slice (some ⟨x04, 0, none⟩) n0 n0, .int .i64 c0, .float .f32 hub0, .float .f32 tip0]) := Lib.hid (by rw [hw4]; exact blkL_at wd3 #[.slice (some ⟨x01, 0, none⟩) a0.length a0.length, .slice (some ⟨x02, 0, none⟩) l0.length l0.length, .slice (some ⟨x03, 0, none⟩) d0.length d0.length, .slice (some ⟨x04, 0, none⟩) n0 n0, .int .i64 c0, .float .f32 hub0, .float .f32 tip0] 30 rfl)
      clear b
      have K0y0 := fun o => ((K0_3.out.alloc o).2 0 _ rfl).1
      have K0y1 := fun o => ((K0_3.out.alloc o).2 1 _ rfl).1
      have K0y2 := fun o => ((K0_3.out.alloc o).2 2 _ rfl).1
      have K0y3 := fun o => ((K0_3.out.alloc o).2 3 _ rfl).1
      have K0y4 := fun o => ((K0_3.out.alloc o).2 4 _ rfl).1
      have K0y5 := fun o => ((K0_3.out.alloc o).2 5 _ rfl).1
      have K0y6 := fun o => ((K0_3.out.alloc o).2 6 _ rfl).1
      have K2y0 := fun o => ((K2_3.out.alloc o).2 0 _ rfl).1
      have K2y1 := fun o => ((K2_3.out.alloc o).2 1 _ rfl).1
      have K2y2 := fun o => ((K2_3.out.alloc o).2 2 _ rfl).1
      have WBy0 := fun o => ((WB_1.out.alloc o).2 0 _ rfl).1
      have WBy1 := fun o => ((WB_1.out.alloc o).2 1 _ rfl).1
      have WBy2 := fun o => ((WB_1.out.alloc o).2 2 _ rfl).1
      have WBy3 := fun o => ((WB_1.out.alloc o).2 3 _ rfl).1
      have WBy4 := fun o => ((WB_1.out.alloc o).2 4 _ rfl).1
      have WBy5 := fun o => ((WB_1.out.alloc o).2 5 _ rfl).1
      have WBy6 := fun o => ((WB_1.out.alloc o).2 6 _ rfl).1
      go_wp2_with fail
      rw [← hw4]
      clear hw4
      clear K0y0 K0y1 K0y2 K0y3 K0y4 K0y5 K0y6 K2y0 K2y1 K2y2 WBy0 WBy1 WBy2 WBy3 WBy4 WBy5 WBy6
      clear K0_3 K2_3 WB_1 Xc_1 Xx0
      obtain ⟨K0x0, K0x1, K0x2, K0x3, K0x4, K0x5, K0x6⟩ := K0_4.out.sevenT
      obtain ⟨K2x0, K2x1, K2x2⟩ := K2_4.out.three
      obtain ⟨WBx0, WBx1, WBx2, WBx3, WBx4, WBx5, WBx6⟩ := WB_2.out.sevenT
      obtain ⟨V0x0, V0x1, V0x2, V0x3, V0x4, V0x5, V0x6⟩ := V0.out.sevenT
      go_wp2_with fail
      clear K0x0 K0x1 K0x2 K0x3 K0x4 K0x5 K0x6 K2x0 K2x1 K2x2 WBx0 WBx1 WBx2 WBx3 WBx4 WBx5 WBx6 V0x0 V0x1 V0x2 V0x3 V0x4 V0x5 V0x6
      refine wp_region_inv7B (fun iq wv v => match iq with
        | 0 => v = .agg #[.slice (some ⟨x01, 0, none⟩) a0.length a0.length, .slice (some ⟨x02, 0, none⟩) l0.length l0.length, .slice (some ⟨x03, 0, none⟩) d0.length d0.length, .slice (some ⟨x04, 0, none⟩) n0 n0, .int .i64 c0, .float .f32 hub0, .float .f32 tip0]
        | 1 => v = .int .i64 u1
        | 2 => v = .agg #[.float .f32 x2, .float .f32 y2, .float .f32 z2]
        | 3 => v = .agg #[.float .f32 x2, .float .f32 y2, .float .f32 z2]
        | 4 => RGiv wd4.heap.size (stO a0 l0 d0 s0 n0 c0 hub0 tip0 (hasT n0 u1) (setSt s0 u1.toNat x2 y2 z2) hub0 tip0) a0 l0 d0 ((setSt s0 u1.toNat x2 y2 z2)) n0 c0 hub0 tip0 wv v
        | 5 => RGiv wd4.heap.size (stO a0 l0 d0 s0 n0 c0 hub0 tip0 (hasT n0 u1) (setSt s0 u1.toNat x2 y2 z2) hub0 tip0) a0 l0 d0 ((setSt s0 u1.toNat x2 y2 z2)) n0 c0 hub0 tip0 wv v
        | 6 => RAgg wd4.heap.size (stO a0 l0 d0 s0 n0 c0 hub0 tip0 (hasT n0 u1) (setSt s0 u1.toNat x2 y2 z2) hub0 tip0) a0 l0 d0 ((setSt s0 u1.toNat x2 y2 z2)) n0 c0 hub0 tip0 wv v
        | 7 => v = .bool (stO a0 l0 d0 s0 n0 c0 hub0 tip0 (hasT n0 u1) (setSt s0 u1.toNat x2 y2 z2) hub0 tip0)
        | 8 => ∃ B, v = .pointer (some ⟨B, 0, none⟩)
        | 9 => True
        | 10 => v = .bool (stO a0 l0 d0 s0 n0 c0 hub0 tip0 (hasT n0 u1) (setSt s0 u1.toNat x2 y2 z2) hub0 tip0)
        | _ => False) (CR wd4 8 9 11 (stO a0 l0 d0 s0 n0 c0 hub0 tip0 (hasT n0 u1) (setSt s0 u1.toNat x2 y2 z2) hub0 tip0) a0 l0 d0 ((setSt s0 u1.toNat x2 y2 z2)) n0 c0 hub0 tip0) (fun wa wb => KO wa wb) ?hmono (by kernel_rfl) (by kernel_rfl) CR.start ?hop ?hend
      case hmono =>
        intro i wa wb v hR hV
        rcases i with _ | _ | _ | _ | _ | _ | _ | _ | _ | _ | _ | i
        · exact hV
        · exact hV
        · exact hV
        · exact hV
        · exact hV.ko hR
        · exact hV.ko hR
        · exact hV.ko hR
        · exact hV
        · exact hV
        · exact hV
        · exact hV
        · exact hV
      case hop =>
        intro q o hq listed act w3 hI hCA hnot hcl hall
        have hC := hCA
        have hB := hC.below
        have hlen : listed.size = 11 := hI.len
        obtain ⟨K0x0, K0x1, K0x2, K0x3, K0x4, K0x5, K0x6⟩ := (K0_4.out.below hB).sevenT
        obtain ⟨K2x0, K2x1, K2x2⟩ := (K2_4.out.below hB).three
        obtain ⟨WBx0, WBx1, WBx2, WBx3, WBx4, WBx5, WBx6⟩ := (WB_2.out.below hB).sevenT
        obtain ⟨V0x0, V0x1, V0x2, V0x3, V0x4, V0x5, V0x6⟩ := (V0.out.below hB).sevenT
        rcases q with _ | _ | _ | _ | _ | _ | _ | _ | _ | _ | _ | q
        · simp at hq; subst hq
          have g10 : act.tmps[10]?.getD undef = .pointer (some ⟨wd3.heap.size, 0, none⟩) := hI.kept 10 (by kernel_rfl)
          clear hI hall hnot hcl
          refine .inl ⟨wanted_none rfl, ?_⟩
          unfold Oper.wp
          go_simp
          all_goals exact ⟨_, rfl, KO.of_below (Below.refl _ _), rfl, CR.step (k := 0) hC hlen (by decide) (by decide) (by decide) 35 (by decide) _ (Below.refl _ _)⟩
        · simp at hq; subst hq
          have g1 : act.tmps[1]?.getD undef = .int .i64 u1 := hI.kept 1 (by kernel_rfl)
          clear hI hall hnot hcl
          refine .inl ⟨wanted_none rfl, ?_⟩
          unfold Oper.wp
          go_simp
          all_goals exact ⟨_, rfl, KO.of_below (Below.refl _ _), rfl, CR.step (k := 1) hC hlen (by decide) (by decide) (by decide) 36 (by decide) _ (Below.refl _ _)⟩
        · simp at hq; subst hq
          have g5 : act.tmps[5]?.getD undef = .pointer (some ⟨(w.heap.size + 1), 0, none⟩) := hI.kept 5 (by kernel_rfl)
          clear hI hall hnot hcl
          refine .inl ⟨wanted_none rfl, ?_⟩
          unfold Oper.wp
          go_simp
          all_goals exact ⟨_, rfl, KO.of_below (Below.refl _ _), rfl, CR.step (k := 2) hC hlen (by decide) (by decide) (by decide) 37 (by decide) _ (Below.refl _ _)⟩
        · simp at hq; subst hq
          have g37 : act.tmps[37]?.getD undef = .agg #[.float .f32 x2, .float .f32 y2, .float .f32 z2] := hI.has 2 37 rfl (hall ⟨2, .data⟩ (by simp) rfl)
          clear hI hall hnot hcl
          refine .inl ⟨wanted_none rfl, ?_⟩
          unfold Oper.wp
          go_simp
          refine (l_toStation x2 y2 z2 _).mono ?_
          rintro e w4 ⟨rfl, b4⟩
          exact ⟨_, rfl, KO.of_below b4, rfl, CR.step (k := 3) hC hlen (by decide) (by decide) (by decide) 38 (by decide) _ b4⟩
        · simp at hq; subst hq
          have g35 : act.tmps[35]?.getD undef = .agg #[.slice (some ⟨x01, 0, none⟩) a0.length a0.length, .slice (some ⟨x02, 0, none⟩) l0.length l0.length, .slice (some ⟨x03, 0, none⟩) d0.length d0.length, .slice (some ⟨x04, 0, none⟩) n0 n0, .int .i64 c0, .float .f32 hub0, .float .f32 tip0] := hI.has 0 35 rfl (hall ⟨0, .data⟩ (by simp) rfl)
          have g36 : act.tmps[36]?.getD undef = .int .i64 u1 := hI.has 1 36 rfl (hall ⟨1, .data⟩ (by simp) rfl)
          have g38 : act.tmps[38]?.getD undef = .agg #[.float .f32 x2, .float .f32 y2, .float .f32 z2] := hI.has 3 38 rfl (hall ⟨3, .data⟩ (by simp) rfl)
          clear hI hall hnot hcl
          refine .inl ⟨wanted_none rfl, ?_⟩
          unfold Oper.wp
          go_simp
          refine (i_SetStation _ _ _ _ _ _ _ _ _ _ _ _ a0 l0 d0 s0 u1 x2 y2 z2 _ (OwnT.rt (Xx0_1.out.below hB)) HN0.out).mono ?_
          rintro e w4 ⟨Ra, Rb, Rc, Rd, da, db, dc, dd, ka, kb, kc, kd, rfl, ho, b4⟩
          exact ⟨_, rfl, KO.of_below b4, RGiv.mk' (ho.baseT (by have := hB.size; omega)), CR.step (k := 4) hC hlen (by decide) (by decide) (by decide) 39 (by decide) _ b4⟩
        · simp at hq; subst hq
          obtain ⟨Ra4, Rb4, Rc4, Rd4, da4, db4, dc4, dd4, ka4, kb4, kc4, kd4, g39, h4a⟩ := hI.has 4 39 rfl (hall ⟨4, .data⟩ (by simp) rfl)
          clear hI hall hnot hcl
          refine .inl ⟨wanted_none rfl, ?_⟩
          unfold Oper.wp
          go_simp
          exact ⟨_, rfl, KO.of_below (Below.refl _ _), RGiv.mk' h4a, CR.step (k := 5) hC hlen (by decide) (by decide) (by decide) 34 (by decide) _ (Below.refl _ _)⟩
        · simp at hq; subst hq
          obtain ⟨Ra5, Rb5, Rc5, Rd5, da5, db5, dc5, dd5, ka5, kb5, kc5, kd5, g34, h5a⟩ := hI.has 5 34 rfl (hall ⟨5, .data⟩ (by simp) rfl)
          clear hI hall hnot hcl
          refine .inl ⟨wanted_none rfl, ?_⟩
          unfold Oper.wp
          go_simp
          exact ⟨_, rfl, KO.of_below (Below.refl _ _), RAgg.mk' h5a, CR.step (k := 6) hC hlen (by decide) (by decide) (by decide) 40 (by decide) _ (Below.refl _ _)⟩
        · simp at hq; subst hq
          obtain ⟨Ra5, Rb5, Rc5, Rd5, da5, db5, dc5, dd5, ka5, kb5, kc5, kd5, g34, h5a⟩ := hI.has 5 34 rfl (hall ⟨5, .data⟩ (by simp) rfl)
          clear hI hall hnot hcl
          refine .inl ⟨wanted_none rfl, ?_⟩
          unfold Oper.wp
          go_simp
          exact ⟨_, rfl, KO.of_below (Below.refl _ _), rfl, CR.step (k := 7) hC hlen (by decide) (by decide) (by decide) 41 (by decide) _ (Below.refl _ _)⟩
        · simp at hq; subst hq
          have hns := hcl.not (j := 9) (i := 8) (e := ⟨8, .data⟩) rfl (by simp) rfl rfl hnot
          have hsz : 11 < act.tmps.size := by rw [show act.tmps.size = 109 from hI.size.trans (by kernel_rfl)]; decide
          clear hI hall hnot hcl
          refine .inl ⟨wanted_none rfl, ?_⟩
          unfold Oper.wp
          go_simp
          exact ⟨_, rfl, KO.of_below ((Below.refl _ _).alloc (Nat.le_refl _) _), ⟨_, rfl⟩, CR.made hC hlen (by decide) (by decide) hns hsz _⟩
        · simp at hq; subst hq
          have G11 := hI.has 8 11 rfl (hall ⟨8, .data⟩ (by simp) rfl)
          obtain ⟨Ra6, Rb6, Rc6, Rd6, da6, db6, dc6, dd6, ka6, kb6, kc6, kd6, g40, h6a⟩ := hI.has 6 40 rfl (hall ⟨6, .data⟩ (by simp) rfl)
          have hal : listed.getD 8 false = true := hall ⟨8, .data⟩ (by simp) rfl
          obtain ⟨B, gB, hlo, hblk⟩ := hC.blk hal hnot
          have gB2 := gB
          rw [Array.getD_eq_getD_getElem?] at gB2
          clear hI hall hnot hcl
          refine .inl ⟨wanted_none rfl, ?_⟩
          unfold Oper.wp
          go_simp
          have p0 := (hblk.2 0 _ rfl).1
          have q0 := (hblk.2 0 _ rfl).2
          have p1 := (hblk.2 1 _ rfl).1
          have q1 := (hblk.2 1 _ rfl).2
          have p2 := (hblk.2 2 _ rfl).1
          have q2 := (hblk.2 2 _ rfl).2
          have p3 := (hblk.2 3 _ rfl).1
          have q3 := (hblk.2 3 _ rfl).2
          have p4 := (hblk.2 4 _ rfl).1
          have q4 := (hblk.2 4 _ rfl).2
          have p5 := (hblk.2 5 _ rfl).1
          have q5 := (hblk.2 5 _ rfl).2
          have p6 := (hblk.2 6 _ rfl).1
          have q6 := (hblk.2 6 _ rfl).2
          go_simp
          have hf := (((((((hblk.set (i := 0) (by simp) (.slice Ra6 (gLp (stO a0 l0 d0 s0 n0 c0 hub0 tip0 (hasT n0 u1) (setSt s0 u1.toNat x2 y2 z2) hub0 tip0) a0).length da6)).set (i := 1) (by simp) (.slice Rb6 (gLp (stO a0 l0 d0 s0 n0 c0 hub0 tip0 (hasT n0 u1) (setSt s0 u1.toNat x2 y2 z2) hub0 tip0) l0).length db6)).set (i := 2) (by simp) (.slice Rc6 (gLp (stO a0 l0 d0 s0 n0 c0 hub0 tip0 (hasT n0 u1) (setSt s0 u1.toNat x2 y2 z2) hub0 tip0) d0).length dc6)).set (i := 3) (by simp) (.slice Rd6 (gN (stO a0 l0 d0 s0 n0 c0 hub0 tip0 (hasT n0 u1) (setSt s0 u1.toNat x2 y2 z2) hub0 tip0) n0) dd6)).set (i := 4) (by simp) (.int .i64 (gC (stO a0 l0 d0 s0 n0 c0 hub0 tip0 (hasT n0 u1) (setSt s0 u1.toNat x2 y2 z2) hub0 tip0) c0))).set (i := 5) (by simp) (.float .f32 (gN (stO a0 l0 d0 s0 n0 c0 hub0 tip0 (hasT n0 u1) (setSt s0 u1.toNat x2 y2 z2) hub0 tip0) hub0))).set (i := 6) (by simp) (.float .f32 (gN (stO a0 l0 d0 s0 n0 c0 hub0 tip0 (hasT n0 u1) (setSt s0 u1.toNat x2 y2 z2) hub0 tip0) tip0)))
          have hk := KO.store7 hblk (.slice Ra6 (gLp (stO a0 l0 d0 s0 n0 c0 hub0 tip0 (hasT n0 u1) (setSt s0 u1.toNat x2 y2 z2) hub0 tip0) a0).length da6) (.slice Rb6 (gLp (stO a0 l0 d0 s0 n0 c0 hub0 tip0 (hasT n0 u1) (setSt s0 u1.toNat x2 y2 z2) hub0 tip0) l0).length db6) (.slice Rc6 (gLp (stO a0 l0 d0 s0 n0 c0 hub0 tip0 (hasT n0 u1) (setSt s0 u1.toNat x2 y2 z2) hub0 tip0) d0).length dc6) (.slice Rd6 (gN (stO a0 l0 d0 s0 n0 c0 hub0 tip0 (hasT n0 u1) (setSt s0 u1.toNat x2 y2 z2) hub0 tip0) n0) dd6) (.int .i64 (gC (stO a0 l0 d0 s0 n0 c0 hub0 tip0 (hasT n0 u1) (setSt s0 u1.toNat x2 y2 z2) hub0 tip0) c0)) (.float .f32 (gN (stO a0 l0 d0 s0 n0 c0 hub0 tip0 (hasT n0 u1) (setSt s0 u1.toNat x2 y2 z2) hub0 tip0) hub0)) (.float .f32 (gN (stO a0 l0 d0 s0 n0 c0 hub0 tip0 (hasT n0 u1) (setSt s0 u1.toNat x2 y2 z2) hub0 tip0) tip0))
          have hbb := (((((((hC.below.setCell (p := ⟨B, 0, none⟩) hlo (.slice Ra6 (gLp (stO a0 l0 d0 s0 n0 c0 hub0 tip0 (hasT n0 u1) (setSt s0 u1.toNat x2 y2 z2) hub0 tip0) a0).length da6)).setCell (p := ⟨B, 1, none⟩) hlo (.slice Rb6 (gLp (stO a0 l0 d0 s0 n0 c0 hub0 tip0 (hasT n0 u1) (setSt s0 u1.toNat x2 y2 z2) hub0 tip0) l0).length db6)).setCell (p := ⟨B, 2, none⟩) hlo (.slice Rc6 (gLp (stO a0 l0 d0 s0 n0 c0 hub0 tip0 (hasT n0 u1) (setSt s0 u1.toNat x2 y2 z2) hub0 tip0) d0).length dc6)).setCell (p := ⟨B, 3, none⟩) hlo (.slice Rd6 (gN (stO a0 l0 d0 s0 n0 c0 hub0 tip0 (hasT n0 u1) (setSt s0 u1.toNat x2 y2 z2) hub0 tip0) n0) dd6)).setCell (p := ⟨B, 4, none⟩) hlo (.int .i64 (gC (stO a0 l0 d0 s0 n0 c0 hub0 tip0 (hasT n0 u1) (setSt s0 u1.toNat x2 y2 z2) hub0 tip0) c0))).setCell (p := ⟨B, 5, none⟩) hlo (.float .f32 (gN (stO a0 l0 d0 s0 n0 c0 hub0 tip0 (hasT n0 u1) (setSt s0 u1.toNat x2 y2 z2) hub0 tip0) hub0))).setCell (p := ⟨B, 6, none⟩) hlo (.float .f32 (gN (stO a0 l0 d0 s0 n0 c0 hub0 tip0 (hasT n0 u1) (setSt s0 u1.toNat x2 y2 z2) hub0 tip0) tip0)))
          have hcm := CR.stored hC hlen (by decide) hbb ⟨B, Ra6, Rb6, Rc6, Rd6, da6, db6, dc6, dd6, ka6, kb6, kc6, kd6, gB, hlo, hf, h6a.ko hk⟩ undef
          first | exact ⟨hk, trivial, hcm⟩ | exact ⟨hk, hcm⟩
        · simp at hq; subst hq
          have g41 : act.tmps[41]?.getD undef = .bool (stO a0 l0 d0 s0 n0 c0 hub0 tip0 (hasT n0 u1) (setSt s0 u1.toNat x2 y2 z2) hub0 tip0) := hI.has 7 41 rfl (hall ⟨7, .data⟩ (by simp) rfl)
          clear hI hall hnot hcl
          refine .inl ⟨wanted_none rfl, ?_⟩
          unfold Oper.wp
          go_simp
          all_goals exact ⟨_, rfl, KO.of_below (Below.refl _ _), rfl, CR.step (k := 10) hC hlen (by decide) (by decide) (by decide) 12 (by decide) _ (Below.refl _ _)⟩
        · simp at hq
      case hend =>
        intro listed act w3 hI hCA hall
        have hC := hCA
        have hB := hC.below
        have hlen : listed.size = 11 := hI.len
        obtain ⟨K0x0, K0x1, K0x2, K0x3, K0x4, K0x5, K0x6⟩ := (K0_4.out.below hB).sevenT
        obtain ⟨K2x0, K2x1, K2x2⟩ := (K2_4.out.below hB).three
        obtain ⟨WBx0, WBx1, WBx2, WBx3, WBx4, WBx5, WBx6⟩ := (WB_2.out.below hB).sevenT
        obtain ⟨V0x0, V0x1, V0x2, V0x3, V0x4, V0x5, V0x6⟩ := (V0.out.below hB).sevenT
        obtain ⟨gBk, gR1, gR2, gR3, gR4, gc1, gc2, gc3, gc4, gg1, gg2, gg3, gg4, g11, hlo, hblk, hown⟩ := hC.fin (hall 9 (by decide))
        rw [Array.getD_eq_getD_getElem?] at g11
        have g12 : act.tmps[12]?.getD undef = .bool (stO a0 l0 d0 s0 n0 c0 hub0 tip0 (hasT n0 u1) (setSt s0 u1.toNat x2 y2 z2) hub0 tip0) := hI.has 10 12 rfl (hall 10 (by decide))
        have g0 := hI.kept 0 (by kernel_rfl)
        conv at g0 => rhs; whnf
        have g1 := hI.kept 1 (by kernel_rfl)
        conv at g1 => rhs; whnf
        have g2 := hI.kept 2 (by kernel_rfl)
        conv at g2 => rhs; whnf
        have g3 := hI.kept 3 (by kernel_rfl)
        conv at g3 => rhs; whnf
        have g4 : act.tmps[4]?.getD undef = undef := hI.kept 4 (by kernel_rfl)
        have g5 := hI.kept 5 (by kernel_rfl)
        conv at g5 => rhs; whnf
        have g6 := hI.kept 6 (by kernel_rfl)
        conv at g6 => rhs; whnf
        have g7 := hI.kept 7 (by kernel_rfl)
        conv at g7 => rhs; whnf
        have g8 := hI.kept 8 (by kernel_rfl)
        conv at g8 => rhs; whnf
        have g9 := hI.kept 9 (by kernel_rfl)
        conv at g9 => rhs; whnf
        have g10 := hI.kept 10 (by kernel_rfl)
        conv at g10 => rhs; whnf
        have g13 : act.tmps[13]?.getD undef = undef := hI.kept 13 (by kernel_rfl)
        have g14 : act.tmps[14]?.getD undef = undef := hI.kept 14 (by kernel_rfl)
        have g15 : act.tmps[15]?.getD undef = undef := hI.kept 15 (by kernel_rfl)
        have g16 : act.tmps[16]?.getD undef = undef := hI.kept 16 (by kernel_rfl)
        have g17 : act.tmps[17]?.getD undef = undef := hI.kept 17 (by kernel_rfl)
        have g18 := hI.kept 18 (by kernel_rfl)
        conv at g18 => rhs; whnf
        have g19 := hI.kept 19 (by kernel_rfl)
        conv at g19 => rhs; whnf
        have g20 := hI.kept 20 (by kernel_rfl)
        conv at g20 => rhs; whnf
        have g21 := hI.kept 21 (by kernel_rfl)
        conv at g21 => rhs; whnf
        have g22 := hI.kept 22 (by kernel_rfl)
        conv at g22 => rhs; whnf
        have g23 := hI.kept 23 (by kernel_rfl)
        conv at g23 => rhs; whnf
        have g24 := hI.kept 24 (by kernel_rfl)
        conv at g24 => rhs; whnf
        have g25 := hI.kept 25 (by kernel_rfl)
        conv at g25 => rhs; whnf
        have g26 := hI.kept 26 (by kernel_rfl)
        conv at g26 => rhs; whnf
        have g27 := hI.kept 27 (by kernel_rfl)
        conv at g27 => rhs; whnf
        have g28 := hI.kept 28 (by kernel_rfl)
        conv at g28 => rhs; whnf
        have g29 := hI.kept 29 (by kernel_rfl)
        conv at g29 => rhs; whnf
        have g30 := hI.kept 30 (by kernel_rfl)
        conv at g30 => rhs; whnf
        have g31 := hI.kept 31 (by kernel_rfl)
        conv at g31 => rhs; whnf
        have g32 := hI.kept 32 (by kernel_rfl)
        conv at g32 => rhs; whnf
        have g33 := hI.kept 33 (by kernel_rfl)
        conv at g33 => rhs; whnf
        have g42 : act.tmps[42]?.getD undef = undef := hI.kept 42 (by kernel_rfl)
        have g43 : act.tmps[43]?.getD undef = undef := hI.kept 43 (by kernel_rfl)
        have g44 : act.tmps[44]?.getD undef = undef := hI.kept 44 (by kernel_rfl)
        have g45 : act.tmps[45]?.getD undef = undef := hI.kept 45 (by kernel_rfl)
        have g46 : act.tmps[46]?.getD undef = undef := hI.kept 46 (by kernel_rfl)
        have g47 : act.tmps[47]?.getD undef = undef := hI.kept 47 (by kernel_rfl)
        have g48 : act.tmps[48]?.getD undef = undef := hI.kept 48 (by kernel_rfl)
        have g49 : act.tmps[49]?.getD undef = undef := hI.kept 49 (by kernel_rfl)
        have g50 : act.tmps[50]?.getD undef = undef := hI.kept 50 (by kernel_rfl)
        have g51 : act.tmps[51]?.getD undef = undef := hI.kept 51 (by kernel_rfl)
        have g52 : act.tmps[52]?.getD undef = undef := hI.kept 52 (by kernel_rfl)
        have g53 : act.tmps[53]?.getD undef = undef := hI.kept 53 (by kernel_rfl)
        have g54 : act.tmps[54]?.getD undef = undef := hI.kept 54 (by kernel_rfl)
        have g55 : act.tmps[55]?.getD undef = undef := hI.kept 55 (by kernel_rfl)
        have g56 : act.tmps[56]?.getD undef = undef := hI.kept 56 (by kernel_rfl)
        have g57 : act.tmps[57]?.getD undef = undef := hI.kept 57 (by kernel_rfl)
        have g58 : act.tmps[58]?.getD undef = undef := hI.kept 58 (by kernel_rfl)
        have g59 : act.tmps[59]?.getD undef = undef := hI.kept 59 (by kernel_rfl)
        have g60 : act.tmps[60]?.getD undef = undef := hI.kept 60 (by kernel_rfl)
        have g61 : act.tmps[61]?.getD undef = undef := hI.kept 61 (by kernel_rfl)
        have g62 : act.tmps[62]?.getD undef = undef := hI.kept 62 (by kernel_rfl)
        have g63 : act.tmps[63]?.getD undef = undef := hI.kept 63 (by kernel_rfl)
        have g64 : act.tmps[64]?.getD undef = undef := hI.kept 64 (by kernel_rfl)
        have g65 : act.tmps[65]?.getD undef = undef := hI.kept 65 (by kernel_rfl)
        have g66 : act.tmps[66]?.getD undef = undef := hI.kept 66 (by kernel_rfl)
        have g67 : act.tmps[67]?.getD undef = undef := hI.kept 67 (by kernel_rfl)
        have g68 : act.tmps[68]?.getD undef = undef := hI.kept 68 (by kernel_rfl)
        have g69 : act.tmps[69]?.getD undef = undef := hI.kept 69 (by kernel_rfl)
        have g70 : act.tmps[70]?.getD undef = undef := hI.kept 70 (by kernel_rfl)
        have g71 : act.tmps[71]?.getD undef = undef := hI.kept 71 (by kernel_rfl)
        have g72 : act.tmps[72]?.getD undef = undef := hI.kept 72 (by kernel_rfl)
        have g73 : act.tmps[73]?.getD undef = undef := hI.kept 73 (by kernel_rfl)
        have g74 : act.tmps[74]?.getD undef = undef := hI.kept 74 (by kernel_rfl)
        have g75 : act.tmps[75]?.getD undef = undef := hI.kept 75 (by kernel_rfl)
        have g76 : act.tmps[76]?.getD undef = undef := hI.kept 76 (by kernel_rfl)
        have g77 : act.tmps[77]?.getD undef = undef := hI.kept 77 (by kernel_rfl)
        have g78 : act.tmps[78]?.getD undef = undef := hI.kept 78 (by kernel_rfl)
        have g79 : act.tmps[79]?.getD undef = undef := hI.kept 79 (by kernel_rfl)
        have g80 : act.tmps[80]?.getD undef = undef := hI.kept 80 (by kernel_rfl)
        have g81 : act.tmps[81]?.getD undef = undef := hI.kept 81 (by kernel_rfl)
        have g82 : act.tmps[82]?.getD undef = undef := hI.kept 82 (by kernel_rfl)
        have g83 : act.tmps[83]?.getD undef = undef := hI.kept 83 (by kernel_rfl)
        have g84 : act.tmps[84]?.getD undef = undef := hI.kept 84 (by kernel_rfl)
        have g85 : act.tmps[85]?.getD undef = undef := hI.kept 85 (by kernel_rfl)
        have g86 : act.tmps[86]?.getD undef = undef := hI.kept 86 (by kernel_rfl)
        have g87 : act.tmps[87]?.getD undef = undef := hI.kept 87 (by kernel_rfl)
        have g88 : act.tmps[88]?.getD undef = undef := hI.kept 88 (by kernel_rfl)
        have g89 : act.tmps[89]?.getD undef = undef := hI.kept 89 (by kernel_rfl)
        have g90 : act.tmps[90]?.getD undef = undef := hI.kept 90 (by kernel_rfl)
        have g91 : act.tmps[91]?.getD undef = undef := hI.kept 91 (by kernel_rfl)
        have g92 : act.tmps[92]?.getD undef = undef := hI.kept 92 (by kernel_rfl)
        have g93 : act.tmps[93]?.getD undef = undef := hI.kept 93 (by kernel_rfl)
        have g94 : act.tmps[94]?.getD undef = undef := hI.kept 94 (by kernel_rfl)
        have g95 : act.tmps[95]?.getD undef = undef := hI.kept 95 (by kernel_rfl)
        have g96 : act.tmps[96]?.getD undef = undef := hI.kept 96 (by kernel_rfl)
        have g97 : act.tmps[97]?.getD undef = undef := hI.kept 97 (by kernel_rfl)
        have g98 : act.tmps[98]?.getD undef = undef := hI.kept 98 (by kernel_rfl)
        have g99 : act.tmps[99]?.getD undef = undef := hI.kept 99 (by kernel_rfl)
        have g100 : act.tmps[100]?.getD undef = undef := hI.kept 100 (by kernel_rfl)
        have g101 : act.tmps[101]?.getD undef = undef := hI.kept 101 (by kernel_rfl)
        have g102 : act.tmps[102]?.getD undef = undef := hI.kept 102 (by kernel_rfl)
        have g103 : act.tmps[103]?.getD undef = undef := hI.kept 103 (by kernel_rfl)
        have g104 : act.tmps[104]?.getD undef = undef := hI.kept 104 (by kernel_rfl)
        have g105 : act.tmps[105]?.getD undef = undef := hI.kept 105 (by kernel_rfl)
        have g106 : act.tmps[106]?.getD undef = undef := hI.kept 106 (by kernel_rfl)
        have g107 : act.tmps[107]?.getD undef = undef := hI.kept 107 (by kernel_rfl)
        have g108 : act.tmps[108]?.getD undef = undef := hI.kept 108 (by kernel_rfl)
        have hsz : act.tmps.size = 109 := hI.size.trans (by kernel_rfl)
        have hd := hI.defers
        clear hI hall hC hCA hlen K0x0 K0x1 K0x2 K0x3 K0x4 K0x5 K0x6 K2x0 K2x1 K2x2 WBx0 WBx1 WBx2 WBx3 WBx4 WBx5 WBx6 V0x0 V0x1 V0x2 V0x3 V0x4 V0x5 V0x6
        obtain ⟨tt, dd⟩ := act
        simp only at g0 g1 g2 g3 g4 g5 g6 g7 g8 g9 g10 g11 g12 g13 g14 g15 g16 g17 g18 g19 g20 g21 g22 g23 g24 g25 g26 g27 g28 g29 g30 g31 g32 g33 g42 g43 g44 g45 g46 g47 g48 g49 g50 g51 g52 g53 g54 g55 g56 g57 g58 g59 g60 g61 g62 g63 g64 g65 g66 g67 g68 g69 g70 g71 g72 g73 g74 g75 g76 g77 g78 g79 g80 g81 g82 g83 g84 g85 g86 g87 g88 g89 g90 g91 g92 g93 g94 g95 g96 g97 g98 g99 g100 g101 g102 g103 g104 g105 g106 g107 g108 hsz hd
        subst hd
        have hl : tt = #[tt[0]?.getD undef, tt[1]?.getD undef, tt[2]?.getD undef, tt[3]?.getD undef, tt[4]?.getD undef, tt[5]?.getD undef, tt[6]?.getD undef, tt[7]?.getD undef, tt[8]?.getD undef, tt[9]?.getD undef, tt[10]?.getD undef, tt[11]?.getD undef, tt[12]?.getD undef, tt[13]?.getD undef, tt[14]?.getD undef, tt[15]?.getD undef, tt[16]?.getD undef, tt[17]?.getD undef, tt[18]?.getD undef, tt[19]?.getD undef, tt[20]?.getD undef, tt[21]?.getD undef, tt[22]?.getD undef, tt[23]?.getD undef, tt[24]?.getD undef, tt[25]?.getD undef, tt[26]?.getD undef, tt[27]?.getD undef, tt[28]?.getD undef, tt[29]?.getD undef, tt[30]?.getD undef, tt[31]?.getD undef, tt[32]?.getD undef, tt[33]?.getD undef, tt[34]?.getD undef, tt[35]?.getD undef, tt[36]?.getD undef, tt[37]?.getD undef, tt[38]?.getD undef, tt[39]?.getD undef, tt[40]?.getD undef, tt[41]?.getD undef, tt[42]?.getD undef, tt[43]?.getD undef, tt[44]?.getD undef, tt[45]?.getD undef, tt[46]?.getD undef, tt[47]?.getD undef, tt[48]?.getD undef, tt[49]?.getD undef, tt[50]?.getD undef, tt[51]?.getD undef, tt[52]?.getD undef, tt[53]?.getD undef, tt[54]?.getD undef, tt[55]?.getD undef, tt[56]?.getD undef, tt[57]?.getD undef, tt[58]?.getD undef, tt[59]?.getD undef, tt[60]?.getD undef, tt[61]?.getD undef, tt[62]?.getD undef, tt[63]?.getD undef, tt[64]?.getD undef, tt[65]?.getD undef, tt[66]?.getD undef, tt[67]?.getD undef, tt[68]?.getD undef, tt[69]?.getD undef, tt[70]?.getD undef, tt[71]?.getD undef, tt[72]?.getD undef, tt[73]?.getD undef, tt[74]?.getD undef, tt[75]?.getD undef, tt[76]?.getD undef, tt[77]?.getD undef, tt[78]?.getD undef, tt[79]?.getD undef, tt[80]?.getD undef, tt[81]?.getD undef, tt[82]?.getD undef, tt[83]?.getD undef, tt[84]?.getD undef, tt[85]?.getD undef, tt[86]?.getD undef, tt[87]?.getD undef, tt[88]?.getD undef, tt[89]?.getD undef, tt[90]?.getD undef, tt[91]?.getD undef, tt[92]?.getD undef, tt[93]?.getD undef, tt[94]?.getD undef, tt[95]?.getD undef, tt[96]?.getD undef, tt[97]?.getD undef, tt[98]?.getD undef, tt[99]?.getD undef, tt[100]?.getD undef, tt[101]?.getD undef, tt[102]?.getD undef, tt[103]?.getD undef, tt[104]?.getD undef, tt[105]?.getD undef, tt[106]?.getD undef, tt[107]?.getD undef, tt[108]?.getD undef] := (arr_lit hsz).trans rfl
        rw [g0, g1, g2, g3, g4, g5, g6, g7, g8, g9, g10, g11, g12, g13, g14, g15, g16, g17, g18, g19, g20, g21, g22, g23, g24, g25, g26, g27, g28, g29, g30, g31, g32, g33, g42, g43, g44, g45, g46, g47, g48, g49, g50, g51, g52, g53, g54, g55, g56, g57, g58, g59, g60, g61, g62, g63, g64, g65, g66, g67, g68, g69, g70, g71, g72, g73, g74, g75, g76, g77, g78, g79, g80, g81, g82, g83, g84, g85, g86, g87, g88, g89, g90, g91, g92, g93, g94, g95, g96, g97, g98, g99, g100, g101, g102, g103, g104, g105, g106, g107, g108] at hl
        clear g0 g1 g2 g3 g4 g5 g6 g7 g8 g9 g10 g11 g12 g13 g14 g15 g16 g17 g18 g19 g20 g21 g22 g23 g24 g25 g26 g27 g28 g29 g30 g31 g32 g33 g42 g43 g44 g45 g46 g47 g48 g49 g50 g51 g52 g53 g54 g55 g56 g57 g58 g59 g60 g61 g62 g63 g64 g65 g66 g67 g68 g69 g70 g71 g72 g73 g74 g75 g76 g77 g78 g79 g80 g81 g82 g83 g84 g85 g86 g87 g88 g89 g90 g91 g92 g93 g94 g95 g96 g97 g98 g99 g100 g101 g102 g103 g104 g105 g106 g107 g108 hsz
        generalize tt[34]?.getD undef = y34 at hl
        generalize tt[35]?.getD undef = y35 at hl
        generalize tt[36]?.getD undef = y36 at hl
        generalize tt[37]?.getD undef = y37 at hl
        generalize tt[38]?.getD undef = y38 at hl
        generalize tt[39]?.getD undef = y39 at hl
        generalize tt[40]?.getD undef = y40 at hl
        generalize tt[41]?.getD undef = y41 at hl
        subst hl
        obtain ⟨wd5, hww⟩ : ∃ x, x = w3 := ⟨_, rfl⟩
        rw [← hww] at hB hblk hown ⊢
        clear hww
        have B5 : Hid (Below w.heap.size w wd5) := Lib.hid (below_of B4.out B4.out.size hB)
        have Z5 : Hid (wd4.heap.size ≤ wd5.heap.size) := Lib.hid hB.size
        have K0_5 : Hid (BlkL wd5 (w.heap.size) [.slice A0 a0.length ca0, .slice L0 l0.length cl0, .slice D0 d0.length cd0, .slice S0 n0 cs0, .int .i64 c0, .float .f32 hub0, .float .f32 tip0]) := Lib.hid (K0_4.out.below hB)
        have K2_5 : Hid (BlkL wd5 (w.heap.size + 1) [.float .f32 x2, .float .f32 y2, .float .f32 z2]) := Lib.hid (K2_4.out.below hB)
        have WB_3 : Hid (BlkL wd5 cBk [.slice cR1 (gLp (stO a0 l0 d0 s0 n0 c0 hub0 tip0 (hasT n0 u1) (setSt s0 u1.toNat x2 y2 z2) hub0 tip0) a0).length cc1, .slice cR2 (gLp (stO a0 l0 d0 s0 n0 c0 hub0 tip0 (hasT n0 u1) (setSt s0 u1.toNat x2 y2 z2) hub0 tip0) l0).length cc2, .slice cR3 (gLp (stO a0 l0 d0 s0 n0 c0 hub0 tip0 (hasT n0 u1) (setSt s0 u1.toNat x2 y2 z2) hub0 tip0) d0).length cc3, .slice cR4 (gN (stO a0 l0 d0 s0 n0 c0 hub0 tip0 (hasT n0 u1) (setSt s0 u1.toNat x2 y2 z2) hub0 tip0) n0) cc4, .int .i64 (gC (stO a0 l0 d0 s0 n0 c0 hub0 tip0 (hasT n0 u1) (setSt s0 u1.toNat x2 y2 z2) hub0 tip0) c0), .float .f32 (gN (stO a0 l0 d0 s0 n0 c0 hub0 tip0 (hasT n0 u1) (setSt s0 u1.toNat x2 y2 z2) hub0 tip0) hub0), .float .f32 (gN (stO a0 l0 d0 s0 n0 c0 hub0 tip0 (hasT n0 u1) (setSt s0 u1.toNat x2 y2 z2) hub0 tip0) tip0)]) := Lib.hid (WB_2.out.below hB)
        have Xc_3 : Hid (OwnT wd5 wd1.heap.size cR1 cR2 cR3 cR4 cg1 cg2 cg3 cg4 (gLp (stO a0 l0 d0 s0 n0 c0 hub0 tip0 (hasT n0 u1) (setSt s0 u1.toNat x2 y2 z2) hub0 tip0) a0) (gLp (stO a0 l0 d0 s0 n0 c0 hub0 tip0 (hasT n0 u1) (setSt s0 u1.toNat x2 y2 z2) hub0 tip0) l0) (gLp (stO a0 l0 d0 s0 n0 c0 hub0 tip0 (hasT n0 u1) (setSt s0 u1.toNat x2 y2 z2) hub0 tip0) d0) (gLp (stO a0 l0 d0 s0 n0 c0 hub0 tip0 (hasT n0 u1) (setSt s0 u1.toNat x2 y2 z2) hub0 tip0) (setSt s0 u1.toNat x2 y2 z2))) := Lib.hid (Xc_2.out.below hB)
        have Xx0_2 : Hid (OwnT wd5 wd2.heap.size (some ⟨x01, 0, none⟩) (some ⟨x02, 0, none⟩) (some ⟨x03, 0, none⟩) (some ⟨x04, 0, none⟩) x01 x02 x03 x04 a0 l0 d0 s0) := Lib.hid (Xx0_1.out.below hB)
        have V0_1 : Hid (BlkL wd5 (wd3.heap.size) [.slice (some ⟨x01, 0, none⟩) a0.length a0.length, .slice (some ⟨x02, 0, none⟩) l0.length l0.length, .slice (some ⟨x03, 0, none⟩) d0.length d0.length, .slice (some ⟨x04, 0, none⟩) n0 n0, .int .i64 c0, .float .f32 hub0, .float .f32 tip0]) := Lib.hid (V0.out.below hB)
        clear K0_4 K2_4 WB_2 Xc_2 Xx0_1 V0
        clear hB
        have Y5 : Hid (gBk < wd5.heap.size ∧ wd4.heap.size ≤ gBk) := Lib.hid ⟨hblk.1, hlo⟩
        have GB : Hid (BlkL wd5 gBk [.slice gR1 (gLp (stO a0 l0 d0 s0 n0 c0 hub0 tip0 (hasT n0 u1) (setSt s0 u1.toNat x2 y2 z2) hub0 tip0) a0).length gc1, .slice gR2 (gLp (stO a0 l0 d0 s0 n0 c0 hub0 tip0 (hasT n0 u1) (setSt s0 u1.toNat x2 y2 z2) hub0 tip0) l0).length gc2, .slice gR3 (gLp (stO a0 l0 d0 s0 n0 c0 hub0 tip0 (hasT n0 u1) (setSt s0 u1.toNat x2 y2 z2) hub0 tip0) d0).length gc3, .slice gR4 (gN (stO a0 l0 d0 s0 n0 c0 hub0 tip0 (hasT n0 u1) (setSt s0 u1.toNat x2 y2 z2) hub0 tip0) n0) gc4, .int .i64 (gC (stO a0 l0 d0 s0 n0 c0 hub0 tip0 (hasT n0 u1) (setSt s0 u1.toNat x2 y2 z2) hub0 tip0) c0), .float .f32 (gN (stO a0 l0 d0 s0 n0 c0 hub0 tip0 (hasT n0 u1) (setSt s0 u1.toNat x2 y2 z2) hub0 tip0) hub0), .float .f32 (gN (stO a0 l0 d0 s0 n0 c0 hub0 tip0 (hasT n0 u1) (setSt s0 u1.toNat x2 y2 z2) hub0 tip0) tip0)]) := Lib.hid (hblk)
        have Xg : Hid (OwnT wd5 wd4.heap.size gR1 gR2 gR3 gR4 gg1 gg2 gg3 gg4 (gLp (stO a0 l0 d0 s0 n0 c0 hub0 tip0 (hasT n0 u1) (setSt s0 u1.toNat x2 y2 z2) hub0 tip0) a0) (gLp (stO a0 l0 d0 s0 n0 c0 hub0 tip0 (hasT n0 u1) (setSt s0 u1.toNat x2 y2 z2) hub0 tip0) l0) (gLp (stO a0 l0 d0 s0 n0 c0 hub0 tip0 (hasT n0 u1) (setSt s0 u1.toNat x2 y2 z2) hub0 tip0) d0) (gLp (stO a0 l0 d0 s0 n0 c0 hub0 tip0 (hasT n0 u1) (setSt s0 u1.toNat x2 y2 z2) hub0 tip0) (setSt s0 u1.toNat x2 y2 z2))) := Lib.hid (hown)
        have Xgbd := Xg
        have XgNE := Lib.hid (Xg.out.apart GB.out)
        clear hblk hown hlo
        obtain ⟨K0x0, K0x1, K0x2, K0x3, K0x4, K0x5, K0x6⟩ := K0_5.out.sevenT
        obtain ⟨K2x0, K2x1, K2x2⟩ := K2_5.out.three
        obtain ⟨WBx0, WBx1, WBx2, WBx3, WBx4, WBx5, WBx6⟩ := WB_3.out.sevenT
        obtain ⟨V0x0, V0x1, V0x2, V0x3, V0x4, V0x5, V0x6⟩ := V0_1.out.sevenT
        obtain ⟨GBx0, GBx1, GBx2, GBx3, GBx4, GBx5, GBx6⟩ := GB.out.sevenT
        go_wp2_with fail
        refine (l_eqRotor _ _ _ _ _ _ _ _ _ _ _ _ _ _ _ _ _ _ _ _ (gLp (stO a0 l0 d0 s0 n0 c0 hub0 tip0 (hasT n0 u1) (setSt s0 u1.toNat x2 y2 z2) hub0 tip0) a0) (gLp (stO a0 l0 d0 s0 n0 c0 hub0 tip0 (hasT n0 u1) (setSt s0 u1.toNat x2 y2 z2) hub0 tip0) l0) (gLp (stO a0 l0 d0 s0 n0 c0 hub0 tip0 (hasT n0 u1) (setSt s0 u1.toNat x2 y2 z2) hub0 tip0) d0) (gLp (stO a0 l0 d0 s0 n0 c0 hub0 tip0 (hasT n0 u1) (setSt s0 u1.toNat x2 y2 z2) hub0 tip0) (setSt s0 u1.toNat x2 y2 z2)) _ Xg.out.rt Xc_3.out.rt HF.out).mono ?_
        rintro e wd6 ⟨rfl, b⟩
        have B6 : Hid (Below w.heap.size w wd6) := Lib.hid (below_of B5.out B5.out.size b)
        have Z6 : Hid (wd5.heap.size ≤ wd6.heap.size) := Lib.hid b.size
        have K0_6 : Hid (BlkL wd6 (w.heap.size) [.slice A0 a0.length ca0, .slice L0 l0.length cl0, .slice D0 d0.length cd0, .slice S0 n0 cs0, .int .i64 c0, .float .f32 hub0, .float .f32 tip0]) := Lib.hid (K0_5.out.below b)
        have K2_6 : Hid (BlkL wd6 (w.heap.size + 1) [.float .f32 x2, .float .f32 y2, .float .f32 z2]) := Lib.hid (K2_5.out.below b)
        have WB_4 : Hid (BlkL wd6 cBk [.slice cR1 (gLp (stO a0 l0 d0 s0 n0 c0 hub0 tip0 (hasT n0 u1) (setSt s0 u1.toNat x2 y2 z2) hub0 tip0) a0).length cc1, .slice cR2 (gLp (stO a0 l0 d0 s0 n0 c0 hub0 tip0 (hasT n0 u1) (setSt s0 u1.toNat x2 y2 z2) hub0 tip0) l0).length cc2, .slice cR3 (gLp (stO a0 l0 d0 s0 n0 c0 hub0 tip0 (hasT n0 u1) (setSt s0 u1.toNat x2 y2 z2) hub0 tip0) d0).length cc3, .slice cR4 (gN (stO a0 l0 d0 s0 n0 c0 hub0 tip0 (hasT n0 u1) (setSt s0 u1.toNat x2 y2 z2) hub0 tip0) n0) cc4, .int .i64 (gC (stO a0 l0 d0 s0 n0 c0 hub0 tip0 (hasT n0 u1) (setSt s0 u1.toNat x2 y2 z2) hub0 tip0) c0), .float .f32 (gN (stO a0 l0 d0 s0 n0 c0 hub0 tip0 (hasT n0 u1) (setSt s0 u1.toNat x2 y2 z2) hub0 tip0) hub0), .float .f32 (gN (stO a0 l0 d0 s0 n0 c0 hub0 tip0 (hasT n0 u1) (setSt s0 u1.toNat x2 y2 z2) hub0 tip0) tip0)]) := Lib.hid (WB_3.out.below b)
        have Xc_4 : Hid (OwnT wd6 wd1.heap.size cR1 cR2 cR3 cR4 cg1 cg2 cg3 cg4 (gLp (stO a0 l0 d0 s0 n0 c0 hub0 tip0 (hasT n0 u1) (setSt s0 u1.toNat x2 y2 z2) hub0 tip0) a0) (gLp (stO a0 l0 d0 s0 n0 c0 hub0 tip0 (hasT n0 u1) (setSt s0 u1.toNat x2 y2 z2) hub0 tip0) l0) (gLp (stO a0 l0 d0 s0 n0 c0 hub0 tip0 (hasT n0 u1) (setSt s0 u1.toNat x2 y2 z2) hub0 tip0) d0) (gLp (stO a0 l0 d0 s0 n0 c0 hub0 tip0 (hasT n0 u1) (setSt s0 u1.toNat x2 y2 z2) hub0 tip0) (setSt s0 u1.toNat x2 y2 z2))) := Lib.hid (Xc_3.out.below b)
        have Xx0_3 : Hid (OwnT wd6 wd2.heap.size (some ⟨x01, 0, none⟩) (some ⟨x02, 0, none⟩) (some ⟨x03, 0, none⟩) (some ⟨x04, 0, none⟩) x01 x02 x03 x04 a0 l0 d0 s0) := Lib.hid (Xx0_2.out.below b)
        have V0_2 : Hid (BlkL wd6 (wd3.heap.size) [.slice (some ⟨x01, 0, none⟩) a0.length a0.length, .slice (some ⟨x02, 0, none⟩) l0.length l0.length, .slice (some ⟨x03, 0, none⟩) d0.length d0.length, .slice (some ⟨x04, 0, none⟩) n0 n0, .int .i64 c0, .float .f32 hub0, .float .f32 tip0]) := Lib.hid (V0_1.out.below b)
        have GB_1 : Hid (BlkL wd6 gBk [.slice gR1 (gLp (stO a0 l0 d0 s0 n0 c0 hub0 tip0 (hasT n0 u1) (setSt s0 u1.toNat x2 y2 z2) hub0 tip0) a0).length gc1, .slice gR2 (gLp (stO a0 l0 d0 s0 n0 c0 hub0 tip0 (hasT n0 u1) (setSt s0 u1.toNat x2 y2 z2) hub0 tip0) l0).length gc2, .slice gR3 (gLp (stO a0 l0 d0 s0 n0 c0 hub0 tip0 (hasT n0 u1) (setSt s0 u1.toNat x2 y2 z2) hub0 tip0) d0).length gc3, .slice gR4 (gN (stO a0 l0 d0 s0 n0 c0 hub0 tip0 (hasT n0 u1) (setSt s0 u1.toNat x2 y2 z2) hub0 tip0) n0) gc4, .int .i64 (gC (stO a0 l0 d0 s0 n0 c0 hub0 tip0 (hasT n0 u1) (setSt s0 u1.toNat x2 y2 z2) hub0 tip0) c0), .float .f32 (gN (stO a0 l0 d0 s0 n0 c0 hub0 tip0 (hasT n0 u1) (setSt s0 u1.toNat x2 y2 z2) hub0 tip0) hub0), .float .f32 (gN (stO a0 l0 d0 s0 n0 c0 hub0 tip0 (hasT n0 u1) (setSt s0 u1.toNat x2 y2 z2) hub0 tip0) tip0)]) := Lib.hid (GB.out.below b)
        have Xg_1 : Hid (OwnT wd6 wd4.heap.size gR1 gR2 gR3 gR4 gg1 gg2 gg3 gg4 (gLp (stO a0 l0 d0 s0 n0 c0 hub0 tip0 (hasT n0 u1) (setSt s0 u1.toNat x2 y2 z2) hub0 tip0) a0) (gLp (stO a0 l0 d0 s0 n0 c0 hub0 tip0 (hasT n0 u1) (setSt s0 u1.toNat x2 y2 z2) hub0 tip0) l0) (gLp (stO a0 l0 d0 s0 n0 c0 hub0 tip0 (hasT n0 u1) (setSt s0 u1.toNat x2 y2 z2) hub0 tip0) d0) (gLp (stO a0 l0 d0 s0 n0 c0 hub0 tip0 (hasT n0 u1) (setSt s0 u1.toNat x2 y2 z2) hub0 tip0) (setSt s0 u1.toNat x2 y2 z2))) := Lib.hid (Xg.out.below b)
        clear K0x0 K0x1 K0x2 K0x3 K0x4 K0x5 K0x6 K2x0 K2x1 K2x2 WBx0 WBx1 WBx2 WBx3 WBx4 WBx5 WBx6 V0x0 V0x1 V0x2 V0x3 V0x4 V0x5 V0x6 GBx0 GBx1 GBx2 GBx3 GBx4 GBx5 GBx6
        clear K0_5 K2_5 WB_3 Xc_3 Xx0_2 V0_1 GB Xg
        clear b
        obtain ⟨K0x0, K0x1, K0x2, K0x3, K0x4, K0x5, K0x6⟩ := K0_6.out.sevenT
        obtain ⟨K2x0, K2x1, K2x2⟩ := K2_6.out.three
        obtain ⟨WBx0, WBx1, WBx2, WBx3, WBx4, WBx5, WBx6⟩ := WB_4.out.sevenT
        obtain ⟨V0x0, V0x1, V0x2, V0x3, V0x4, V0x5, V0x6⟩ := V0_2.out.sevenT
        obtain ⟨GBx0, GBx1, GBx2, GBx3, GBx4, GBx5, GBx6⟩ := GB_1.out.sevenT
        go_wp2_with fail
        clear K0x0 K0x1 K0x2 K0x3 K0x4 K0x5 K0x6 K2x0 K2x1 K2x2 WBx0 WBx1 WBx2 WBx3 WBx4 WBx5 WBx6 V0x0 V0x1 V0x2 V0x3 V0x4 V0x5 V0x6 GBx0 GBx1 GBx2 GBx3 GBx4 GBx5 GBx6
        refine wp_region_inv4 (fun iq wv v => match iq with
          | 0 => v = .agg #[.slice (some ⟨x01, 0, none⟩) a0.length a0.length, .slice (some ⟨x02, 0, none⟩) l0.length l0.length, .slice (some ⟨x03, 0, none⟩) d0.length d0.length, .slice (some ⟨x04, 0, none⟩) n0 n0, .int .i64 c0, .float .f32 hub0, .float .f32 tip0]
          | 1 => v = .agg #[.slice A0 a0.length ca0, .slice L0 l0.length cl0, .slice D0 d0.length cd0, .slice S0 n0 cs0, .int .i64 c0, .float .f32 hub0, .float .f32 tip0]
          | 2 => ∃ q1 q2 q3 q4, v = .agg #[.slice (some ⟨q1, 0, none⟩) a0.length a0.length, .slice (some ⟨q2, 0, none⟩) l0.length l0.length, .slice (some ⟨q3, 0, none⟩) d0.length d0.length, .slice (some ⟨q4, 0, none⟩) n0 n0, .int .i64 c0, .float .f32 hub0, .float .f32 tip0] ∧ OwnT wv wd6.heap.size (some ⟨q1, 0, none⟩) (some ⟨q2, 0, none⟩) (some ⟨q3, 0, none⟩) (some ⟨q4, 0, none⟩) q1 q2 q3 q4 a0 l0 d0 s0
          | 3 => v = .bool true
          | 4 => v = .bool false
          | _ => False) (fun _ ww => Below wd6.heap.size wd6 ww) (fun w w' => Below w.heap.size w w') ?hmono (by kernel_rfl) (by kernel_rfl) ((Below.refl _ _).drew) ?hop ?hend
        case hmono =>
          intro i wa wb v hR hV
          rcases i with _ | _ | _ | _ | _ | i
          · exact hV
          · exact hV
          · obtain ⟨q1, q2, q3, q4, rfl, ho⟩ := hV; exact ⟨q1, q2, q3, q4, rfl, ho.below hR⟩
          · exact hV
          · exact hV
          · exact hV
        case hop =>
          intro q o hq listed act w3 hI hnot hcl hall
          have hB := hI.cls
          obtain ⟨K0x0, K0x1, K0x2, K0x3, K0x4, K0x5, K0x6⟩ := (K0_6.out.below hB).sevenT
          obtain ⟨K2x0, K2x1, K2x2⟩ := (K2_6.out.below hB).three
          obtain ⟨WBx0, WBx1, WBx2, WBx3, WBx4, WBx5, WBx6⟩ := (WB_4.out.below hB).sevenT
          obtain ⟨V0x0, V0x1, V0x2, V0x3, V0x4, V0x5, V0x6⟩ := (V0_2.out.below hB).sevenT
          obtain ⟨GBx0, GBx1, GBx2, GBx3, GBx4, GBx5, GBx6⟩ := (GB_1.out.below hB).sevenT
          rcases q with _ | _ | _ | _ | _ | q
          · simp at hq; subst hq
            have g10 : act.tmps[10]?.getD undef = .pointer (some ⟨wd3.heap.size, 0, none⟩) := hI.kept 10 (by kernel_rfl)
            clear hI hall hnot hcl
            refine .inl ⟨wanted_none rfl, ?_⟩
            unfold Oper.wp
            go_simp
            all_goals first | exact ⟨_, rfl, Below.refl _ _, rfl, hB⟩ | exact ⟨Below.refl _ _, hB⟩ | exact Below.refl _ _
          · simp at hq; subst hq
            have g3 : act.tmps[3]?.getD undef = .pointer (some ⟨w.heap.size, 0, none⟩) := hI.kept 3 (by kernel_rfl)
            clear hI hall hnot hcl
            refine .inl ⟨wanted_none rfl, ?_⟩
            unfold Oper.wp
            go_simp
            all_goals first | exact ⟨_, rfl, Below.refl _ _, rfl, hB⟩ | exact ⟨Below.refl _ _, hB⟩ | exact Below.refl _ _
          · simp at hq; subst hq
            have g52 : act.tmps[52]?.getD undef = .agg #[.slice A0 a0.length ca0, .slice L0 l0.length cl0, .slice D0 d0.length cd0, .slice S0 n0 cs0, .int .i64 c0, .float .f32 hub0, .float .f32 tip0] := hI.has 1 52 rfl (hall ⟨1, .data⟩ (by simp) rfl)
            clear hI hall hnot hcl
            refine .inl ⟨wanted_none rfl, ?_⟩
            unfold Oper.wp
            go_simp
            refine (l_toRotor A0 L0 D0 S0 ca0 cl0 cd0 n0 cs0 c0 hub0 tip0 a0 l0 d0 s0 _ (HP0.out.below (below_of B6.out B6.out.size hB)) HN0.out).mono ?_
            rintro e w4 ⟨q1, q2, q3, q4, rfl, ho, b4⟩
            exact ⟨_, rfl, b4, ⟨q1, q2, q3, q4, rfl, (OwnR.t ho).baseT (by have := hB.size; omega)⟩, below_of hB hB.size b4⟩
          · simp at hq; subst hq
            have g51 : act.tmps[51]?.getD undef = .agg #[.slice (some ⟨x01, 0, none⟩) a0.length a0.length, .slice (some ⟨x02, 0, none⟩) l0.length l0.length, .slice (some ⟨x03, 0, none⟩) d0.length d0.length, .slice (some ⟨x04, 0, none⟩) n0 n0, .int .i64 c0, .float .f32 hub0, .float .f32 tip0] := hI.has 0 51 rfl (hall ⟨0, .data⟩ (by simp) rfl)
            obtain ⟨q12, q22, q32, q42, g53, h2a⟩ := hI.has 2 53 rfl (hall ⟨2, .data⟩ (by simp) rfl)
            clear hI hall hnot hcl
            refine .inl ⟨wanted_none rfl, ?_⟩
            unfold Oper.wp
            go_simp
            refine (l_eqRotor _ _ _ _ _ _ _ _ _ _ _ _ _ _ _ _ _ _ _ _ a0 l0 d0 s0 _ (Xx0_3.out.below hB).rt h2a.rt HN0.out).mono ?_
            rintro e w4 ⟨rfl, b4⟩
            exact ⟨_, rfl, b4, rfl, below_of hB hB.size b4⟩
          · simp at hq; subst hq
            have g54 : act.tmps[54]?.getD undef = .bool true := hI.has 3 54 rfl (hall ⟨3, .data⟩ (by simp) rfl)
            clear hI hall hnot hcl
            refine .inl ⟨wanted_none rfl, ?_⟩
            unfold Oper.wp
            go_simp
            all_goals first | exact ⟨_, rfl, Below.refl _ _, rfl, hB⟩ | exact ⟨Below.refl _ _, hB⟩ | exact Below.refl _ _
          · simp at hq
        case hend =>
          intro listed act w3 hI hall
          have hB := hI.cls
          obtain ⟨K0x0, K0x1, K0x2, K0x3, K0x4, K0x5, K0x6⟩ := (K0_6.out.below hB).sevenT
          obtain ⟨K2x0, K2x1, K2x2⟩ := (K2_6.out.below hB).three
          obtain ⟨WBx0, WBx1, WBx2, WBx3, WBx4, WBx5, WBx6⟩ := (WB_4.out.below hB).sevenT
          obtain ⟨V0x0, V0x1, V0x2, V0x3, V0x4, V0x5, V0x6⟩ := (V0_2.out.below hB).sevenT
          obtain ⟨GBx0, GBx1, GBx2, GBx3, GBx4, GBx5, GBx6⟩ := (GB_1.out.below hB).sevenT
          have g55 : act.tmps[55]?.getD undef = .bool false := hI.has 4 55 rfl (hall 4 (by decide))
          have g0 := hI.kept 0 (by kernel_rfl)
          conv at g0 => rhs; whnf
          have g1 := hI.kept 1 (by kernel_rfl)
          conv at g1 => rhs; whnf
          have g2 := hI.kept 2 (by kernel_rfl)
          conv at g2 => rhs; whnf
          have g3 := hI.kept 3 (by kernel_rfl)
          conv at g3 => rhs; whnf
          have g4 : act.tmps[4]?.getD undef = undef := hI.kept 4 (by kernel_rfl)
          have g5 := hI.kept 5 (by kernel_rfl)
          conv at g5 => rhs; whnf
          have g6 := hI.kept 6 (by kernel_rfl)
          conv at g6 => rhs; whnf
          have g7 := hI.kept 7 (by kernel_rfl)
          conv at g7 => rhs; whnf
          have g8 := hI.kept 8 (by kernel_rfl)
          conv at g8 => rhs; whnf
          have g9 := hI.kept 9 (by kernel_rfl)
          conv at g9 => rhs; whnf
          have g10 := hI.kept 10 (by kernel_rfl)
          conv at g10 => rhs; whnf
          have g11 := hI.kept 11 (by kernel_rfl)
          conv at g11 => rhs; whnf
          have g12 := hI.kept 12 (by kernel_rfl)
          conv at g12 => rhs; whnf
          have g13 : act.tmps[13]?.getD undef = undef := hI.kept 13 (by kernel_rfl)
          have g14 : act.tmps[14]?.getD undef = undef := hI.kept 14 (by kernel_rfl)
          have g15 : act.tmps[15]?.getD undef = undef := hI.kept 15 (by kernel_rfl)
          have g16 : act.tmps[16]?.getD undef = undef := hI.kept 16 (by kernel_rfl)
          have g17 : act.tmps[17]?.getD undef = undef := hI.kept 17 (by kernel_rfl)
          have g18 := hI.kept 18 (by kernel_rfl)
          conv at g18 => rhs; whnf
          have g19 := hI.kept 19 (by kernel_rfl)
          conv at g19 => rhs; whnf
          have g20 := hI.kept 20 (by kernel_rfl)
          conv at g20 => rhs; whnf
          have g21 := hI.kept 21 (by kernel_rfl)
          conv at g21 => rhs; whnf
          have g22 := hI.kept 22 (by kernel_rfl)
          conv at g22 => rhs; whnf
          have g23 := hI.kept 23 (by kernel_rfl)
          conv at g23 => rhs; whnf
          have g24 := hI.kept 24 (by kernel_rfl)
          conv at g24 => rhs; whnf
          have g25 := hI.kept 25 (by kernel_rfl)
          conv at g25 => rhs; whnf
          have g26 := hI.kept 26 (by kernel_rfl)
          conv at g26 => rhs; whnf
          have g27 := hI.kept 27 (by kernel_rfl)
          conv at g27 => rhs; whnf
          have g28 := hI.kept 28 (by kernel_rfl)
          conv at g28 => rhs; whnf
          have g29 := hI.kept 29 (by kernel_rfl)
          conv at g29 => rhs; whnf
          have g30 := hI.kept 30 (by kernel_rfl)
          conv at g30 => rhs; whnf
          have g31 := hI.kept 31 (by kernel_rfl)
          conv at g31 => rhs; whnf
          have g32 := hI.kept 32 (by kernel_rfl)
          conv at g32 => rhs; whnf
          have g33 := hI.kept 33 (by kernel_rfl)
          conv at g33 => rhs; whnf
          have g34 := hI.kept 34 (by kernel_rfl)
          conv at g34 => rhs; whnf
          have g35 := hI.kept 35 (by kernel_rfl)
          conv at g35 => rhs; whnf
          have g36 := hI.kept 36 (by kernel_rfl)
          conv at g36 => rhs; whnf
          have g37 := hI.kept 37 (by kernel_rfl)
          conv at g37 => rhs; whnf
          have g38 := hI.kept 38 (by kernel_rfl)
          conv at g38 => rhs; whnf
          have g39 := hI.kept 39 (by kernel_rfl)
          conv at g39 => rhs; whnf
          have g40 := hI.kept 40 (by kernel_rfl)
          conv at g40 => rhs; whnf
          have g41 := hI.kept 41 (by kernel_rfl)
          conv at g41 => rhs; whnf
          have g42 := hI.kept 42 (by kernel_rfl)
          conv at g42 => rhs; whnf
          have g43 := hI.kept 43 (by kernel_rfl)
          conv at g43 => rhs; whnf
          have g44 := hI.kept 44 (by kernel_rfl)
          conv at g44 => rhs; whnf
          have g45 := hI.kept 45 (by kernel_rfl)
          conv at g45 => rhs; whnf
          have g46 := hI.kept 46 (by kernel_rfl)
          conv at g46 => rhs; whnf
          have g47 := hI.kept 47 (by kernel_rfl)
          conv at g47 => rhs; whnf
          have g48 := hI.kept 48 (by kernel_rfl)
          conv at g48 => rhs; whnf
          have g49 := hI.kept 49 (by kernel_rfl)
          conv at g49 => rhs; whnf
          have g50 := hI.kept 50 (by kernel_rfl)
          conv at g50 => rhs; whnf
          have g56 : act.tmps[56]?.getD undef = undef := hI.kept 56 (by kernel_rfl)
          have g57 : act.tmps[57]?.getD undef = undef := hI.kept 57 (by kernel_rfl)
          have g58 : act.tmps[58]?.getD undef = undef := hI.kept 58 (by kernel_rfl)
          have g59 : act.tmps[59]?.getD undef = undef := hI.kept 59 (by kernel_rfl)
          have g60 : act.tmps[60]?.getD undef = undef := hI.kept 60 (by kernel_rfl)
          have g61 : act.tmps[61]?.getD undef = undef := hI.kept 61 (by kernel_rfl)
          have g62 : act.tmps[62]?.getD undef = undef := hI.kept 62 (by kernel_rfl)
          have g63 : act.tmps[63]?.getD undef = undef := hI.kept 63 (by kernel_rfl)
          have g64 : act.tmps[64]?.getD undef = undef := hI.kept 64 (by kernel_rfl)
          have g65 : act.tmps[65]?.getD undef = undef := hI.kept 65 (by kernel_rfl)
          have g66 : act.tmps[66]?.getD undef = undef := hI.kept 66 (by kernel_rfl)
          have g67 : act.tmps[67]?.getD undef = undef := hI.kept 67 (by kernel_rfl)
          have g68 : act.tmps[68]?.getD undef = undef := hI.kept 68 (by kernel_rfl)
          have g69 : act.tmps[69]?.getD undef = undef := hI.kept 69 (by kernel_rfl)
          have g70 : act.tmps[70]?.getD undef = undef := hI.kept 70 (by kernel_rfl)
          have g71 : act.tmps[71]?.getD undef = undef := hI.kept 71 (by kernel_rfl)
          have g72 : act.tmps[72]?.getD undef = undef := hI.kept 72 (by kernel_rfl)
          have g73 : act.tmps[73]?.getD undef = undef := hI.kept 73 (by kernel_rfl)
          have g74 : act.tmps[74]?.getD undef = undef := hI.kept 74 (by kernel_rfl)
          have g75 : act.tmps[75]?.getD undef = undef := hI.kept 75 (by kernel_rfl)
          have g76 : act.tmps[76]?.getD undef = undef := hI.kept 76 (by kernel_rfl)
          have g77 : act.tmps[77]?.getD undef = undef := hI.kept 77 (by kernel_rfl)
          have g78 : act.tmps[78]?.getD undef = undef := hI.kept 78 (by kernel_rfl)
          have g79 : act.tmps[79]?.getD undef = undef := hI.kept 79 (by kernel_rfl)
          have g80 : act.tmps[80]?.getD undef = undef := hI.kept 80 (by kernel_rfl)
          have g81 : act.tmps[81]?.getD undef = undef := hI.kept 81 (by kernel_rfl)
          have g82 : act.tmps[82]?.getD undef = undef := hI.kept 82 (by kernel_rfl)
          have g83 : act.tmps[83]?.getD undef = undef := hI.kept 83 (by kernel_rfl)
          have g84 : act.tmps[84]?.getD undef = undef := hI.kept 84 (by kernel_rfl)
          have g85 : act.tmps[85]?.getD undef = undef := hI.kept 85 (by kernel_rfl)
          have g86 : act.tmps[86]?.getD undef = undef := hI.kept 86 (by kernel_rfl)
          have g87 : act.tmps[87]?.getD undef = undef := hI.kept 87 (by kernel_rfl)
          have g88 : act.tmps[88]?.getD undef = undef := hI.kept 88 (by kernel_rfl)
          have g89 : act.tmps[89]?.getD undef = undef := hI.kept 89 (by kernel_rfl)
          have g90 : act.tmps[90]?.getD undef = undef := hI.kept 90 (by kernel_rfl)
          have g91 : act.tmps[91]?.getD undef = undef := hI.kept 91 (by kernel_rfl)
          have g92 : act.tmps[92]?.getD undef = undef := hI.kept 92 (by kernel_rfl)
          have g93 : act.tmps[93]?.getD undef = undef := hI.kept 93 (by kernel_rfl)
          have g94 : act.tmps[94]?.getD undef = undef := hI.kept 94 (by kernel_rfl)
          have g95 : act.tmps[95]?.getD undef = undef := hI.kept 95 (by kernel_rfl)
          have g96 : act.tmps[96]?.getD undef = undef := hI.kept 96 (by kernel_rfl)
          have g97 : act.tmps[97]?.getD undef = undef := hI.kept 97 (by kernel_rfl)
          have g98 : act.tmps[98]?.getD undef = undef := hI.kept 98 (by kernel_rfl)
          have g99 : act.tmps[99]?.getD undef = undef := hI.kept 99 (by kernel_rfl)
          have g100 : act.tmps[100]?.getD undef = undef := hI.kept 100 (by kernel_rfl)
          have g101 : act.tmps[101]?.getD undef = undef := hI.kept 101 (by kernel_rfl)
          have g102 : act.tmps[102]?.getD undef = undef := hI.kept 102 (by kernel_rfl)
          have g103 : act.tmps[103]?.getD undef = undef := hI.kept 103 (by kernel_rfl)
          have g104 : act.tmps[104]?.getD undef = undef := hI.kept 104 (by kernel_rfl)
          have g105 : act.tmps[105]?.getD undef = undef := hI.kept 105 (by kernel_rfl)
          have g106 : act.tmps[106]?.getD undef = undef := hI.kept 106 (by kernel_rfl)
          have g107 : act.tmps[107]?.getD undef = undef := hI.kept 107 (by kernel_rfl)
          have g108 : act.tmps[108]?.getD undef = undef := hI.kept 108 (by kernel_rfl)
          have hsz : act.tmps.size = 109 := hI.size.trans (by kernel_rfl)
          have hd := hI.defers
          clear hI hall K0x0 K0x1 K0x2 K0x3 K0x4 K0x5 K0x6 K2x0 K2x1 K2x2 WBx0 WBx1 WBx2 WBx3 WBx4 WBx5 WBx6 V0x0 V0x1 V0x2 V0x3 V0x4 V0x5 V0x6 GBx0 GBx1 GBx2 GBx3 GBx4 GBx5 GBx6
          obtain ⟨tt, dd⟩ := act
          simp only at g0 g1 g2 g3 g4 g5 g6 g7 g8 g9 g10 g11 g12 g13 g14 g15 g16 g17 g18 g19 g20 g21 g22 g23 g24 g25 g26 g27 g28 g29 g30 g31 g32 g33 g34 g35 g36 g37 g38 g39 g40 g41 g42 g43 g44 g45 g46 g47 g48 g49 g50 g55 g56 g57 g58 g59 g60 g61 g62 g63 g64 g65 g66 g67 g68 g69 g70 g71 g72 g73 g74 g75 g76 g77 g78 g79 g80 g81 g82 g83 g84 g85 g86 g87 g88 g89 g90 g91 g92 g93 g94 g95 g96 g97 g98 g99 g100 g101 g102 g103 g104 g105 g106 g107 g108 hsz hd
          subst hd
          have hl : tt = #[tt[0]?.getD undef, tt[1]?.getD undef, tt[2]?.getD undef, tt[3]?.getD undef, tt[4]?.getD undef, tt[5]?.getD undef, tt[6]?.getD undef, tt[7]?.getD undef, tt[8]?.getD undef, tt[9]?.getD undef, tt[10]?.getD undef, tt[11]?.getD undef, tt[12]?.getD undef, tt[13]?.getD undef, tt[14]?.getD undef, tt[15]?.getD undef, tt[16]?.getD undef, tt[17]?.getD undef, tt[18]?.getD undef, tt[19]?.getD undef, tt[20]?.getD undef, tt[21]?.getD undef, tt[22]?.getD undef, tt[23]?.getD undef, tt[24]?.getD undef, tt[25]?.getD undef, tt[26]?.getD undef, tt[27]?.getD undef, tt[28]?.getD undef, tt[29]?.getD undef, tt[30]?.getD undef, tt[31]?.getD undef, tt[32]?.getD undef, tt[33]?.getD undef, tt[34]?.getD undef, tt[35]?.getD undef, tt[36]?.getD undef, tt[37]?.getD undef, tt[38]?.getD undef, tt[39]?.getD undef, tt[40]?.getD undef, tt[41]?.getD undef, tt[42]?.getD undef, tt[43]?.getD undef, tt[44]?.getD undef, tt[45]?.getD undef, tt[46]?.getD undef, tt[47]?.getD undef, tt[48]?.getD undef, tt[49]?.getD undef, tt[50]?.getD undef, tt[51]?.getD undef, tt[52]?.getD undef, tt[53]?.getD undef, tt[54]?.getD undef, tt[55]?.getD undef, tt[56]?.getD undef, tt[57]?.getD undef, tt[58]?.getD undef, tt[59]?.getD undef, tt[60]?.getD undef, tt[61]?.getD undef, tt[62]?.getD undef, tt[63]?.getD undef, tt[64]?.getD undef, tt[65]?.getD undef, tt[66]?.getD undef, tt[67]?.getD undef, tt[68]?.getD undef, tt[69]?.getD undef, tt[70]?.getD undef, tt[71]?.getD undef, tt[72]?.getD undef, tt[73]?.getD undef, tt[74]?.getD undef, tt[75]?.getD undef, tt[76]?.getD undef, tt[77]?.getD undef, tt[78]?.getD undef, tt[79]?.getD undef, tt[80]?.getD undef, tt[81]?.getD undef, tt[82]?.getD undef, tt[83]?.getD undef, tt[84]?.getD undef, tt[85]?.getD undef, tt[86]?.getD undef, tt[87]?.getD undef, tt[88]?.getD undef, tt[89]?.getD undef, tt[90]?.getD undef, tt[91]?.getD undef, tt[92]?.getD undef, tt[93]?.getD undef, tt[94]?.getD undef, tt[95]?.getD undef, tt[96]?.getD undef, tt[97]?.getD undef, tt[98]?.getD undef, tt[99]?.getD undef, tt[100]?.getD undef, tt[101]?.getD undef, tt[102]?.getD undef, tt[103]?.getD undef, tt[104]?.getD undef, tt[105]?.getD undef, tt[106]?.getD undef, tt[107]?.getD undef, tt[108]?.getD undef] := (arr_lit hsz).trans rfl
          rw [g0, g1, g2, g3, g4, g5, g6, g7, g8, g9, g10, g11, g12, g13, g14, g15, g16, g17, g18, g19, g20, g21, g22, g23, g24, g25, g26, g27, g28, g29, g30, g31, g32, g33, g34, g35, g36, g37, g38, g39, g40, g41, g42, g43, g44, g45, g46, g47, g48, g49, g50, g55, g56, g57, g58, g59, g60, g61, g62, g63, g64, g65, g66, g67, g68, g69, g70, g71, g72, g73, g74, g75, g76, g77, g78, g79, g80, g81, g82, g83, g84, g85, g86, g87, g88, g89, g90, g91, g92, g93, g94, g95, g96, g97, g98, g99, g100, g101, g102, g103, g104, g105, g106, g107, g108] at hl
          clear g0 g1 g2 g3 g4 g5 g6 g7 g8 g9 g10 g11 g12 g13 g14 g15 g16 g17 g18 g19 g20 g21 g22 g23 g24 g25 g26 g27 g28 g29 g30 g31 g32 g33 g34 g35 g36 g37 g38 g39 g40 g41 g42 g43 g44 g45 g46 g47 g48 g49 g50 g55 g56 g57 g58 g59 g60 g61 g62 g63 g64 g65 g66 g67 g68 g69 g70 g71 g72 g73 g74 g75 g76 g77 g78 g79 g80 g81 g82 g83 g84 g85 g86 g87 g88 g89 g90 g91 g92 g93 g94 g95 g96 g97 g98 g99 g100 g101 g102 g103 g104 g105 g106 g107 g108 hsz
          generalize tt[51]?.getD undef = y51 at hl
          generalize tt[52]?.getD undef = y52 at hl
          generalize tt[53]?.getD undef = y53 at hl
          generalize tt[54]?.getD undef = y54 at hl
          subst hl
          obtain ⟨wd7, hww⟩ : ∃ x, x = w3 := ⟨_, rfl⟩
          rw [← hww] at hB ⊢
          clear hww
          have B7 : Hid (Below w.heap.size w wd7) := Lib.hid (below_of B6.out B6.out.size hB)
          have Z7 : Hid (wd6.heap.size ≤ wd7.heap.size) := Lib.hid hB.size
          have K0_7 : Hid (BlkL wd7 (w.heap.size) [.slice A0 a0.length ca0, .slice L0 l0.length cl0, .slice D0 d0.length cd0, .slice S0 n0 cs0, .int .i64 c0, .float .f32 hub0, .float .f32 tip0]) := Lib.hid (K0_6.out.below hB)
          have K2_7 : Hid (BlkL wd7 (w.heap.size + 1) [.float .f32 x2, .float .f32 y2, .float .f32 z2]) := Lib.hid (K2_6.out.below hB)
          have WB_5 : Hid (BlkL wd7 cBk [.slice cR1 (gLp (stO a0 l0 d0 s0 n0 c0 hub0 tip0 (hasT n0 u1) (setSt s0 u1.toNat x2 y2 z2) hub0 tip0) a0).length cc1, .slice cR2 (gLp (stO a0 l0 d0 s0 n0 c0 hub0 tip0 (hasT n0 u1) (setSt s0 u1.toNat x2 y2 z2) hub0 tip0) l0).length cc2, .slice cR3 (gLp (stO a0 l0 d0 s0 n0 c0 hub0 tip0 (hasT n0 u1) (setSt s0 u1.toNat x2 y2 z2) hub0 tip0) d0).length cc3, .slice cR4 (gN (stO a0 l0 d0 s0 n0 c0 hub0 tip0 (hasT n0 u1) (setSt s0 u1.toNat x2 y2 z2) hub0 tip0) n0) cc4, .int .i64 (gC (stO a0 l0 d0 s0 n0 c0 hub0 tip0 (hasT n0 u1) (setSt s0 u1.toNat x2 y2 z2) hub0 tip0) c0), .float .f32 (gN (stO a0 l0 d0 s0 n0 c0 hub0 tip0 (hasT n0 u1) (setSt s0 u1.toNat x2 y2 z2) hub0 tip0) hub0), .float .f32 (gN (stO a0 l0 d0 s0 n0 c0 hub0 tip0 (hasT n0 u1) (setSt s0 u1.toNat x2 y2 z2) hub0 tip0) tip0)]) := Lib.hid (WB_4.out.below hB)
          have Xc_5 : Hid (OwnT wd7 wd1.heap.size cR1 cR2 cR3 cR4 cg1 cg2 cg3 cg4 (gLp (stO a0 l0 d0 s0 n0 c0 hub0 tip0 (hasT n0 u1) (setSt s0 u1.toNat x2 y2 z2) hub0 tip0) a0) (gLp (stO a0 l0 d0 s0 n0 c0 hub0 tip0 (hasT n0 u1) (setSt s0 u1.toNat x2 y2 z2) hub0 tip0) l0) (gLp (stO a0 l0 d0 s0 n0 c0 hub0 tip0 (hasT n0 u1) (setSt s0 u1.toNat x2 y2 z2) hub0 tip0) d0) (gLp (stO a0 l0 d0 s0 n0 c0 hub0 tip0 (hasT n0 u1) (setSt s0 u1.toNat x2 y2 z2) hub0 tip0) (setSt s0 u1.toNat x2 y2 z2))) := Lib.hid (Xc_4.out.below hB)
          have Xx0_4 : Hid (OwnT wd7 wd2.heap.size (some ⟨x01, 0, none⟩) (some ⟨x02, 0, none⟩) (some ⟨x03, 0, none⟩) (some ⟨x04, 0, none⟩) x01 x02 x03 x04 a0 l0 d0 s0) := Lib.hid (Xx0_3.out.below hB)
          have V0_3 : Hid (BlkL wd7 (wd3.heap.size) [.slice (some ⟨x01, 0, none⟩) a0.length a0.length, .slice (some ⟨x02, 0, none⟩) l0.length l0.length, .slice (some ⟨x03, 0, none⟩) d0.length d0.length, .slice (some ⟨x04, 0, none⟩) n0 n0, .int .i64 c0, .float .f32 hub0, .float .f32 tip0]) := Lib.hid (V0_2.out.below hB)
          have GB_2 : Hid (BlkL wd7 gBk [.slice gR1 (gLp (stO a0 l0 d0 s0 n0 c0 hub0 tip0 (hasT n0 u1) (setSt s0 u1.toNat x2 y2 z2) hub0 tip0) a0).length gc1, .slice gR2 (gLp (stO a0 l0 d0 s0 n0 c0 hub0 tip0 (hasT n0 u1) (setSt s0 u1.toNat x2 y2 z2) hub0 tip0) l0).length gc2, .slice gR3 (gLp (stO a0 l0 d0 s0 n0 c0 hub0 tip0 (hasT n0 u1) (setSt s0 u1.toNat x2 y2 z2) hub0 tip0) d0).length gc3, .slice gR4 (gN (stO a0 l0 d0 s0 n0 c0 hub0 tip0 (hasT n0 u1) (setSt s0 u1.toNat x2 y2 z2) hub0 tip0) n0) gc4, .int .i64 (gC (stO a0 l0 d0 s0 n0 c0 hub0 tip0 (hasT n0 u1) (setSt s0 u1.toNat x2 y2 z2) hub0 tip0) c0), .float .f32 (gN (stO a0 l0 d0 s0 n0 c0 hub0 tip0 (hasT n0 u1) (setSt s0 u1.toNat x2 y2 z2) hub0 tip0) hub0), .float .f32 (gN (stO a0 l0 d0 s0 n0 c0 hub0 tip0 (hasT n0 u1) (setSt s0 u1.toNat x2 y2 z2) hub0 tip0) tip0)]) := Lib.hid (GB_1.out.below hB)
          have Xg_2 : Hid (OwnT wd7 wd4.heap.size gR1 gR2 gR3 gR4 gg1 gg2 gg3 gg4 (gLp (stO a0 l0 d0 s0 n0 c0 hub0 tip0 (hasT n0 u1) (setSt s0 u1.toNat x2 y2 z2) hub0 tip0) a0) (gLp (stO a0 l0 d0 s0 n0 c0 hub0 tip0 (hasT n0 u1) (setSt s0 u1.toNat x2 y2 z2) hub0 tip0) l0) (gLp (stO a0 l0 d0 s0 n0 c0 hub0 tip0 (hasT n0 u1) (setSt s0 u1.toNat x2 y2 z2) hub0 tip0) d0) (gLp (stO a0 l0 d0 s0 n0 c0 hub0 tip0 (hasT n0 u1) (setSt s0 u1.toNat x2 y2 z2) hub0 tip0) (setSt s0 u1.toNat x2 y2 z2))) := Lib.hid (Xg_1.out.below hB)
          clear K0_6 K2_6 WB_4 Xc_4 Xx0_3 V0_2 GB_1 Xg_1
          clear hB
          obtain ⟨K0x0, K0x1, K0x2, K0x3, K0x4, K0x5, K0x6⟩ := K0_7.out.sevenT
          obtain ⟨K2x0, K2x1, K2x2⟩ := K2_7.out.three
          obtain ⟨WBx0, WBx1, WBx2, WBx3, WBx4, WBx5, WBx6⟩ := WB_5.out.sevenT
          obtain ⟨V0x0, V0x1, V0x2, V0x3, V0x4, V0x5, V0x6⟩ := V0_3.out.sevenT
          obtain ⟨GBx0, GBx1, GBx2, GBx3, GBx4, GBx5, GBx6⟩ := GB_2.out.sevenT
          go_wp2_with fail
          refine (l_markRotor _ _ _ _ _ _ _ _ _ _ _ _ _ _ (1) _ _ _ a0 l0 d0 s0 _ (Xx0_4.out) HN0.out (by omega) _ (by omega)).mono ?_
          rintro e wd8 ⟨rfl, -, t⟩
          have B8 : Hid (Below w.heap.size w wd8) := Lib.hid (t.2.2.2 w B7.out (by intro b hh; have h1 := Xx0bd.out.bd hh; have := Z0.out; have := Z1.out; have := Z2.out; have := Y2.out; have := Z3.out; have := Z4.out; have := Y4.out; have := Z5.out; have := Y5.out; have := Z6.out; have := Z7.out; omega))
          have Z8 : Hid (wd7.heap.size ≤ wd8.heap.size) := Lib.hid t.1
          have K0_8 : Hid (BlkL wd8 (w.heap.size) [.slice A0 a0.length ca0, .slice L0 l0.length cl0, .slice D0 d0.length cd0, .slice S0 n0 cs0, .int .i64 c0, .float .f32 hub0, .float .f32 tip0]) := Lib.hid (K0_7.out.turnS t (by intro hh; have h1 := Xx0bd.out.bd hh; have := Z0.out; have := Z1.out; have := Z2.out; have := Y2.out; have := Z3.out; have := Z4.out; have := Y4.out; have := Z5.out; have := Y5.out; have := Z6.out; have := Z7.out; omega))
          have K2_8 : Hid (BlkL wd8 (w.heap.size + 1) [.float .f32 x2, .float .f32 y2, .float .f32 z2]) := Lib.hid (K2_7.out.turnS t (by intro hh; have h1 := Xx0bd.out.bd hh; have := Z0.out; have := Z1.out; have := Z2.out; have := Y2.out; have := Z3.out; have := Z4.out; have := Y4.out; have := Z5.out; have := Y5.out; have := Z6.out; have := Z7.out; omega))
          have WB_6 : Hid (BlkL wd8 cBk [.slice cR1 (gLp (stO a0 l0 d0 s0 n0 c0 hub0 tip0 (hasT n0 u1) (setSt s0 u1.toNat x2 y2 z2) hub0 tip0) a0).length cc1, .slice cR2 (gLp (stO a0 l0 d0 s0 n0 c0 hub0 tip0 (hasT n0 u1) (setSt s0 u1.toNat x2 y2 z2) hub0 tip0) l0).length cc2, .slice cR3 (gLp (stO a0 l0 d0 s0 n0 c0 hub0 tip0 (hasT n0 u1) (setSt s0 u1.toNat x2 y2 z2) hub0 tip0) d0).length cc3, .slice cR4 (gN (stO a0 l0 d0 s0 n0 c0 hub0 tip0 (hasT n0 u1) (setSt s0 u1.toNat x2 y2 z2) hub0 tip0) n0) cc4, .int .i64 (gC (stO a0 l0 d0 s0 n0 c0 hub0 tip0 (hasT n0 u1) (setSt s0 u1.toNat x2 y2 z2) hub0 tip0) c0), .float .f32 (gN (stO a0 l0 d0 s0 n0 c0 hub0 tip0 (hasT n0 u1) (setSt s0 u1.toNat x2 y2 z2) hub0 tip0) hub0), .float .f32 (gN (stO a0 l0 d0 s0 n0 c0 hub0 tip0 (hasT n0 u1) (setSt s0 u1.toNat x2 y2 z2) hub0 tip0) tip0)]) := Lib.hid (WB_5.out.turnS t (by intro hh; have h1 := Xx0bd.out.bd hh; have := Z0.out; have := Z1.out; have := Z2.out; have := Y2.out; have := Z3.out; have := Z4.out; have := Y4.out; have := Z5.out; have := Y5.out; have := Z6.out; have := Z7.out; omega))
          have Xc_6 : Hid (OwnT wd8 wd1.heap.size cR1 cR2 cR3 cR4 cg1 cg2 cg3 cg4 (gLp (stO a0 l0 d0 s0 n0 c0 hub0 tip0 (hasT n0 u1) (setSt s0 u1.toNat x2 y2 z2) hub0 tip0) a0) (gLp (stO a0 l0 d0 s0 n0 c0 hub0 tip0 (hasT n0 u1) (setSt s0 u1.toNat x2 y2 z2) hub0 tip0) l0) (gLp (stO a0 l0 d0 s0 n0 c0 hub0 tip0 (hasT n0 u1) (setSt s0 u1.toNat x2 y2 z2) hub0 tip0) d0) (gLp (stO a0 l0 d0 s0 n0 c0 hub0 tip0 (hasT n0 u1) (setSt s0 u1.toNat x2 y2 z2) hub0 tip0) (setSt s0 u1.toNat x2 y2 z2))) := Lib.hid (Xc_5.out.turnS t (by intro c hc hh; have h1 := Xx0bd.out.bd hh; have h2 := Xcbd.out.bd hc; have := Z0.out; have := Z1.out; have := Z2.out; have := Y2.out; have := Z3.out; have := Z4.out; have := Y4.out; have := Z5.out; have := Y5.out; have := Z6.out; have := Z7.out; omega))
          have V0_4 : Hid (BlkL wd8 (wd3.heap.size) [.slice (some ⟨x01, 0, none⟩) a0.length a0.length, .slice (some ⟨x02, 0, none⟩) l0.length l0.length, .slice (some ⟨x03, 0, none⟩) d0.length d0.length, .slice (some ⟨x04, 0, none⟩) n0 n0, .int .i64 c0, .float .f32 hub0, .float .f32 tip0]) := Lib.hid (V0_3.out.turnS t (by intro hh; have h1 := Xx0bd.out.bd hh; have := Z0.out; have := Z1.out; have := Z2.out; have := Y2.out; have := Z3.out; have := Z4.out; have := Y4.out; have := Z5.out; have := Y5.out; have := Z6.out; have := Z7.out; omega))
          have GB_3 : Hid (BlkL wd8 gBk [.slice gR1 (gLp (stO a0 l0 d0 s0 n0 c0 hub0 tip0 (hasT n0 u1) (setSt s0 u1.toNat x2 y2 z2) hub0 tip0) a0).length gc1, .slice gR2 (gLp (stO a0 l0 d0 s0 n0 c0 hub0 tip0 (hasT n0 u1) (setSt s0 u1.toNat x2 y2 z2) hub0 tip0) l0).length gc2, .slice gR3 (gLp (stO a0 l0 d0 s0 n0 c0 hub0 tip0 (hasT n0 u1) (setSt s0 u1.toNat x2 y2 z2) hub0 tip0) d0).length gc3, .slice gR4 (gN (stO a0 l0 d0 s0 n0 c0 hub0 tip0 (hasT n0 u1) (setSt s0 u1.toNat x2 y2 z2) hub0 tip0) n0) gc4, .int .i64 (gC (stO a0 l0 d0 s0 n0 c0 hub0 tip0 (hasT n0 u1) (setSt s0 u1.toNat x2 y2 z2) hub0 tip0) c0), .float .f32 (gN (stO a0 l0 d0 s0 n0 c0 hub0 tip0 (hasT n0 u1) (setSt s0 u1.toNat x2 y2 z2) hub0 tip0) hub0), .float .f32 (gN (stO a0 l0 d0 s0 n0 c0 hub0 tip0 (hasT n0 u1) (setSt s0 u1.toNat x2 y2 z2) hub0 tip0) tip0)]) := Lib.hid (GB_2.out.turnS t (by intro hh; have h1 := Xx0bd.out.bd hh; have := Z0.out; have := Z1.out; have := Z2.out; have := Y2.out; have := Z3.out; have := Z4.out; have := Y4.out; have := Z5.out; have := Y5.out; have := Z6.out; have := Z7.out; omega))
          have Xg_3 : Hid (OwnT wd8 wd4.heap.size gR1 gR2 gR3 gR4 gg1 gg2 gg3 gg4 (gLp (stO a0 l0 d0 s0 n0 c0 hub0 tip0 (hasT n0 u1) (setSt s0 u1.toNat x2 y2 z2) hub0 tip0) a0) (gLp (stO a0 l0 d0 s0 n0 c0 hub0 tip0 (hasT n0 u1) (setSt s0 u1.toNat x2 y2 z2) hub0 tip0) l0) (gLp (stO a0 l0 d0 s0 n0 c0 hub0 tip0 (hasT n0 u1) (setSt s0 u1.toNat x2 y2 z2) hub0 tip0) d0) (gLp (stO a0 l0 d0 s0 n0 c0 hub0 tip0 (hasT n0 u1) (setSt s0 u1.toNat x2 y2 z2) hub0 tip0) (setSt s0 u1.toNat x2 y2 z2))) := Lib.hid (Xg_2.out.turnS t (by intro c hc hh; have h1 := Xx0bd.out.bd hh; have h2 := Xgbd.out.bd hc; have := Z0.out; have := Z1.out; have := Z2.out; have := Y2.out; have := Z3.out; have := Z4.out; have := Y4.out; have := Z5.out; have := Y5.out; have := Z6.out; have := Z7.out; omega))
          clear K0x0 K0x1 K0x2 K0x3 K0x4 K0x5 K0x6 K2x0 K2x1 K2x2 WBx0 WBx1 WBx2 WBx3 WBx4 WBx5 WBx6 V0x0 V0x1 V0x2 V0x3 V0x4 V0x5 V0x6 GBx0 GBx1 GBx2 GBx3 GBx4 GBx5 GBx6
          clear K0_7 K2_7 WB_5 Xc_5 V0_3 GB_2 Xg_2
          clear t
          have hk0 : (0 : Int) ≤ ((1 : Nat) : Int) + (a0.length : Int) + (l0.length : Int) + (d0.length : Int) + 3 * (n0 : Int) := by omega
          obtain ⟨K0x0, K0x1, K0x2, K0x3, K0x4, K0x5, K0x6⟩ := K0_8.out.sevenT
          obtain ⟨K2x0, K2x1, K2x2⟩ := K2_8.out.three
          obtain ⟨WBx0, WBx1, WBx2, WBx3, WBx4, WBx5, WBx6⟩ := WB_6.out.sevenT
          obtain ⟨V0x0, V0x1, V0x2, V0x3, V0x4, V0x5, V0x6⟩ := V0_4.out.sevenT
          obtain ⟨GBx0, GBx1, GBx2, GBx3, GBx4, GBx5, GBx6⟩ := GB_3.out.sevenT
          go_wp2_with fail
          refine (l_eqRotor _ _ _ _ _ _ _ _ _ _ _ _ _ _ _ _ _ _ _ _ (gLp (stO a0 l0 d0 s0 n0 c0 hub0 tip0 (hasT n0 u1) (setSt s0 u1.toNat x2 y2 z2) hub0 tip0) a0) (gLp (stO a0 l0 d0 s0 n0 c0 hub0 tip0 (hasT n0 u1) (setSt s0 u1.toNat x2 y2 z2) hub0 tip0) l0) (gLp (stO a0 l0 d0 s0 n0 c0 hub0 tip0 (hasT n0 u1) (setSt s0 u1.toNat x2 y2 z2) hub0 tip0) d0) (gLp (stO a0 l0 d0 s0 n0 c0 hub0 tip0 (hasT n0 u1) (setSt s0 u1.toNat x2 y2 z2) hub0 tip0) (setSt s0 u1.toNat x2 y2 z2)) _ Xg_3.out.rt Xc_6.out.rt HF.out).mono ?_
          rintro e wd9 ⟨rfl, b⟩
          have B9 : Hid (Below w.heap.size w wd9) := Lib.hid (below_of B8.out B8.out.size b)
          have Z9 : Hid (wd8.heap.size ≤ wd9.heap.size) := Lib.hid b.size
          have K0_9 : Hid (BlkL wd9 (w.heap.size) [.slice A0 a0.length ca0, .slice L0 l0.length cl0, .slice D0 d0.length cd0, .slice S0 n0 cs0, .int .i64 c0, .float .f32 hub0, .float .f32 tip0]) := Lib.hid (K0_8.out.below b)
          have K2_9 : Hid (BlkL wd9 (w.heap.size + 1) [.float .f32 x2, .float .f32 y2, .float .f32 z2]) := Lib.hid (K2_8.out.below b)
          have WB_7 : Hid (BlkL wd9 cBk [.slice cR1 (gLp (stO a0 l0 d0 s0 n0 c0 hub0 tip0 (hasT n0 u1) (setSt s0 u1.toNat x2 y2 z2) hub0 tip0) a0).length cc1, .slice cR2 (gLp (stO a0 l0 d0 s0 n0 c0 hub0 tip0 (hasT n0 u1) (setSt s0 u1.toNat x2 y2 z2) hub0 tip0) l0).length cc2, .slice cR3 (gLp (stO a0 l0 d0 s0 n0 c0 hub0 tip0 (hasT n0 u1) (setSt s0 u1.toNat x2 y2 z2) hub0 tip0) d0).length cc3, .slice cR4 (gN (stO a0 l0 d0 s0 n0 c0 hub0 tip0 (hasT n0 u1) (setSt s0 u1.toNat x2 y2 z2) hub0 tip0) n0) cc4, .int .i64 (gC (stO a0 l0 d0 s0 n0 c0 hub0 tip0 (hasT n0 u1) (setSt s0 u1.toNat x2 y2 z2) hub0 tip0) c0), .float .f32 (gN (stO a0 l0 d0 s0 n0 c0 hub0 tip0 (hasT n0 u1) (setSt s0 u1.toNat x2 y2 z2) hub0 tip0) hub0), .float .f32 (gN (stO a0 l0 d0 s0 n0 c0 hub0 tip0 (hasT n0 u1) (setSt s0 u1.toNat x2 y2 z2) hub0 tip0) tip0)]) := Lib.hid (WB_6.out.below b)
          have Xc_7 : Hid (OwnT wd9 wd1.heap.size cR1 cR2 cR3 cR4 cg1 cg2 cg3 cg4 (gLp (stO a0 l0 d0 s0 n0 c0 hub0 tip0 (hasT n0 u1) (setSt s0 u1.toNat x2 y2 z2) hub0 tip0) a0) (gLp (stO a0 l0 d0 s0 n0 c0 hub0 tip0 (hasT n0 u1) (setSt s0 u1.toNat x2 y2 z2) hub0 tip0) l0) (gLp (stO a0 l0 d0 s0 n0 c0 hub0 tip0 (hasT n0 u1) (setSt s0 u1.toNat x2 y2 z2) hub0 tip0) d0) (gLp (stO a0 l0 d0 s0 n0 c0 hub0 tip0 (hasT n0 u1) (setSt s0 u1.toNat x2 y2 z2) hub0 tip0) (setSt s0 u1.toNat x2 y2 z2))) := Lib.hid (Xc_6.out.below b)
          have V0_5 : Hid (BlkL wd9 (wd3.heap.size) [.slice (some ⟨x01, 0, none⟩) a0.length a0.length, .slice (some ⟨x02, 0, none⟩) l0.length l0.length, .slice (some ⟨x03, 0, none⟩) d0.length d0.length, .slice (some ⟨x04, 0, none⟩) n0 n0, .int .i64 c0, .float .f32 hub0, .float .f32 tip0]) := Lib.hid (V0_4.out.below b)
          have GB_4 : Hid (BlkL wd9 gBk [.slice gR1 (gLp (stO a0 l0 d0 s0 n0 c0 hub0 tip0 (hasT n0 u1) (setSt s0 u1.toNat x2 y2 z2) hub0 tip0) a0).length gc1, .slice gR2 (gLp (stO a0 l0 d0 s0 n0 c0 hub0 tip0 (hasT n0 u1) (setSt s0 u1.toNat x2 y2 z2) hub0 tip0) l0).length gc2, .slice gR3 (gLp (stO a0 l0 d0 s0 n0 c0 hub0 tip0 (hasT n0 u1) (setSt s0 u1.toNat x2 y2 z2) hub0 tip0) d0).length gc3, .slice gR4 (gN (stO a0 l0 d0 s0 n0 c0 hub0 tip0 (hasT n0 u1) (setSt s0 u1.toNat x2 y2 z2) hub0 tip0) n0) gc4, .int .i64 (gC (stO a0 l0 d0 s0 n0 c0 hub0 tip0 (hasT n0 u1) (setSt s0 u1.toNat x2 y2 z2) hub0 tip0) c0), .float .f32 (gN (stO a0 l0 d0 s0 n0 c0 hub0 tip0 (hasT n0 u1) (setSt s0 u1.toNat x2 y2 z2) hub0 tip0) hub0), .float .f32 (gN (stO a0 l0 d0 s0 n0 c0 hub0 tip0 (hasT n0 u1) (setSt s0 u1.toNat x2 y2 z2) hub0 tip0) tip0)]) := Lib.hid (GB_3.out.below b)
          have Xg_4 : Hid (OwnT wd9 wd4.heap.size gR1 gR2 gR3 gR4 gg1 gg2 gg3 gg4 (gLp (stO a0 l0 d0 s0 n0 c0 hub0 tip0 (hasT n0 u1) (setSt s0 u1.toNat x2 y2 z2) hub0 tip0) a0) (gLp (stO a0 l0 d0 s0 n0 c0 hub0 tip0 (hasT n0 u1) (setSt s0 u1.toNat x2 y2 z2) hub0 tip0) l0) (gLp (stO a0 l0 d0 s0 n0 c0 hub0 tip0 (hasT n0 u1) (setSt s0 u1.toNat x2 y2 z2) hub0 tip0) d0) (gLp (stO a0 l0 d0 s0 n0 c0 hub0 tip0 (hasT n0 u1) (setSt s0 u1.toNat x2 y2 z2) hub0 tip0) (setSt s0 u1.toNat x2 y2 z2))) := Lib.hid (Xg_3.out.below b)
          clear K0x0 K0x1 K0x2 K0x3 K0x4 K0x5 K0x6 K2x0 K2x1 K2x2 WBx0 WBx1 WBx2 WBx3 WBx4 WBx5 WBx6 V0x0 V0x1 V0x2 V0x3 V0x4 V0x5 V0x6 GBx0 GBx1 GBx2 GBx3 GBx4 GBx5 GBx6
          clear K0_8 K2_8 WB_6 Xc_6 V0_4 GB_3 Xg_3
          clear b
          obtain ⟨K0x0, K0x1, K0x2, K0x3, K0x4, K0x5, K0x6⟩ := K0_9.out.sevenT
          obtain ⟨K2x0, K2x1, K2x2⟩ := K2_9.out.three
          obtain ⟨WBx0, WBx1, WBx2, WBx3, WBx4, WBx5, WBx6⟩ := WB_7.out.sevenT
          obtain ⟨V0x0, V0x1, V0x2, V0x3, V0x4, V0x5, V0x6⟩ := V0_5.out.sevenT
          obtain ⟨GBx0, GBx1, GBx2, GBx3, GBx4, GBx5, GBx6⟩ := GB_4.out.sevenT
          go_wp2_with fail
          refine (l_markRotor _ _ _ _ _ _ _ _ _ _ _ _ _ _ 1 _ _ _ (gLp (stO a0 l0 d0 s0 n0 c0 hub0 tip0 (hasT n0 u1) (setSt s0 u1.toNat x2 y2 z2) hub0 tip0) a0) (gLp (stO a0 l0 d0 s0 n0 c0 hub0 tip0 (hasT n0 u1) (setSt s0 u1.toNat x2 y2 z2) hub0 tip0) l0) (gLp (stO a0 l0 d0 s0 n0 c0 hub0 tip0 (hasT n0 u1) (setSt s0 u1.toNat x2 y2 z2) hub0 tip0) d0) (gLp (stO a0 l0 d0 s0 n0 c0 hub0 tip0 (hasT n0 u1) (setSt s0 u1.toNat x2 y2 z2) hub0 tip0) (setSt s0 u1.toNat x2 y2 z2)) _ (Xg_4.out) HF.out (by omega) _ rfl).mono ?_
          rintro e wd10 ⟨rfl, om0, t⟩
          have om : OwnT wd10 wd4.heap.size gR1 gR2 gR3 gR4 gg1 gg2 gg3 gg4 (marks 1 (gLp (stO a0 l0 d0 s0 n0 c0 hub0 tip0 (hasT n0 u1) (setSt s0 u1.toNat x2 y2 z2) hub0 tip0) a0).length) (marks (1 + (gLp (stO a0 l0 d0 s0 n0 c0 hub0 tip0 (hasT n0 u1) (setSt s0 u1.toNat x2 y2 z2) hub0 tip0) a0).length) (gLp (stO a0 l0 d0 s0 n0 c0 hub0 tip0 (hasT n0 u1) (setSt s0 u1.toNat x2 y2 z2) hub0 tip0) l0).length) (marks (1 + (gLp (stO a0 l0 d0 s0 n0 c0 hub0 tip0 (hasT n0 u1) (setSt s0 u1.toNat x2 y2 z2) hub0 tip0) a0).length + (gLp (stO a0 l0 d0 s0 n0 c0 hub0 tip0 (hasT n0 u1) (setSt s0 u1.toNat x2 y2 z2) hub0 tip0) l0).length) (gLp (stO a0 l0 d0 s0 n0 c0 hub0 tip0 (hasT n0 u1) (setSt s0 u1.toNat x2 y2 z2) hub0 tip0) d0).length) (marks (1 + (gLp (stO a0 l0 d0 s0 n0 c0 hub0 tip0 (hasT n0 u1) (setSt s0 u1.toNat x2 y2 z2) hub0 tip0) a0).length + (gLp (stO a0 l0 d0 s0 n0 c0 hub0 tip0 (hasT n0 u1) (setSt s0 u1.toNat x2 y2 z2) hub0 tip0) l0).length + (gLp (stO a0 l0 d0 s0 n0 c0 hub0 tip0 (hasT n0 u1) (setSt s0 u1.toNat x2 y2 z2) hub0 tip0) d0).length) ((gN (stO a0 l0 d0 s0 n0 c0 hub0 tip0 (hasT n0 u1) (setSt s0 u1.toNat x2 y2 z2) hub0 tip0) n0) * 3)) := by rw [HF.out.1] at om0; exact om0
          clear om0
          have B10 : Hid (Below w.heap.size w wd10) := Lib.hid (t.2.2.2 w B9.out (by intro b hh; have h1 := Xgbd.out.bd hh; have h0 := XgNE.out _ hh; have := Z0.out; have := Z1.out; have := Z2.out; have := Y2.out; have := Z3.out; have := Z4.out; have := Y4.out; have := Z5.out; have := Y5.out; have := Z6.out; have := Z7.out; have := Z8.out; have := Z9.out; omega))
          have Z10 : Hid (wd9.heap.size ≤ wd10.heap.size) := Lib.hid t.1
          have K0_10 : Hid (BlkL wd10 (w.heap.size) [.slice A0 a0.length ca0, .slice L0 l0.length cl0, .slice D0 d0.length cd0, .slice S0 n0 cs0, .int .i64 c0, .float .f32 hub0, .float .f32 tip0]) := Lib.hid (K0_9.out.turnS t (by intro hh; have h1 := Xgbd.out.bd hh; have h0 := XgNE.out _ hh; have := Z0.out; have := Z1.out; have := Z2.out; have := Y2.out; have := Z3.out; have := Z4.out; have := Y4.out; have := Z5.out; have := Y5.out; have := Z6.out; have := Z7.out; have := Z8.out; have := Z9.out; omega))
          have K2_10 : Hid (BlkL wd10 (w.heap.size + 1) [.float .f32 x2, .float .f32 y2, .float .f32 z2]) := Lib.hid (K2_9.out.turnS t (by intro hh; have h1 := Xgbd.out.bd hh; have h0 := XgNE.out _ hh; have := Z0.out; have := Z1.out; have := Z2.out; have := Y2.out; have := Z3.out; have := Z4.out; have := Y4.out; have := Z5.out; have := Y5.out; have := Z6.out; have := Z7.out; have := Z8.out; have := Z9.out; omega))
          have WB_8 : Hid (BlkL wd10 cBk [.slice cR1 (gLp (stO a0 l0 d0 s0 n0 c0 hub0 tip0 (hasT n0 u1) (setSt s0 u1.toNat x2 y2 z2) hub0 tip0) a0).length cc1, .slice cR2 (gLp (stO a0 l0 d0 s0 n0 c0 hub0 tip0 (hasT n0 u1) (setSt s0 u1.toNat x2 y2 z2) hub0 tip0) l0).length cc2, .slice cR3 (gLp (stO a0 l0 d0 s0 n0 c0 hub0 tip0 (hasT n0 u1) (setSt s0 u1.toNat x2 y2 z2) hub0 tip0) d0).length cc3, .slice cR4 (gN (stO a0 l0 d0 s0 n0 c0 hub0 tip0 (hasT n0 u1) (setSt s0 u1.toNat x2 y2 z2) hub0 tip0) n0) cc4, .int .i64 (gC (stO a0 l0 d0 s0 n0 c0 hub0 tip0 (hasT n0 u1) (setSt s0 u1.toNat x2 y2 z2) hub0 tip0) c0), .float .f32 (gN (stO a0 l0 d0 s0 n0 c0 hub0 tip0 (hasT n0 u1) (setSt s0 u1.toNat x2 y2 z2) hub0 tip0) hub0), .float .f32 (gN (stO a0 l0 d0 s0 n0 c0 hub0 tip0 (hasT n0 u1) (setSt s0 u1.toNat x2 y2 z2) hub0 tip0) tip0)]) := Lib.hid (WB_7.out.turnS t (by intro hh; have h1 := Xgbd.out.bd hh; have h0 := XgNE.out _ hh; have := Z0.out; have := Z1.out; have := Z2.out; have := Y2.out; have := Z3.out; have := Z4.out; have := Y4.out; have := Z5.out; have := Y5.out; have := Z6.out; have := Z7.out; have := Z8.out; have := Z9.out; omega))
          have Xc_8 : Hid (OwnT wd10 wd1.heap.size cR1 cR2 cR3 cR4 cg1 cg2 cg3 cg4 (gLp (stO a0 l0 d0 s0 n0 c0 hub0 tip0 (hasT n0 u1) (setSt s0 u1.toNat x2 y2 z2) hub0 tip0) a0) (gLp (stO a0 l0 d0 s0 n0 c0 hub0 tip0 (hasT n0 u1) (setSt s0 u1.toNat x2 y2 z2) hub0 tip0) l0) (gLp (stO a0 l0 d0 s0 n0 c0 hub0 tip0 (hasT n0 u1) (setSt s0 u1.toNat x2 y2 z2) hub0 tip0) d0) (gLp (stO a0 l0 d0 s0 n0 c0 hub0 tip0 (hasT n0 u1) (setSt s0 u1.toNat x2 y2 z2) hub0 tip0) (setSt s0 u1.toNat x2 y2 z2))) := Lib.hid (Xc_7.out.turnS t (by intro c hc hh; have h1 := Xgbd.out.bd hh; have h0 := XgNE.out _ hh; have h2 := Xcbd.out.bd hc; have := Z0.out; have := Z1.out; have := Z2.out; have := Y2.out; have := Z3.out; have := Z4.out; have := Y4.out; have := Z5.out; have := Y5.out; have := Z6.out; have := Z7.out; have := Z8.out; have := Z9.out; omega))
          have V0_6 : Hid (BlkL wd10 (wd3.heap.size) [.slice (some ⟨x01, 0, none⟩) a0.length a0.length, .slice (some ⟨x02, 0, none⟩) l0.length l0.length, .slice (some ⟨x03, 0, none⟩) d0.length d0.length, .slice (some ⟨x04, 0, none⟩) n0 n0, .int .i64 c0, .float .f32 hub0, .float .f32 tip0]) := Lib.hid (V0_5.out.turnS t (by intro hh; have h1 := Xgbd.out.bd hh; have h0 := XgNE.out _ hh; have := Z0.out; have := Z1.out; have := Z2.out; have := Y2.out; have := Z3.out; have := Z4.out; have := Y4.out; have := Z5.out; have := Y5.out; have := Z6.out; have := Z7.out; have := Z8.out; have := Z9.out; omega))
          have GB_5 : Hid (BlkL wd10 gBk [.slice gR1 (gLp (stO a0 l0 d0 s0 n0 c0 hub0 tip0 (hasT n0 u1) (setSt s0 u1.toNat x2 y2 z2) hub0 tip0) a0).length gc1, .slice gR2 (gLp (stO a0 l0 d0 s0 n0 c0 hub0 tip0 (hasT n0 u1) (setSt s0 u1.toNat x2 y2 z2) hub0 tip0) l0).length gc2, .slice gR3 (gLp (stO a0 l0 d0 s0 n0 c0 hub0 tip0 (hasT n0 u1) (setSt s0 u1.toNat x2 y2 z2) hub0 tip0) d0).length gc3, .slice gR4 (gN (stO a0 l0 d0 s0 n0 c0 hub0 tip0 (hasT n0 u1) (setSt s0 u1.toNat x2 y2 z2) hub0 tip0) n0) gc4, .int .i64 (gC (stO a0 l0 d0 s0 n0 c0 hub0 tip0 (hasT n0 u1) (setSt s0 u1.toNat x2 y2 z2) hub0 tip0) c0), .float .f32 (gN (stO a0 l0 d0 s0 n0 c0 hub0 tip0 (hasT n0 u1) (setSt s0 u1.toNat x2 y2 z2) hub0 tip0) hub0), .float .f32 (gN (stO a0 l0 d0 s0 n0 c0 hub0 tip0 (hasT n0 u1) (setSt s0 u1.toNat x2 y2 z2) hub0 tip0) tip0)]) := Lib.hid (GB_4.out.turnS t (by intro hh; have h1 := Xgbd.out.bd hh; have h0 := XgNE.out _ hh; have := Z0.out; have := Z1.out; have := Z2.out; have := Y2.out; have := Z3.out; have := Z4.out; have := Y4.out; have := Z5.out; have := Y5.out; have := Z6.out; have := Z7.out; have := Z8.out; have := Z9.out; omega))
          have XM : Hid (OwnT wd10 wd4.heap.size gR1 gR2 gR3 gR4 gg1 gg2 gg3 gg4 (marks 1 (gLp (stO a0 l0 d0 s0 n0 c0 hub0 tip0 (hasT n0 u1) (setSt s0 u1.toNat x2 y2 z2) hub0 tip0) a0).length) (marks (1 + (gLp (stO a0 l0 d0 s0 n0 c0 hub0 tip0 (hasT n0 u1) (setSt s0 u1.toNat x2 y2 z2) hub0 tip0) a0).length) (gLp (stO a0 l0 d0 s0 n0 c0 hub0 tip0 (hasT n0 u1) (setSt s0 u1.toNat x2 y2 z2) hub0 tip0) l0).length) (marks (1 + (gLp (stO a0 l0 d0 s0 n0 c0 hub0 tip0 (hasT n0 u1) (setSt s0 u1.toNat x2 y2 z2) hub0 tip0) a0).length + (gLp (stO a0 l0 d0 s0 n0 c0 hub0 tip0 (hasT n0 u1) (setSt s0 u1.toNat x2 y2 z2) hub0 tip0) l0).length) (gLp (stO a0 l0 d0 s0 n0 c0 hub0 tip0 (hasT n0 u1) (setSt s0 u1.toNat x2 y2 z2) hub0 tip0) d0).length) (marks (1 + (gLp (stO a0 l0 d0 s0 n0 c0 hub0 tip0 (hasT n0 u1) (setSt s0 u1.toNat x2 y2 z2) hub0 tip0) a0).length + (gLp (stO a0 l0 d0 s0 n0 c0 hub0 tip0 (hasT n0 u1) (setSt s0 u1.toNat x2 y2 z2) hub0 tip0) l0).length + (gLp (stO a0 l0 d0 s0 n0 c0 hub0 tip0 (hasT n0 u1) (setSt s0 u1.toNat x2 y2 z2) hub0 tip0) d0).length) ((gN (stO a0 l0 d0 s0 n0 c0 hub0 tip0 (hasT n0 u1) (setSt s0 u1.toNat x2 y2 z2) hub0 tip0) n0) * 3))) := Lib.hid (om)
          clear K0x0 K0x1 K0x2 K0x3 K0x4 K0x5 K0x6 K2x0 K2x1 K2x2 WBx0 WBx1 WBx2 WBx3 WBx4 WBx5 WBx6 V0x0 V0x1 V0x2 V0x3 V0x4 V0x5 V0x6 GBx0 GBx1 GBx2 GBx3 GBx4 GBx5 GBx6
          clear K0_9 K2_9 WB_7 Xc_7 V0_5 GB_4
          clear t om
          have hm : (0 : Int) ≤ ((1 : Nat) : Int) + ((gLp (stO a0 l0 d0 s0 n0 c0 hub0 tip0 (hasT n0 u1) (setSt s0 u1.toNat x2 y2 z2) hub0 tip0) a0).length : Int) + ((gLp (stO a0 l0 d0 s0 n0 c0 hub0 tip0 (hasT n0 u1) (setSt s0 u1.toNat x2 y2 z2) hub0 tip0) l0).length : Int) + ((gLp (stO a0 l0 d0 s0 n0 c0 hub0 tip0 (hasT n0 u1) (setSt s0 u1.toNat x2 y2 z2) hub0 tip0) d0).length : Int) + 3 * ((gN (stO a0 l0 d0 s0 n0 c0 hub0 tip0 (hasT n0 u1) (setSt s0 u1.toNat x2 y2 z2) hub0 tip0) n0) : Int) := by omega
          obtain ⟨K0x0, K0x1, K0x2, K0x3, K0x4, K0x5, K0x6⟩ := K0_10.out.sevenT
          obtain ⟨K2x0, K2x1, K2x2⟩ := K2_10.out.three
          obtain ⟨WBx0, WBx1, WBx2, WBx3, WBx4, WBx5, WBx6⟩ := WB_8.out.sevenT
          obtain ⟨V0x0, V0x1, V0x2, V0x3, V0x4, V0x5, V0x6⟩ := V0_6.out.sevenT
          obtain ⟨GBx0, GBx1, GBx2, GBx3, GBx4, GBx5, GBx6⟩ := GB_5.out.sevenT
          go_wp2_with fail
          refine (l_heldRotor _ _ _ _ _ _ _ _ _ _ _ _ _ _ 1 _ _ _ _ _ _ _ (XM.out) HF.out.2 (by omega) _ rfl).mono ?_
          rintro e wd11 ⟨rfl, b⟩
          have B11 : Hid (Below w.heap.size w wd11) := Lib.hid (below_of B10.out B10.out.size b)
          have Z11 : Hid (wd10.heap.size ≤ wd11.heap.size) := Lib.hid b.size
          have K0_11 : Hid (BlkL wd11 (w.heap.size) [.slice A0 a0.length ca0, .slice L0 l0.length cl0, .slice D0 d0.length cd0, .slice S0 n0 cs0, .int .i64 c0, .float .f32 hub0, .float .f32 tip0]) := Lib.hid (K0_10.out.below b)
          have K2_11 : Hid (BlkL wd11 (w.heap.size + 1) [.float .f32 x2, .float .f32 y2, .float .f32 z2]) := Lib.hid (K2_10.out.below b)
          have WB_9 : Hid (BlkL wd11 cBk [.slice cR1 (gLp (stO a0 l0 d0 s0 n0 c0 hub0 tip0 (hasT n0 u1) (setSt s0 u1.toNat x2 y2 z2) hub0 tip0) a0).length cc1, .slice cR2 (gLp (stO a0 l0 d0 s0 n0 c0 hub0 tip0 (hasT n0 u1) (setSt s0 u1.toNat x2 y2 z2) hub0 tip0) l0).length cc2, .slice cR3 (gLp (stO a0 l0 d0 s0 n0 c0 hub0 tip0 (hasT n0 u1) (setSt s0 u1.toNat x2 y2 z2) hub0 tip0) d0).length cc3, .slice cR4 (gN (stO a0 l0 d0 s0 n0 c0 hub0 tip0 (hasT n0 u1) (setSt s0 u1.toNat x2 y2 z2) hub0 tip0) n0) cc4, .int .i64 (gC (stO a0 l0 d0 s0 n0 c0 hub0 tip0 (hasT n0 u1) (setSt s0 u1.toNat x2 y2 z2) hub0 tip0) c0), .float .f32 (gN (stO a0 l0 d0 s0 n0 c0 hub0 tip0 (hasT n0 u1) (setSt s0 u1.toNat x2 y2 z2) hub0 tip0) hub0), .float .f32 (gN (stO a0 l0 d0 s0 n0 c0 hub0 tip0 (hasT n0 u1) (setSt s0 u1.toNat x2 y2 z2) hub0 tip0) tip0)]) := Lib.hid (WB_8.out.below b)
          have Xc_9 : Hid (OwnT wd11 wd1.heap.size cR1 cR2 cR3 cR4 cg1 cg2 cg3 cg4 (gLp (stO a0 l0 d0 s0 n0 c0 hub0 tip0 (hasT n0 u1) (setSt s0 u1.toNat x2 y2 z2) hub0 tip0) a0) (gLp (stO a0 l0 d0 s0 n0 c0 hub0 tip0 (hasT n0 u1) (setSt s0 u1.toNat x2 y2 z2) hub0 tip0) l0) (gLp (stO a0 l0 d0 s0 n0 c0 hub0 tip0 (hasT n0 u1) (setSt s0 u1.toNat x2 y2 z2) hub0 tip0) d0) (gLp (stO a0 l0 d0 s0 n0 c0 hub0 tip0 (hasT n0 u1) (setSt s0 u1.toNat x2 y2 z2) hub0 tip0) (setSt s0 u1.toNat x2 y2 z2))) := Lib.hid (Xc_8.out.below b)
          have V0_7 : Hid (BlkL wd11 (wd3.heap.size) [.slice (some ⟨x01, 0, none⟩) a0.length a0.length, .slice (some ⟨x02, 0, none⟩) l0.length l0.length, .slice (some ⟨x03, 0, none⟩) d0.length d0.length, .slice (some ⟨x04, 0, none⟩) n0 n0, .int .i64 c0, .float .f32 hub0, .float .f32 tip0]) := Lib.hid (V0_6.out.below b)
          have GB_6 : Hid (BlkL wd11 gBk [.slice gR1 (gLp (stO a0 l0 d0 s0 n0 c0 hub0 tip0 (hasT n0 u1) (setSt s0 u1.toNat x2 y2 z2) hub0 tip0) a0).length gc1, .slice gR2 (gLp (stO a0 l0 d0 s0 n0 c0 hub0 tip0 (hasT n0 u1) (setSt s0 u1.toNat x2 y2 z2) hub0 tip0) l0).length gc2, .slice gR3 (gLp (stO a0 l0 d0 s0 n0 c0 hub0 tip0 (hasT n0 u1) (setSt s0 u1.toNat x2 y2 z2) hub0 tip0) d0).length gc3, .slice gR4 (gN (stO a0 l0 d0 s0 n0 c0 hub0 tip0 (hasT n0 u1) (setSt s0 u1.toNat x2 y2 z2) hub0 tip0) n0) gc4, .int .i64 (gC (stO a0 l0 d0 s0 n0 c0 hub0 tip0 (hasT n0 u1) (setSt s0 u1.toNat x2 y2 z2) hub0 tip0) c0), .float .f32 (gN (stO a0 l0 d0 s0 n0 c0 hub0 tip0 (hasT n0 u1) (setSt s0 u1.toNat x2 y2 z2) hub0 tip0) hub0), .float .f32 (gN (stO a0 l0 d0 s0 n0 c0 hub0 tip0 (hasT n0 u1) (setSt s0 u1.toNat x2 y2 z2) hub0 tip0) tip0)]) := Lib.hid (GB_5.out.below b)
          have XM_1 : Hid (OwnT wd11 wd4.heap.size gR1 gR2 gR3 gR4 gg1 gg2 gg3 gg4 (marks 1 (gLp (stO a0 l0 d0 s0 n0 c0 hub0 tip0 (hasT n0 u1) (setSt s0 u1.toNat x2 y2 z2) hub0 tip0) a0).length) (marks (1 + (gLp (stO a0 l0 d0 s0 n0 c0 hub0 tip0 (hasT n0 u1) (setSt s0 u1.toNat x2 y2 z2) hub0 tip0) a0).length) (gLp (stO a0 l0 d0 s0 n0 c0 hub0 tip0 (hasT n0 u1) (setSt s0 u1.toNat x2 y2 z2) hub0 tip0) l0).length) (marks (1 + (gLp (stO a0 l0 d0 s0 n0 c0 hub0 tip0 (hasT n0 u1) (setSt s0 u1.toNat x2 y2 z2) hub0 tip0) a0).length + (gLp (stO a0 l0 d0 s0 n0 c0 hub0 tip0 (hasT n0 u1) (setSt s0 u1.toNat x2 y2 z2) hub0 tip0) l0).length) (gLp (stO a0 l0 d0 s0 n0 c0 hub0 tip0 (hasT n0 u1) (setSt s0 u1.toNat x2 y2 z2) hub0 tip0) d0).length) (marks (1 + (gLp (stO a0 l0 d0 s0 n0 c0 hub0 tip0 (hasT n0 u1) (setSt s0 u1.toNat x2 y2 z2) hub0 tip0) a0).length + (gLp (stO a0 l0 d0 s0 n0 c0 hub0 tip0 (hasT n0 u1) (setSt s0 u1.toNat x2 y2 z2) hub0 tip0) l0).length + (gLp (stO a0 l0 d0 s0 n0 c0 hub0 tip0 (hasT n0 u1) (setSt s0 u1.toNat x2 y2 z2) hub0 tip0) d0).length) ((gN (stO a0 l0 d0 s0 n0 c0 hub0 tip0 (hasT n0 u1) (setSt s0 u1.toNat x2 y2 z2) hub0 tip0) n0) * 3))) := Lib.hid (XM.out.below b)
          clear K0x0 K0x1 K0x2 K0x3 K0x4 K0x5 K0x6 K2x0 K2x1 K2x2 WBx0 WBx1 WBx2 WBx3 WBx4 WBx5 WBx6 V0x0 V0x1 V0x2 V0x3 V0x4 V0x5 V0x6 GBx0 GBx1 GBx2 GBx3 GBx4 GBx5 GBx6
          clear K0_10 K2_10 WB_8 Xc_8 V0_6 GB_5 XM
          clear b
          obtain ⟨K0x0, K0x1, K0x2, K0x3, K0x4, K0x5, K0x6⟩ := K0_11.out.sevenT
          obtain ⟨K2x0, K2x1, K2x2⟩ := K2_11.out.three
          obtain ⟨WBx0, WBx1, WBx2, WBx3, WBx4, WBx5, WBx6⟩ := WB_9.out.sevenT
          obtain ⟨V0x0, V0x1, V0x2, V0x3, V0x4, V0x5, V0x6⟩ := V0_7.out.sevenT
          obtain ⟨GBx0, GBx1, GBx2, GBx3, GBx4, GBx5, GBx6⟩ := GB_6.out.sevenT
          go_wp2_with fail
          clear K0x0 K0x1 K0x2 K0x3 K0x4 K0x5 K0x6 K2x0 K2x1 K2x2 WBx0 WBx1 WBx2 WBx3 WBx4 WBx5 WBx6 V0x0 V0x1 V0x2 V0x3 V0x4 V0x5 V0x6 GBx0 GBx1 GBx2 GBx3 GBx4 GBx5 GBx6
          refine wp_region_inv7B (fun iq wv v => match iq with
            | 0 => v = .agg #[.slice A0 a0.length ca0, .slice L0 l0.length cl0, .slice D0 d0.length cd0, .slice S0 n0 cs0, .int .i64 c0, .float .f32 hub0, .float .f32 tip0]
            | 1 => ∃ q1 q2 q3 q4, v = .agg #[.slice (some ⟨q1, 0, none⟩) a0.length a0.length, .slice (some ⟨q2, 0, none⟩) l0.length l0.length, .slice (some ⟨q3, 0, none⟩) d0.length d0.length, .slice (some ⟨q4, 0, none⟩) n0 n0, .int .i64 c0, .float .f32 hub0, .float .f32 tip0] ∧ OwnT wv wd11.heap.size (some ⟨q1, 0, none⟩) (some ⟨q2, 0, none⟩) (some ⟨q3, 0, none⟩) (some ⟨q4, 0, none⟩) q1 q2 q3 q4 a0 l0 d0 s0
            | 2 => v = .int .i64 u1
            | 3 => v = .agg #[.float .f32 x2, .float .f32 y2, .float .f32 z2]
            | 4 => v = .agg #[.float .f32 x2, .float .f32 y2, .float .f32 z2]
            | 5 => RGiv wd11.heap.size (stO a0 l0 d0 s0 n0 c0 hub0 tip0 (hasT n0 u1) (setSt s0 u1.toNat x2 y2 z2) hub0 tip0) a0 l0 d0 ((setSt s0 u1.toNat x2 y2 z2)) n0 c0 hub0 tip0 wv v
            | 6 => RGiv wd11.heap.size (stO a0 l0 d0 s0 n0 c0 hub0 tip0 (hasT n0 u1) (setSt s0 u1.toNat x2 y2 z2) hub0 tip0) a0 l0 d0 ((setSt s0 u1.toNat x2 y2 z2)) n0 c0 hub0 tip0 wv v
            | 7 => RAgg wd11.heap.size (stO a0 l0 d0 s0 n0 c0 hub0 tip0 (hasT n0 u1) (setSt s0 u1.toNat x2 y2 z2) hub0 tip0) a0 l0 d0 ((setSt s0 u1.toNat x2 y2 z2)) n0 c0 hub0 tip0 wv v
            | 8 => v = .bool (stO a0 l0 d0 s0 n0 c0 hub0 tip0 (hasT n0 u1) (setSt s0 u1.toNat x2 y2 z2) hub0 tip0)
            | 9 => ∃ B, v = .pointer (some ⟨B, 0, none⟩)
            | 10 => True
            | 11 => v = .bool (stO a0 l0 d0 s0 n0 c0 hub0 tip0 (hasT n0 u1) (setSt s0 u1.toNat x2 y2 z2) hub0 tip0)
            | _ => False) (CR wd11 9 10 16 (stO a0 l0 d0 s0 n0 c0 hub0 tip0 (hasT n0 u1) (setSt s0 u1.toNat x2 y2 z2) hub0 tip0) a0 l0 d0 ((setSt s0 u1.toNat x2 y2 z2)) n0 c0 hub0 tip0) (fun wa wb => KO wa wb) ?hmono (by kernel_rfl) (by kernel_rfl) CR.start ?hop ?hend
          case hmono =>
            intro i wa wb v hR hV
            rcases i with _ | _ | _ | _ | _ | _ | _ | _ | _ | _ | _ | _ | i
            · exact hV
            · obtain ⟨q1, q2, q3, q4, rfl, ho⟩ := hV; exact ⟨q1, q2, q3, q4, rfl, ho.ko hR⟩
            · exact hV
            · exact hV
            · exact hV
            · exact hV.ko hR
            · exact hV.ko hR
            · exact hV.ko hR
            · exact hV
            · exact hV
            · exact hV
            · exact hV
            · exact hV
          case hop =>
            intro q o hq listed act w3 hI hCA hnot hcl hall
            have hC := hCA
            have hB := hC.below
            have hlen : listed.size = 12 := hI.len
            obtain ⟨K0x0, K0x1, K0x2, K0x3, K0x4, K0x5, K0x6⟩ := (K0_11.out.below hB).sevenT
            obtain ⟨K2x0, K2x1, K2x2⟩ := (K2_11.out.below hB).three
            obtain ⟨WBx0, WBx1, WBx2, WBx3, WBx4, WBx5, WBx6⟩ := (WB_9.out.below hB).sevenT
            obtain ⟨V0x0, V0x1, V0x2, V0x3, V0x4, V0x5, V0x6⟩ := (V0_7.out.below hB).sevenT
            obtain ⟨GBx0, GBx1, GBx2, GBx3, GBx4, GBx5, GBx6⟩ := (GB_6.out.below hB).sevenT
            rcases q with _ | _ | _ | _ | _ | _ | _ | _ | _ | _ | _ | _ | q
            · simp at hq; subst hq
              have g3 : act.tmps[3]?.getD undef = .pointer (some ⟨w.heap.size, 0, none⟩) := hI.kept 3 (by kernel_rfl)
              clear hI hall hnot hcl
              refine .inl ⟨wanted_none rfl, ?_⟩
              unfold Oper.wp
              go_simp
              all_goals exact ⟨_, rfl, KO.of_below (Below.refl _ _), rfl, CR.step (k := 0) hC hlen (by decide) (by decide) (by decide) 84 (by decide) _ (Below.refl _ _)⟩
            · simp at hq; subst hq
              have g84 : act.tmps[84]?.getD undef = .agg #[.slice A0 a0.length ca0, .slice L0 l0.length cl0, .slice D0 d0.length cd0, .slice S0 n0 cs0, .int .i64 c0, .float .f32 hub0, .float .f32 tip0] := hI.has 0 84 rfl (hall ⟨0, .data⟩ (by simp) rfl)
              clear hI hall hnot hcl
              refine .inl ⟨wanted_none rfl, ?_⟩
              unfold Oper.wp
              go_simp
              refine (l_toRotor A0 L0 D0 S0 ca0 cl0 cd0 n0 cs0 c0 hub0 tip0 a0 l0 d0 s0 _ (HP0.out.below (below_of B11.out B11.out.size hB)) HN0.out).mono ?_
              rintro e w4 ⟨q1, q2, q3, q4, rfl, ho, b4⟩
              exact ⟨_, rfl, KO.of_below b4, ⟨q1, q2, q3, q4, rfl, (OwnR.t ho).baseT (by have := hB.size; omega)⟩, CR.step (k := 1) hC hlen (by decide) (by decide) (by decide) 85 (by decide) _ b4⟩
            · simp at hq; subst hq
              have g1 : act.tmps[1]?.getD undef = .int .i64 u1 := hI.kept 1 (by kernel_rfl)
              clear hI hall hnot hcl
              refine .inl ⟨wanted_none rfl, ?_⟩
              unfold Oper.wp
              go_simp
              all_goals exact ⟨_, rfl, KO.of_below (Below.refl _ _), rfl, CR.step (k := 2) hC hlen (by decide) (by decide) (by decide) 86 (by decide) _ (Below.refl _ _)⟩
            · simp at hq; subst hq
              have g5 : act.tmps[5]?.getD undef = .pointer (some ⟨(w.heap.size + 1), 0, none⟩) := hI.kept 5 (by kernel_rfl)
              clear hI hall hnot hcl
              refine .inl ⟨wanted_none rfl, ?_⟩
              unfold Oper.wp
              go_simp
              all_goals exact ⟨_, rfl, KO.of_below (Below.refl _ _), rfl, CR.step (k := 3) hC hlen (by decide) (by decide) (by decide) 87 (by decide) _ (Below.refl _ _)⟩
            · simp at hq; subst hq
              have g87 : act.tmps[87]?.getD undef = .agg #[.float .f32 x2, .float .f32 y2, .float .f32 z2] := hI.has 3 87 rfl (hall ⟨3, .data⟩ (by simp) rfl)
              clear hI hall hnot hcl
              refine .inl ⟨wanted_none rfl, ?_⟩
              unfold Oper.wp
              go_simp
              refine (l_toStation x2 y2 z2 _).mono ?_
              rintro e w4 ⟨rfl, b4⟩
              exact ⟨_, rfl, KO.of_below b4, rfl, CR.step (k := 4) hC hlen (by decide) (by decide) (by decide) 88 (by decide) _ b4⟩
            · simp at hq; subst hq
              obtain ⟨q11, q21, q31, q41, g85, h1a⟩ := hI.has 1 85 rfl (hall ⟨1, .data⟩ (by simp) rfl)
              have g86 : act.tmps[86]?.getD undef = .int .i64 u1 := hI.has 2 86 rfl (hall ⟨2, .data⟩ (by simp) rfl)
              have g88 : act.tmps[88]?.getD undef = .agg #[.float .f32 x2, .float .f32 y2, .float .f32 z2] := hI.has 4 88 rfl (hall ⟨4, .data⟩ (by simp) rfl)
              clear hI hall hnot hcl
              refine .inl ⟨wanted_none rfl, ?_⟩
              unfold Oper.wp
              go_simp
              refine (i_SetStation _ _ _ _ _ _ _ _ _ _ _ _ a0 l0 d0 s0 u1 x2 y2 z2 _ (OwnT.rt h1a) HN0.out).mono ?_
              rintro e w4 ⟨Ra, Rb, Rc, Rd, da, db, dc, dd, ka, kb, kc, kd, rfl, ho, b4⟩
              exact ⟨_, rfl, KO.of_below b4, RGiv.mk' (ho.baseT (by have := hB.size; omega)), CR.step (k := 5) hC hlen (by decide) (by decide) (by decide) 89 (by decide) _ b4⟩
            · simp at hq; subst hq
              obtain ⟨Ra5, Rb5, Rc5, Rd5, da5, db5, dc5, dd5, ka5, kb5, kc5, kd5, g89, h5a⟩ := hI.has 5 89 rfl (hall ⟨5, .data⟩ (by simp) rfl)
              clear hI hall hnot hcl
              refine .inl ⟨wanted_none rfl, ?_⟩
              unfold Oper.wp
              go_simp
              exact ⟨_, rfl, KO.of_below (Below.refl _ _), RGiv.mk' h5a, CR.step (k := 6) hC hlen (by decide) (by decide) (by decide) 83 (by decide) _ (Below.refl _ _)⟩
            · simp at hq; subst hq
              obtain ⟨Ra6, Rb6, Rc6, Rd6, da6, db6, dc6, dd6, ka6, kb6, kc6, kd6, g83, h6a⟩ := hI.has 6 83 rfl (hall ⟨6, .data⟩ (by simp) rfl)
              clear hI hall hnot hcl
              refine .inl ⟨wanted_none rfl, ?_⟩
              unfold Oper.wp
              go_simp
              exact ⟨_, rfl, KO.of_below (Below.refl _ _), RAgg.mk' h6a, CR.step (k := 7) hC hlen (by decide) (by decide) (by decide) 90 (by decide) _ (Below.refl _ _)⟩
            · simp at hq; subst hq
              obtain ⟨Ra6, Rb6, Rc6, Rd6, da6, db6, dc6, dd6, ka6, kb6, kc6, kd6, g83, h6a⟩ := hI.has 6 83 rfl (hall ⟨6, .data⟩ (by simp) rfl)
              clear hI hall hnot hcl
              refine .inl ⟨wanted_none rfl, ?_⟩
              unfold Oper.wp
              go_simp
              exact ⟨_, rfl, KO.of_below (Below.refl _ _), rfl, CR.step (k := 8) hC hlen (by decide) (by decide) (by decide) 91 (by decide) _ (Below.refl _ _)⟩
            · simp at hq; subst hq
              have hns := hcl.not (j := 10) (i := 9) (e := ⟨9, .data⟩) rfl (by simp) rfl rfl hnot
              have hsz : 16 < act.tmps.size := by rw [show act.tmps.size = 109 from hI.size.trans (by kernel_rfl)]; decide
              clear hI hall hnot hcl
              refine .inl ⟨wanted_none rfl, ?_⟩
              unfold Oper.wp
              go_simp
              exact ⟨_, rfl, KO.of_below ((Below.refl _ _).alloc (Nat.le_refl _) _), ⟨_, rfl⟩, CR.made hC hlen (by decide) (by decide) hns hsz _⟩
            · simp at hq; subst hq
              have G16 := hI.has 9 16 rfl (hall ⟨9, .data⟩ (by simp) rfl)
              obtain ⟨Ra7, Rb7, Rc7, Rd7, da7, db7, dc7, dd7, ka7, kb7, kc7, kd7, g90, h7a⟩ := hI.has 7 90 rfl (hall ⟨7, .data⟩ (by simp) rfl)
              have hal : listed.getD 9 false = true := hall ⟨9, .data⟩ (by simp) rfl
              obtain ⟨B, gB, hlo, hblk⟩ := hC.blk hal hnot
              have gB2 := gB
              rw [Array.getD_eq_getD_getElem?] at gB2
              clear hI hall hnot hcl
              refine .inl ⟨wanted_none rfl, ?_⟩
              unfold Oper.wp
              go_simp
              have p0 := (hblk.2 0 _ rfl).1
              have q0 := (hblk.2 0 _ rfl).2
              have p1 := (hblk.2 1 _ rfl).1
              have q1 := (hblk.2 1 _ rfl).2
              have p2 := (hblk.2 2 _ rfl).1
              have q2 := (hblk.2 2 _ rfl).2
              have p3 := (hblk.2 3 _ rfl).1
              have q3 := (hblk.2 3 _ rfl).2
              have p4 := (hblk.2 4 _ rfl).1
              have q4 := (hblk.2 4 _ rfl).2
              have p5 := (hblk.2 5 _ rfl).1
              have q5 := (hblk.2 5 _ rfl).2
              have p6 := (hblk.2 6 _ rfl).1
              have q6 := (hblk.2 6 _ rfl).2
              go_simp
              have hf := (((((((hblk.set (i := 0) (by simp) (.slice Ra7 (gLp (stO a0 l0 d0 s0 n0 c0 hub0 tip0 (hasT n0 u1) (setSt s0 u1.toNat x2 y2 z2) hub0 tip0) a0).length da7)).set (i := 1) (by simp) (.slice Rb7 (gLp (stO a0 l0 d0 s0 n0 c0 hub0 tip0 (hasT n0 u1) (setSt s0 u1.toNat x2 y2 z2) hub0 tip0) l0).length db7)).set (i := 2) (by simp) (.slice Rc7 (gLp (stO a0 l0 d0 s0 n0 c0 hub0 tip0 (hasT n0 u1) (setSt s0 u1.toNat x2 y2 z2) hub0 tip0) d0).length dc7)).set (i := 3) (by simp) (.slice Rd7 (gN (stO a0 l0 d0 s0 n0 c0 hub0 tip0 (hasT n0 u1) (setSt s0 u1.toNat x2 y2 z2) hub0 tip0) n0) dd7)).set (i := 4) (by simp) (.int .i64 (gC (stO a0 l0 d0 s0 n0 c0 hub0 tip0 (hasT n0 u1) (setSt s0 u1.toNat x2 y2 z2) hub0 tip0) c0))).set (i := 5) (by simp) (.float .f32 (gN (stO a0 l0 d0 s0 n0 c0 hub0 tip0 (hasT n0 u1) (setSt s0 u1.toNat x2 y2 z2) hub0 tip0) hub0))).set (i := 6) (by simp) (.float .f32 (gN (stO a0 l0 d0 s0 n0 c0 hub0 tip0 (hasT n0 u1) (setSt s0 u1.toNat x2 y2 z2) hub0 tip0) tip0)))
              have hk := KO.store7 hblk (.slice Ra7 (gLp (stO a0 l0 d0 s0 n0 c0 hub0 tip0 (hasT n0 u1) (setSt s0 u1.toNat x2 y2 z2) hub0 tip0) a0).length da7) (.slice Rb7 (gLp (stO a0 l0 d0 s0 n0 c0 hub0 tip0 (hasT n0 u1) (setSt s0 u1.toNat x2 y2 z2) hub0 tip0) l0).length db7) (.slice Rc7 (gLp (stO a0 l0 d0 s0 n0 c0 hub0 tip0 (hasT n0 u1) (setSt s0 u1.toNat x2 y2 z2) hub0 tip0) d0).length dc7) (.slice Rd7 (gN (stO a0 l0 d0 s0 n0 c0 hub0 tip0 (hasT n0 u1) (setSt s0 u1.toNat x2 y2 z2) hub0 tip0) n0) dd7) (.int .i64 (gC (stO a0 l0 d0 s0 n0 c0 hub0 tip0 (hasT n0 u1) (setSt s0 u1.toNat x2 y2 z2) hub0 tip0) c0)) (.float .f32 (gN (stO a0 l0 d0 s0 n0 c0 hub0 tip0 (hasT n0 u1) (setSt s0 u1.toNat x2 y2 z2) hub0 tip0) hub0)) (.float .f32 (gN (stO a0 l0 d0 s0 n0 c0 hub0 tip0 (hasT n0 u1) (setSt s0 u1.toNat x2 y2 z2) hub0 tip0) tip0))
              have hbb := (((((((hC.below.setCell (p := ⟨B, 0, none⟩) hlo (.slice Ra7 (gLp (stO a0 l0 d0 s0 n0 c0 hub0 tip0 (hasT n0 u1) (setSt s0 u1.toNat x2 y2 z2) hub0 tip0) a0).length da7)).setCell (p := ⟨B, 1, none⟩) hlo (.slice Rb7 (gLp (stO a0 l0 d0 s0 n0 c0 hub0 tip0 (hasT n0 u1) (setSt s0 u1.toNat x2 y2 z2) hub0 tip0) l0).length db7)).setCell (p := ⟨B, 2, none⟩) hlo (.slice Rc7 (gLp (stO a0 l0 d0 s0 n0 c0 hub0 tip0 (hasT n0 u1) (setSt s0 u1.toNat x2 y2 z2) hub0 tip0) d0).length dc7)).setCell (p := ⟨B, 3, none⟩) hlo (.slice Rd7 (gN (stO a0 l0 d0 s0 n0 c0 hub0 tip0 (hasT n0 u1) (setSt s0 u1.toNat x2 y2 z2) hub0 tip0) n0) dd7)).setCell (p := ⟨B, 4, none⟩) hlo (.int .i64 (gC (stO a0 l0 d0 s0 n0 c0 hub0 tip0 (hasT n0 u1) (setSt s0 u1.toNat x2 y2 z2) hub0 tip0) c0))).setCell (p := ⟨B, 5, none⟩) hlo (.float .f32 (gN (stO a0 l0 d0 s0 n0 c0 hub0 tip0 (hasT n0 u1) (setSt s0 u1.toNat x2 y2 z2) hub0 tip0) hub0))).setCell (p := ⟨B, 6, none⟩) hlo (.float .f32 (gN (stO a0 l0 d0 s0 n0 c0 hub0 tip0 (hasT n0 u1) (setSt s0 u1.toNat x2 y2 z2) hub0 tip0) tip0)))
              have hcm := CR.stored hC hlen (by decide) hbb ⟨B, Ra7, Rb7, Rc7, Rd7, da7, db7, dc7, dd7, ka7, kb7, kc7, kd7, gB, hlo, hf, h7a.ko hk⟩ undef
              first | exact ⟨hk, trivial, hcm⟩ | exact ⟨hk, hcm⟩
            · simp at hq; subst hq
              have g91 : act.tmps[91]?.getD undef = .bool (stO a0 l0 d0 s0 n0 c0 hub0 tip0 (hasT n0 u1) (setSt s0 u1.toNat x2 y2 z2) hub0 tip0) := hI.has 8 91 rfl (hall ⟨8, .data⟩ (by simp) rfl)
              clear hI hall hnot hcl
              refine .inl ⟨wanted_none rfl, ?_⟩
              unfold Oper.wp
              go_simp
              all_goals exact ⟨_, rfl, KO.of_below (Below.refl _ _), rfl, CR.step (k := 11) hC hlen (by decide) (by decide) (by decide) 17 (by decide) _ (Below.refl _ _)⟩
            · simp at hq
          case hend =>
            intro listed act w3 hI hCA hall
            have hC := hCA
            have hB := hC.below
            have hlen : listed.size = 12 := hI.len
            obtain ⟨K0x0, K0x1, K0x2, K0x3, K0x4, K0x5, K0x6⟩ := (K0_11.out.below hB).sevenT
            obtain ⟨K2x0, K2x1, K2x2⟩ := (K2_11.out.below hB).three
            obtain ⟨WBx0, WBx1, WBx2, WBx3, WBx4, WBx5, WBx6⟩ := (WB_9.out.below hB).sevenT
            obtain ⟨V0x0, V0x1, V0x2, V0x3, V0x4, V0x5, V0x6⟩ := (V0_7.out.below hB).sevenT
            obtain ⟨GBx0, GBx1, GBx2, GBx3, GBx4, GBx5, GBx6⟩ := (GB_6.out.below hB).sevenT
            obtain ⟨hBk, hR1, hR2, hR3, hR4, hc1, hc2, hc3, hc4, hg1, hg2, hg3, hg4, g16, hlo, hblk, hown⟩ := hC.fin (hall 10 (by decide))
            rw [Array.getD_eq_getD_getElem?] at g16
            have g17 : act.tmps[17]?.getD undef = .bool (stO a0 l0 d0 s0 n0 c0 hub0 tip0 (hasT n0 u1) (setSt s0 u1.toNat x2 y2 z2) hub0 tip0) := hI.has 11 17 rfl (hall 11 (by decide))
            have g0 := hI.kept 0 (by kernel_rfl)
            conv at g0 => rhs; whnf
            have g1 := hI.kept 1 (by kernel_rfl)
            conv at g1 => rhs; whnf
            have g2 := hI.kept 2 (by kernel_rfl)
            conv at g2 => rhs; whnf
            have g3 := hI.kept 3 (by kernel_rfl)
            conv at g3 => rhs; whnf
            have g4 : act.tmps[4]?.getD undef = undef := hI.kept 4 (by kernel_rfl)
            have g5 := hI.kept 5 (by kernel_rfl)
            conv at g5 => rhs; whnf
            have g6 := hI.kept 6 (by kernel_rfl)
            conv at g6 => rhs; whnf
            have g7 := hI.kept 7 (by kernel_rfl)
            conv at g7 => rhs; whnf
            have g8 := hI.kept 8 (by kernel_rfl)
            conv at g8 => rhs; whnf
            have g9 := hI.kept 9 (by kernel_rfl)
            conv at g9 => rhs; whnf
            have g10 := hI.kept 10 (by kernel_rfl)
            conv at g10 => rhs; whnf
            have g11 := hI.kept 11 (by kernel_rfl)
            conv at g11 => rhs; whnf
            have g12 := hI.kept 12 (by kernel_rfl)
            conv at g12 => rhs; whnf
            have g13 := hI.kept 13 (by kernel_rfl)
            conv at g13 => rhs; whnf
            have g14 := hI.kept 14 (by kernel_rfl)
            conv at g14 => rhs; whnf
            have g15 := hI.kept 15 (by kernel_rfl)
            conv at g15 => rhs; whnf
            have g18 := hI.kept 18 (by kernel_rfl)
            conv at g18 => rhs; whnf
            have g19 := hI.kept 19 (by kernel_rfl)
            conv at g19 => rhs; whnf
            have g20 := hI.kept 20 (by kernel_rfl)
            conv at g20 => rhs; whnf
            have g21 := hI.kept 21 (by kernel_rfl)
            conv at g21 => rhs; whnf
            have g22 := hI.kept 22 (by kernel_rfl)
            conv at g22 => rhs; whnf
            have g23 := hI.kept 23 (by kernel_rfl)
            conv at g23 => rhs; whnf
            have g24 := hI.kept 24 (by kernel_rfl)
            conv at g24 => rhs; whnf
            have g25 := hI.kept 25 (by kernel_rfl)
            conv at g25 => rhs; whnf
            have g26 := hI.kept 26 (by kernel_rfl)
            conv at g26 => rhs; whnf
            have g27 := hI.kept 27 (by kernel_rfl)
            conv at g27 => rhs; whnf
            have g28 := hI.kept 28 (by kernel_rfl)
            conv at g28 => rhs; whnf
            have g29 := hI.kept 29 (by kernel_rfl)
            conv at g29 => rhs; whnf
            have g30 := hI.kept 30 (by kernel_rfl)
            conv at g30 => rhs; whnf
            have g31 := hI.kept 31 (by kernel_rfl)
            conv at g31 => rhs; whnf
            have g32 := hI.kept 32 (by kernel_rfl)
            conv at g32 => rhs; whnf
            have g33 := hI.kept 33 (by kernel_rfl)
            conv at g33 => rhs; whnf
            have g34 := hI.kept 34 (by kernel_rfl)
            conv at g34 => rhs; whnf
            have g35 := hI.kept 35 (by kernel_rfl)
            conv at g35 => rhs; whnf
            have g36 := hI.kept 36 (by kernel_rfl)
            conv at g36 => rhs; whnf
            have g37 := hI.kept 37 (by kernel_rfl)
            conv at g37 => rhs; whnf
            have g38 := hI.kept 38 (by kernel_rfl)
            conv at g38 => rhs; whnf
            have g39 := hI.kept 39 (by kernel_rfl)
            conv at g39 => rhs; whnf
            have g40 := hI.kept 40 (by kernel_rfl)
            conv at g40 => rhs; whnf
            have g41 := hI.kept 41 (by kernel_rfl)
            conv at g41 => rhs; whnf
            have g42 := hI.kept 42 (by kernel_rfl)
            conv at g42 => rhs; whnf
            have g43 := hI.kept 43 (by kernel_rfl)
            conv at g43 => rhs; whnf
            have g44 := hI.kept 44 (by kernel_rfl)
            conv at g44 => rhs; whnf
            have g45 := hI.kept 45 (by kernel_rfl)
            conv at g45 => rhs; whnf
            have g46 := hI.kept 46 (by kernel_rfl)
            conv at g46 => rhs; whnf
            have g47 := hI.kept 47 (by kernel_rfl)
            conv at g47 => rhs; whnf
            have g48 := hI.kept 48 (by kernel_rfl)
            conv at g48 => rhs; whnf
            have g49 := hI.kept 49 (by kernel_rfl)
            conv at g49 => rhs; whnf
            have g50 := hI.kept 50 (by kernel_rfl)
            conv at g50 => rhs; whnf
            have g51 := hI.kept 51 (by kernel_rfl)
            conv at g51 => rhs; whnf
            have g52 := hI.kept 52 (by kernel_rfl)
            conv at g52 => rhs; whnf
            have g53 := hI.kept 53 (by kernel_rfl)
            conv at g53 => rhs; whnf
            have g54 := hI.kept 54 (by kernel_rfl)
            conv at g54 => rhs; whnf
            have g55 := hI.kept 55 (by kernel_rfl)
            conv at g55 => rhs; whnf
            have g56 := hI.kept 56 (by kernel_rfl)
            conv at g56 => rhs; whnf
            have g57 := hI.kept 57 (by kernel_rfl)
            conv at g57 => rhs; whnf
            have g58 := hI.kept 58 (by kernel_rfl)
            conv at g58 => rhs; whnf
            have g59 := hI.kept 59 (by kernel_rfl)
            conv at g59 => rhs; whnf
            have g60 := hI.kept 60 (by kernel_rfl)
            conv at g60 => rhs; whnf
            have g61 := hI.kept 61 (by kernel_rfl)
            conv at g61 => rhs; whnf
            have g62 := hI.kept 62 (by kernel_rfl)
            conv at g62 => rhs; whnf
            have g63 := hI.kept 63 (by kernel_rfl)
            conv at g63 => rhs; whnf
            have g64 := hI.kept 64 (by kernel_rfl)
            conv at g64 => rhs; whnf
            have g65 := hI.kept 65 (by kernel_rfl)
            conv at g65 => rhs; whnf
            have g66 := hI.kept 66 (by kernel_rfl)
            conv at g66 => rhs; whnf
            have g67 := hI.kept 67 (by kernel_rfl)
            conv at g67 => rhs; whnf
            have g68 := hI.kept 68 (by kernel_rfl)
            conv at g68 => rhs; whnf
            have g69 := hI.kept 69 (by kernel_rfl)
            conv at g69 => rhs; whnf
            have g70 := hI.kept 70 (by kernel_rfl)
            conv at g70 => rhs; whnf
            have g71 := hI.kept 71 (by kernel_rfl)
            conv at g71 => rhs; whnf
            have g72 := hI.kept 72 (by kernel_rfl)
            conv at g72 => rhs; whnf
            have g73 := hI.kept 73 (by kernel_rfl)
            conv at g73 => rhs; whnf
            have g74 := hI.kept 74 (by kernel_rfl)
            conv at g74 => rhs; whnf
            have g75 := hI.kept 75 (by kernel_rfl)
            conv at g75 => rhs; whnf
            have g76 := hI.kept 76 (by kernel_rfl)
            conv at g76 => rhs; whnf
            have g77 := hI.kept 77 (by kernel_rfl)
            conv at g77 => rhs; whnf
            have g78 := hI.kept 78 (by kernel_rfl)
            conv at g78 => rhs; whnf
            have g79 := hI.kept 79 (by kernel_rfl)
            conv at g79 => rhs; whnf
            have g80 := hI.kept 80 (by kernel_rfl)
            conv at g80 => rhs; whnf
            have g81 := hI.kept 81 (by kernel_rfl)
            conv at g81 => rhs; whnf
            have g82 := hI.kept 82 (by kernel_rfl)
            conv at g82 => rhs; whnf
            have g92 : act.tmps[92]?.getD undef = undef := hI.kept 92 (by kernel_rfl)
            have g93 : act.tmps[93]?.getD undef = undef := hI.kept 93 (by kernel_rfl)
            have g94 : act.tmps[94]?.getD undef = undef := hI.kept 94 (by kernel_rfl)
            have g95 : act.tmps[95]?.getD undef = undef := hI.kept 95 (by kernel_rfl)
            have g96 : act.tmps[96]?.getD undef = undef := hI.kept 96 (by kernel_rfl)
            have g97 : act.tmps[97]?.getD undef = undef := hI.kept 97 (by kernel_rfl)
            have g98 : act.tmps[98]?.getD undef = undef := hI.kept 98 (by kernel_rfl)
            have g99 : act.tmps[99]?.getD undef = undef := hI.kept 99 (by kernel_rfl)
            have g100 : act.tmps[100]?.getD undef = undef := hI.kept 100 (by kernel_rfl)
            have g101 : act.tmps[101]?.getD undef = undef := hI.kept 101 (by kernel_rfl)
            have g102 : act.tmps[102]?.getD undef = undef := hI.kept 102 (by kernel_rfl)
            have g103 : act.tmps[103]?.getD undef = undef := hI.kept 103 (by kernel_rfl)
            have g104 : act.tmps[104]?.getD undef = undef := hI.kept 104 (by kernel_rfl)
            have g105 : act.tmps[105]?.getD undef = undef := hI.kept 105 (by kernel_rfl)
            have g106 : act.tmps[106]?.getD undef = undef := hI.kept 106 (by kernel_rfl)
            have g107 : act.tmps[107]?.getD undef = undef := hI.kept 107 (by kernel_rfl)
            have g108 : act.tmps[108]?.getD undef = undef := hI.kept 108 (by kernel_rfl)
            have hsz : act.tmps.size = 109 := hI.size.trans (by kernel_rfl)
            have hd := hI.defers
            clear hI hall hC hCA hlen K0x0 K0x1 K0x2 K0x3 K0x4 K0x5 K0x6 K2x0 K2x1 K2x2 WBx0 WBx1 WBx2 WBx3 WBx4 WBx5 WBx6 V0x0 V0x1 V0x2 V0x3 V0x4 V0x5 V0x6 GBx0 GBx1 GBx2 GBx3 GBx4 GBx5 GBx6
            obtain ⟨tt, dd⟩ := act
            simp only at g0 g1 g2 g3 g4 g5 g6 g7 g8 g9 g10 g11 g12 g13 g14 g15 g16 g17 g18 g19 g20 g21 g22 g23 g24 g25 g26 g27 g28 g29 g30 g31 g32 g33 g34 g35 g36 g37 g38 g39 g40 g41 g42 g43 g44 g45 g46 g47 g48 g49 g50 g51 g52 g53 g54 g55 g56 g57 g58 g59 g60 g61 g62 g63 g64 g65 g66 g67 g68 g69 g70 g71 g72 g73 g74 g75 g76 g77 g78 g79 g80 g81 g82 g92 g93 g94 g95 g96 g97 g98 g99 g100 g101 g102 g103 g104 g105 g106 g107 g108 hsz hd
            subst hd
            have hl : tt = #[tt[0]?.getD undef, tt[1]?.getD undef, tt[2]?.getD undef, tt[3]?.getD undef, tt[4]?.getD undef, tt[5]?.getD undef, tt[6]?.getD undef, tt[7]?.getD undef, tt[8]?.getD undef, tt[9]?.getD undef, tt[10]?.getD undef, tt[11]?.getD undef, tt[12]?.getD undef, tt[13]?.getD undef, tt[14]?.getD undef, tt[15]?.getD undef, tt[16]?.getD undef, tt[17]?.getD undef, tt[18]?.getD undef, tt[19]?.getD undef, tt[20]?.getD undef, tt[21]?.getD undef, tt[22]?.getD undef, tt[23]?.getD undef, tt[24]?.getD undef, tt[25]?.getD undef, tt[26]?.getD undef, tt[27]?.getD undef, tt[28]?.getD undef, tt[29]?.getD undef, tt[30]?.getD undef, tt[31]?.getD undef, tt[32]?.getD undef, tt[33]?.getD undef, tt[34]?.getD undef, tt[35]?.getD undef, tt[36]?.getD undef, tt[37]?.getD undef, tt[38]?.getD undef, tt[39]?.getD undef, tt[40]?.getD undef, tt[41]?.getD undef, tt[42]?.getD undef, tt[43]?.getD undef, tt[44]?.getD undef, tt[45]?.getD undef, tt[46]?.getD undef, tt[47]?.getD undef, tt[48]?.getD undef, tt[49]?.getD undef, tt[50]?.getD undef, tt[51]?.getD undef, tt[52]?.getD undef, tt[53]?.getD undef, tt[54]?.getD undef, tt[55]?.getD undef, tt[56]?.getD undef, tt[57]?.getD undef, tt[58]?.getD undef, tt[59]?.getD undef, tt[60]?.getD undef, tt[61]?.getD undef, tt[62]?.getD undef, tt[63]?.getD undef, tt[64]?.getD undef, tt[65]?.getD undef, tt[66]?.getD undef, tt[67]?.getD undef, tt[68]?.getD undef, tt[69]?.getD undef, tt[70]?.getD undef, tt[71]?.getD undef, tt[72]?.getD undef, tt[73]?.getD undef, tt[74]?.getD undef, tt[75]?.getD undef, tt[76]?.getD undef, tt[77]?.getD undef, tt[78]?.getD undef, tt[79]?.getD undef, tt[80]?.getD undef, tt[81]?.getD undef, tt[82]?.getD undef, tt[83]?.getD undef, tt[84]?.getD undef, tt[85]?.getD undef, tt[86]?.getD undef, tt[87]?.getD undef, tt[88]?.getD undef, tt[89]?.getD undef, tt[90]?.getD undef, tt[91]?.getD undef, tt[92]?.getD undef, tt[93]?.getD undef, tt[94]?.getD undef, tt[95]?.getD undef, tt[96]?.getD undef, tt[97]?.getD undef, tt[98]?.getD undef, tt[99]?.getD undef, tt[100]?.getD undef, tt[101]?.getD undef, tt[102]?.getD undef, tt[103]?.getD undef, tt[104]?.getD undef, tt[105]?.getD undef, tt[106]?.getD undef, tt[107]?.getD undef, tt[108]?.getD undef] := (arr_lit hsz).trans rfl
            rw [g0, g1, g2, g3, g4, g5, g6, g7, g8, g9, g10, g11, g12, g13, g14, g15, g16, g17, g18, g19, g20, g21, g22, g23, g24, g25, g26, g27, g28, g29, g30, g31, g32, g33, g34, g35, g36, g37, g38, g39, g40, g41, g42, g43, g44, g45, g46, g47, g48, g49, g50, g51, g52, g53, g54, g55, g56, g57, g58, g59, g60, g61, g62, g63, g64, g65, g66, g67, g68, g69, g70, g71, g72, g73, g74, g75, g76, g77, g78, g79, g80, g81, g82, g92, g93, g94, g95, g96, g97, g98, g99, g100, g101, g102, g103, g104, g105, g106, g107, g108] at hl
            clear g0 g1 g2 g3 g4 g5 g6 g7 g8 g9 g10 g11 g12 g13 g14 g15 g16 g17 g18 g19 g20 g21 g22 g23 g24 g25 g26 g27 g28 g29 g30 g31 g32 g33 g34 g35 g36 g37 g38 g39 g40 g41 g42 g43 g44 g45 g46 g47 g48 g49 g50 g51 g52 g53 g54 g55 g56 g57 g58 g59 g60 g61 g62 g63 g64 g65 g66 g67 g68 g69 g70 g71 g72 g73 g74 g75 g76 g77 g78 g79 g80 g81 g82 g92 g93 g94 g95 g96 g97 g98 g99 g100 g101 g102 g103 g104 g105 g106 g107 g108 hsz
            generalize tt[83]?.getD undef = y83 at hl
            generalize tt[84]?.getD undef = y84 at hl
            generalize tt[85]?.getD undef = y85 at hl
            generalize tt[86]?.getD undef = y86 at hl
            generalize tt[87]?.getD undef = y87 at hl
            generalize tt[88]?.getD undef = y88 at hl
            generalize tt[89]?.getD undef = y89 at hl
            generalize tt[90]?.getD undef = y90 at hl
            generalize tt[91]?.getD undef = y91 at hl
            subst hl
            obtain ⟨wd12, hww⟩ : ∃ x, x = w3 := ⟨_, rfl⟩
            rw [← hww] at hB hblk hown ⊢
            clear hww
            have B12 : Hid (Below w.heap.size w wd12) := Lib.hid (below_of B11.out B11.out.size hB)
            have Z12 : Hid (wd11.heap.size ≤ wd12.heap.size) := Lib.hid hB.size
            have K0_12 : Hid (BlkL wd12 (w.heap.size) [.slice A0 a0.length ca0, .slice L0 l0.length cl0, .slice D0 d0.length cd0, .slice S0 n0 cs0, .int .i64 c0, .float .f32 hub0, .float .f32 tip0]) := Lib.hid (K0_11.out.below hB)
            have K2_12 : Hid (BlkL wd12 (w.heap.size + 1) [.float .f32 x2, .float .f32 y2, .float .f32 z2]) := Lib.hid (K2_11.out.below hB)
            have WB_10 : Hid (BlkL wd12 cBk [.slice cR1 (gLp (stO a0 l0 d0 s0 n0 c0 hub0 tip0 (hasT n0 u1) (setSt s0 u1.toNat x2 y2 z2) hub0 tip0) a0).length cc1, .slice cR2 (gLp (stO a0 l0 d0 s0 n0 c0 hub0 tip0 (hasT n0 u1) (setSt s0 u1.toNat x2 y2 z2) hub0 tip0) l0).length cc2, .slice cR3 (gLp (stO a0 l0 d0 s0 n0 c0 hub0 tip0 (hasT n0 u1) (setSt s0 u1.toNat x2 y2 z2) hub0 tip0) d0).length cc3, .slice cR4 (gN (stO a0 l0 d0 s0 n0 c0 hub0 tip0 (hasT n0 u1) (setSt s0 u1.toNat x2 y2 z2) hub0 tip0) n0) cc4, .int .i64 (gC (stO a0 l0 d0 s0 n0 c0 hub0 tip0 (hasT n0 u1) (setSt s0 u1.toNat x2 y2 z2) hub0 tip0) c0), .float .f32 (gN (stO a0 l0 d0 s0 n0 c0 hub0 tip0 (hasT n0 u1) (setSt s0 u1.toNat x2 y2 z2) hub0 tip0) hub0), .float .f32 (gN (stO a0 l0 d0 s0 n0 c0 hub0 tip0 (hasT n0 u1) (setSt s0 u1.toNat x2 y2 z2) hub0 tip0) tip0)]) := Lib.hid (WB_9.out.below hB)
            have Xc_10 : Hid (OwnT wd12 wd1.heap.size cR1 cR2 cR3 cR4 cg1 cg2 cg3 cg4 (gLp (stO a0 l0 d0 s0 n0 c0 hub0 tip0 (hasT n0 u1) (setSt s0 u1.toNat x2 y2 z2) hub0 tip0) a0) (gLp (stO a0 l0 d0 s0 n0 c0 hub0 tip0 (hasT n0 u1) (setSt s0 u1.toNat x2 y2 z2) hub0 tip0) l0) (gLp (stO a0 l0 d0 s0 n0 c0 hub0 tip0 (hasT n0 u1) (setSt s0 u1.toNat x2 y2 z2) hub0 tip0) d0) (gLp (stO a0 l0 d0 s0 n0 c0 hub0 tip0 (hasT n0 u1) (setSt s0 u1.toNat x2 y2 z2) hub0 tip0) (setSt s0 u1.toNat x2 y2 z2))) := Lib.hid (Xc_9.out.below hB)
            have V0_8 : Hid (BlkL wd12 (wd3.heap.size) [.slice (some ⟨x01, 0, none⟩) a0.length a0.length, .slice (some ⟨x02, 0, none⟩) l0.length l0.length, .slice (some ⟨x03, 0, none⟩) d0.length d0.length, .slice (some ⟨x04, 0, none⟩) n0 n0, .int .i64 c0, .float .f32 hub0, .float .f32 tip0]) := Lib.hid (V0_7.out.below hB)
            have GB_7 : Hid (BlkL wd12 gBk [.slice gR1 (gLp (stO a0 l0 d0 s0 n0 c0 hub0 tip0 (hasT n0 u1) (setSt s0 u1.toNat x2 y2 z2) hub0 tip0) a0).length gc1, .slice gR2 (gLp (stO a0 l0 d0 s0 n0 c0 hub0 tip0 (hasT n0 u1) (setSt s0 u1.toNat x2 y2 z2) hub0 tip0) l0).length gc2, .slice gR3 (gLp (stO a0 l0 d0 s0 n0 c0 hub0 tip0 (hasT n0 u1) (setSt s0 u1.toNat x2 y2 z2) hub0 tip0) d0).length gc3, .slice gR4 (gN (stO a0 l0 d0 s0 n0 c0 hub0 tip0 (hasT n0 u1) (setSt s0 u1.toNat x2 y2 z2) hub0 tip0) n0) gc4, .int .i64 (gC (stO a0 l0 d0 s0 n0 c0 hub0 tip0 (hasT n0 u1) (setSt s0 u1.toNat x2 y2 z2) hub0 tip0) c0), .float .f32 (gN (stO a0 l0 d0 s0 n0 c0 hub0 tip0 (hasT n0 u1) (setSt s0 u1.toNat x2 y2 z2) hub0 tip0) hub0), .float .f32 (gN (stO a0 l0 d0 s0 n0 c0 hub0 tip0 (hasT n0 u1) (setSt s0 u1.toNat x2 y2 z2) hub0 tip0) tip0)]) := Lib.hid (GB_6.out.below hB)
            have XM_2 : Hid (OwnT wd12 wd4.heap.size gR1 gR2 gR3 gR4 gg1 gg2 gg3 gg4 (marks 1 (gLp (stO a0 l0 d0 s0 n0 c0 hub0 tip0 (hasT n0 u1) (setSt s0 u1.toNat x2 y2 z2) hub0 tip0) a0).length) (marks (1 + (gLp (stO a0 l0 d0 s0 n0 c0 hub0 tip0 (hasT n0 u1) (setSt s0 u1.toNat x2 y2 z2) hub0 tip0) a0).length) (gLp (stO a0 l0 d0 s0 n0 c0 hub0 tip0 (hasT n0 u1) (setSt s0 u1.toNat x2 y2 z2) hub0 tip0) l0).length) (marks (1 + (gLp (stO a0 l0 d0 s0 n0 c0 hub0 tip0 (hasT n0 u1) (setSt s0 u1.toNat x2 y2 z2) hub0 tip0) a0).length + (gLp (stO a0 l0 d0 s0 n0 c0 hub0 tip0 (hasT n0 u1) (setSt s0 u1.toNat x2 y2 z2) hub0 tip0) l0).length) (gLp (stO a0 l0 d0 s0 n0 c0 hub0 tip0 (hasT n0 u1) (setSt s0 u1.toNat x2 y2 z2) hub0 tip0) d0).length) (marks (1 + (gLp (stO a0 l0 d0 s0 n0 c0 hub0 tip0 (hasT n0 u1) (setSt s0 u1.toNat x2 y2 z2) hub0 tip0) a0).length + (gLp (stO a0 l0 d0 s0 n0 c0 hub0 tip0 (hasT n0 u1) (setSt s0 u1.toNat x2 y2 z2) hub0 tip0) l0).length + (gLp (stO a0 l0 d0 s0 n0 c0 hub0 tip0 (hasT n0 u1) (setSt s0 u1.toNat x2 y2 z2) hub0 tip0) d0).length) ((gN (stO a0 l0 d0 s0 n0 c0 hub0 tip0 (hasT n0 u1) (setSt s0 u1.toNat x2 y2 z2) hub0 tip0) n0) * 3))) := Lib.hid (XM_1.out.below hB)
            clear K0_11 K2_11 WB_9 Xc_9 V0_7 GB_6 XM_1
            clear hB
            have Y12 : Hid (hBk < wd12.heap.size ∧ wd11.heap.size ≤ hBk) := Lib.hid ⟨hblk.1, hlo⟩
            have HB : Hid (BlkL wd12 hBk [.slice hR1 (gLp (stO a0 l0 d0 s0 n0 c0 hub0 tip0 (hasT n0 u1) (setSt s0 u1.toNat x2 y2 z2) hub0 tip0) a0).length hc1, .slice hR2 (gLp (stO a0 l0 d0 s0 n0 c0 hub0 tip0 (hasT n0 u1) (setSt s0 u1.toNat x2 y2 z2) hub0 tip0) l0).length hc2, .slice hR3 (gLp (stO a0 l0 d0 s0 n0 c0 hub0 tip0 (hasT n0 u1) (setSt s0 u1.toNat x2 y2 z2) hub0 tip0) d0).length hc3, .slice hR4 (gN (stO a0 l0 d0 s0 n0 c0 hub0 tip0 (hasT n0 u1) (setSt s0 u1.toNat x2 y2 z2) hub0 tip0) n0) hc4, .int .i64 (gC (stO a0 l0 d0 s0 n0 c0 hub0 tip0 (hasT n0 u1) (setSt s0 u1.toNat x2 y2 z2) hub0 tip0) c0), .float .f32 (gN (stO a0 l0 d0 s0 n0 c0 hub0 tip0 (hasT n0 u1) (setSt s0 u1.toNat x2 y2 z2) hub0 tip0) hub0), .float .f32 (gN (stO a0 l0 d0 s0 n0 c0 hub0 tip0 (hasT n0 u1) (setSt s0 u1.toNat x2 y2 z2) hub0 tip0) tip0)]) := Lib.hid (hblk)
            have Xh : Hid (OwnT wd12 wd11.heap.size hR1 hR2 hR3 hR4 hg1 hg2 hg3 hg4 (gLp (stO a0 l0 d0 s0 n0 c0 hub0 tip0 (hasT n0 u1) (setSt s0 u1.toNat x2 y2 z2) hub0 tip0) a0) (gLp (stO a0 l0 d0 s0 n0 c0 hub0 tip0 (hasT n0 u1) (setSt s0 u1.toNat x2 y2 z2) hub0 tip0) l0) (gLp (stO a0 l0 d0 s0 n0 c0 hub0 tip0 (hasT n0 u1) (setSt s0 u1.toNat x2 y2 z2) hub0 tip0) d0) (gLp (stO a0 l0 d0 s0 n0 c0 hub0 tip0 (hasT n0 u1) (setSt s0 u1.toNat x2 y2 z2) hub0 tip0) (setSt s0 u1.toNat x2 y2 z2))) := Lib.hid (hown)
            have Xhbd := Xh
            have XhNE := Lib.hid (Xh.out.apart HB.out)
            clear hblk hown hlo
            obtain ⟨K0x0, K0x1, K0x2, K0x3, K0x4, K0x5, K0x6⟩ := K0_12.out.sevenT
            obtain ⟨K2x0, K2x1, K2x2⟩ := K2_12.out.three
            obtain ⟨WBx0, WBx1, WBx2, WBx3, WBx4, WBx5, WBx6⟩ := WB_10.out.sevenT
            obtain ⟨V0x0, V0x1, V0x2, V0x3, V0x4, V0x5, V0x6⟩ := V0_8.out.sevenT
            obtain ⟨GBx0, GBx1, GBx2, GBx3, GBx4, GBx5, GBx6⟩ := GB_7.out.sevenT
            obtain ⟨HBx0, HBx1, HBx2, HBx3, HBx4, HBx5, HBx6⟩ := HB.out.sevenT
            go_wp2_with fail
            refine (l_eqRotor _ _ _ _ _ _ _ _ _ _ _ _ _ _ _ _ _ _ _ _ (gLp (stO a0 l0 d0 s0 n0 c0 hub0 tip0 (hasT n0 u1) (setSt s0 u1.toNat x2 y2 z2) hub0 tip0) a0) (gLp (stO a0 l0 d0 s0 n0 c0 hub0 tip0 (hasT n0 u1) (setSt s0 u1.toNat x2 y2 z2) hub0 tip0) l0) (gLp (stO a0 l0 d0 s0 n0 c0 hub0 tip0 (hasT n0 u1) (setSt s0 u1.toNat x2 y2 z2) hub0 tip0) d0) (gLp (stO a0 l0 d0 s0 n0 c0 hub0 tip0 (hasT n0 u1) (setSt s0 u1.toNat x2 y2 z2) hub0 tip0) (setSt s0 u1.toNat x2 y2 z2)) _ Xh.out.rt Xc_10.out.rt HF.out).mono ?_
            rintro e wd13 ⟨rfl, b⟩
            have B13 : Hid (Below w.heap.size w wd13) := Lib.hid (below_of B12.out B12.out.size b)
            have Z13 : Hid (wd12.heap.size ≤ wd13.heap.size) := Lib.hid b.size
            have K0_13 : Hid (BlkL wd13 (w.heap.size) [.slice A0 a0.length ca0, .slice L0 l0.length cl0, .slice D0 d0.length cd0, .slice S0 n0 cs0, .int .i64 c0, .float .f32 hub0, .float .f32 tip0]) := Lib.hid (K0_12.out.below b)
            have K2_13 : Hid (BlkL wd13 (w.heap.size + 1) [.float .f32 x2, .float .f32 y2, .float .f32 z2]) := Lib.hid (K2_12.out.below b)
            have WB_11 : Hid (BlkL wd13 cBk [.slice cR1 (gLp (stO a0 l0 d0 s0 n0 c0 hub0 tip0 (hasT n0 u1) (setSt s0 u1.toNat x2 y2 z2) hub0 tip0) a0).length cc1, .slice cR2 (gLp (stO a0 l0 d0 s0 n0 c0 hub0 tip0 (hasT n0 u1) (setSt s0 u1.toNat x2 y2 z2) hub0 tip0) l0).length cc2, .slice cR3 (gLp (stO a0 l0 d0 s0 n0 c0 hub0 tip0 (hasT n0 u1) (setSt s0 u1.toNat x2 y2 z2) hub0 tip0) d0).length cc3, .slice cR4 (gN (stO a0 l0 d0 s0 n0 c0 hub0 tip0 (hasT n0 u1) (setSt s0 u1.toNat x2 y2 z2) hub0 tip0) n0) cc4, .int .i64 (gC (stO a0 l0 d0 s0 n0 c0 hub0 tip0 (hasT n0 u1) (setSt s0 u1.toNat x2 y2 z2) hub0 tip0) c0), .float .f32 (gN (stO a0 l0 d0 s0 n0 c0 hub0 tip0 (hasT n0 u1) (setSt s0 u1.toNat x2 y2 z2) hub0 tip0) hub0), .float .f32 (gN (stO a0 l0 d0 s0 n0 c0 hub0 tip0 (hasT n0 u1) (setSt s0 u1.toNat x2 y2 z2) hub0 tip0) tip0)]) := Lib.hid (WB_10.out.below b)
            have Xc_11 : Hid (OwnT wd13 wd1.heap.size cR1 cR2 cR3 cR4 cg1 cg2 cg3 cg4 (gLp (stO a0 l0 d0 s0 n0 c0 hub0 tip0 (hasT n0 u1) (setSt s0 u1.toNat x2 y2 z2) hub0 tip0) a0) (gLp (stO a0 l0 d0 s0 n0 c0 hub0 tip0 (hasT n0 u1) (setSt s0 u1.toNat x2 y2 z2) hub0 tip0) l0) (gLp (stO a0 l0 d0 s0 n0 c0 hub0 tip0 (hasT n0 u1) (setSt s0 u1.toNat x2 y2 z2) hub0 tip0) d0) (gLp (stO a0 l0 d0 s0 n0 c0 hub0 tip0 (hasT n0 u1) (setSt s0 u1.toNat x2 y2 z2) hub0 tip0) (setSt s0 u1.toNat x2 y2 z2))) := Lib.hid (Xc_10.out.below b)
            have V0_9 : Hid (BlkL wd13 (wd3.heap.size) [.slice (some ⟨x01, 0, none⟩) a0.length a0.length, .slice (some ⟨x02, 0, none⟩) l0.length l0.length, .slice (some ⟨x03, 0, none⟩) d0.length d0.length, .slice (some ⟨x04, 0, none⟩) n0 n0, .int .i64 c0, .float .f32 hub0, .float .f32 tip0]) := Lib.hid (V0_8.out.below b)
            have GB_8 : Hid (BlkL wd13 gBk [.slice gR1 (gLp (stO a0 l0 d0 s0 n0 c0 hub0 tip0 (hasT n0 u1) (setSt s0 u1.toNat x2 y2 z2) hub0 tip0) a0).length gc1, .slice gR2 (gLp (stO a0 l0 d0 s0 n0 c0 hub0 tip0 (hasT n0 u1) (setSt s0 u1.toNat x2 y2 z2) hub0 tip0) l0).length gc2, .slice gR3 (gLp (stO a0 l0 d0 s0 n0 c0 hub0 tip0 (hasT n0 u1) (setSt s0 u1.toNat x2 y2 z2) hub0 tip0) d0).length gc3, .slice gR4 (gN (stO a0 l0 d0 s0 n0 c0 hub0 tip0 (hasT n0 u1) (setSt s0 u1.toNat x2 y2 z2) hub0 tip0) n0) gc4, .int .i64 (gC (stO a0 l0 d0 s0 n0 c0 hub0 tip0 (hasT n0 u1) (setSt s0 u1.toNat x2 y2 z2) hub0 tip0) c0), .float .f32 (gN (stO a0 l0 d0 s0 n0 c0 hub0 tip0 (hasT n0 u1) (setSt s0 u1.toNat x2 y2 z2) hub0 tip0) hub0), .float .f32 (gN (stO a0 l0 d0 s0 n0 c0 hub0 tip0 (hasT n0 u1) (setSt s0 u1.toNat x2 y2 z2) hub0 tip0) tip0)]) := Lib.hid (GB_7.out.below b)
            have XM_3 : Hid (OwnT wd13 wd4.heap.size gR1 gR2 gR3 gR4 gg1 gg2 gg3 gg4 (marks 1 (gLp (stO a0 l0 d0 s0 n0 c0 hub0 tip0 (hasT n0 u1) (setSt s0 u1.toNat x2 y2 z2) hub0 tip0) a0).length) (marks (1 + (gLp (stO a0 l0 d0 s0 n0 c0 hub0 tip0 (hasT n0 u1) (setSt s0 u1.toNat x2 y2 z2) hub0 tip0) a0).length) (gLp (stO a0 l0 d0 s0 n0 c0 hub0 tip0 (hasT n0 u1) (setSt s0 u1.toNat x2 y2 z2) hub0 tip0) l0).length) (marks (1 + (gLp (stO a0 l0 d0 s0 n0 c0 hub0 tip0 (hasT n0 u1) (setSt s0 u1.toNat x2 y2 z2) hub0 tip0) a0).length + (gLp (stO a0 l0 d0 s0 n0 c0 hub0 tip0 (hasT n0 u1) (setSt s0 u1.toNat x2 y2 z2) hub0 tip0) l0).length) (gLp (stO a0 l0 d0 s0 n0 c0 hub0 tip0 (hasT n0 u1) (setSt s0 u1.toNat x2 y2 z2) hub0 tip0) d0).length) (marks (1 + (gLp (stO a0 l0 d0 s0 n0 c0 hub0 tip0 (hasT n0 u1) (setSt s0 u1.toNat x2 y2 z2) hub0 tip0) a0).length + (gLp (stO a0 l0 d0 s0 n0 c0 hub0 tip0 (hasT n0 u1) (setSt s0 u1.toNat x2 y2 z2) hub0 tip0) l0).length + (gLp (stO a0 l0 d0 s0 n0 c0 hub0 tip0 (hasT n0 u1) (setSt s0 u1.toNat x2 y2 z2) hub0 tip0) d0).length) ((gN (stO a0 l0 d0 s0 n0 c0 hub0 tip0 (hasT n0 u1) (setSt s0 u1.toNat x2 y2 z2) hub0 tip0) n0) * 3))) := Lib.hid (XM_2.out.below b)
            have HB_1 : Hid (BlkL wd13 hBk [.slice hR1 (gLp (stO a0 l0 d0 s0 n0 c0 hub0 tip0 (hasT n0 u1) (setSt s0 u1.toNat x2 y2 z2) hub0 tip0) a0).length hc1, .slice hR2 (gLp (stO a0 l0 d0 s0 n0 c0 hub0 tip0 (hasT n0 u1) (setSt s0 u1.toNat x2 y2 z2) hub0 tip0) l0).length hc2, .slice hR3 (gLp (stO a0 l0 d0 s0 n0 c0 hub0 tip0 (hasT n0 u1) (setSt s0 u1.toNat x2 y2 z2) hub0 tip0) d0).length hc3, .slice hR4 (gN (stO a0 l0 d0 s0 n0 c0 hub0 tip0 (hasT n0 u1) (setSt s0 u1.toNat x2 y2 z2) hub0 tip0) n0) hc4, .int .i64 (gC (stO a0 l0 d0 s0 n0 c0 hub0 tip0 (hasT n0 u1) (setSt s0 u1.toNat x2 y2 z2) hub0 tip0) c0), .float .f32 (gN (stO a0 l0 d0 s0 n0 c0 hub0 tip0 (hasT n0 u1) (setSt s0 u1.toNat x2 y2 z2) hub0 tip0) hub0), .float .f32 (gN (stO a0 l0 d0 s0 n0 c0 hub0 tip0 (hasT n0 u1) (setSt s0 u1.toNat x2 y2 z2) hub0 tip0) tip0)]) := Lib.hid (HB.out.below b)
            have Xh_1 : Hid (OwnT wd13 wd11.heap.size hR1 hR2 hR3 hR4 hg1 hg2 hg3 hg4 (gLp (stO a0 l0 d0 s0 n0 c0 hub0 tip0 (hasT n0 u1) (setSt s0 u1.toNat x2 y2 z2) hub0 tip0) a0) (gLp (stO a0 l0 d0 s0 n0 c0 hub0 tip0 (hasT n0 u1) (setSt s0 u1.toNat x2 y2 z2) hub0 tip0) l0) (gLp (stO a0 l0 d0 s0 n0 c0 hub0 tip0 (hasT n0 u1) (setSt s0 u1.toNat x2 y2 z2) hub0 tip0) d0) (gLp (stO a0 l0 d0 s0 n0 c0 hub0 tip0 (hasT n0 u1) (setSt s0 u1.toNat x2 y2 z2) hub0 tip0) (setSt s0 u1.toNat x2 y2 z2))) := Lib.hid (Xh.out.below b)
            clear K0x0 K0x1 K0x2 K0x3 K0x4 K0x5 K0x6 K2x0 K2x1 K2x2 WBx0 WBx1 WBx2 WBx3 WBx4 WBx5 WBx6 V0x0 V0x1 V0x2 V0x3 V0x4 V0x5 V0x6 GBx0 GBx1 GBx2 GBx3 GBx4 GBx5 GBx6 HBx0 HBx1 HBx2 HBx3 HBx4 HBx5 HBx6
            clear K0_12 K2_12 WB_10 Xc_10 V0_8 GB_7 XM_2 HB Xh
            clear b
            obtain ⟨K0x0, K0x1, K0x2, K0x3, K0x4, K0x5, K0x6⟩ := K0_13.out.sevenT
            obtain ⟨K2x0, K2x1, K2x2⟩ := K2_13.out.three
            obtain ⟨WBx0, WBx1, WBx2, WBx3, WBx4, WBx5, WBx6⟩ := WB_11.out.sevenT
            obtain ⟨V0x0, V0x1, V0x2, V0x3, V0x4, V0x5, V0x6⟩ := V0_9.out.sevenT
            obtain ⟨GBx0, GBx1, GBx2, GBx3, GBx4, GBx5, GBx6⟩ := GB_8.out.sevenT
            obtain ⟨HBx0, HBx1, HBx2, HBx3, HBx4, HBx5, HBx6⟩ := HB_1.out.sevenT
            go_wp2_with fail
            refine (l_heldRotor _ _ _ _ _ _ _ _ _ _ _ _ _ _ 1 _ _ _ _ _ _ _ (XM_3.out) HF.out.2 (by omega) _ rfl).mono ?_
            rintro e wd14 ⟨rfl, b⟩
            have B14 : Hid (Below w.heap.size w wd14) := Lib.hid (below_of B13.out B13.out.size b)
            have Z14 : Hid (wd13.heap.size ≤ wd14.heap.size) := Lib.hid b.size
            have K0_14 : Hid (BlkL wd14 (w.heap.size) [.slice A0 a0.length ca0, .slice L0 l0.length cl0, .slice D0 d0.length cd0, .slice S0 n0 cs0, .int .i64 c0, .float .f32 hub0, .float .f32 tip0]) := Lib.hid (K0_13.out.below b)
            have K2_14 : Hid (BlkL wd14 (w.heap.size + 1) [.float .f32 x2, .float .f32 y2, .float .f32 z2]) := Lib.hid (K2_13.out.below b)
            have WB_12 : Hid (BlkL wd14 cBk [.slice cR1 (gLp (stO a0 l0 d0 s0 n0 c0 hub0 tip0 (hasT n0 u1) (setSt s0 u1.toNat x2 y2 z2) hub0 tip0) a0).length cc1, .slice cR2 (gLp (stO a0 l0 d0 s0 n0 c0 hub0 tip0 (hasT n0 u1) (setSt s0 u1.toNat x2 y2 z2) hub0 tip0) l0).length cc2, .slice cR3 (gLp (stO a0 l0 d0 s0 n0 c0 hub0 tip0 (hasT n0 u1) (setSt s0 u1.toNat x2 y2 z2) hub0 tip0) d0).length cc3, .slice cR4 (gN (stO a0 l0 d0 s0 n0 c0 hub0 tip0 (hasT n0 u1) (setSt s0 u1.toNat x2 y2 z2) hub0 tip0) n0) cc4, .int .i64 (gC (stO a0 l0 d0 s0 n0 c0 hub0 tip0 (hasT n0 u1) (setSt s0 u1.toNat x2 y2 z2) hub0 tip0) c0), .float .f32 (gN (stO a0 l0 d0 s0 n0 c0 hub0 tip0 (hasT n0 u1) (setSt s0 u1.toNat x2 y2 z2) hub0 tip0) hub0), .float .f32 (gN (stO a0 l0 d0 s0 n0 c0 hub0 tip0 (hasT n0 u1) (setSt s0 u1.toNat x2 y2 z2) hub0 tip0) tip0)]) := Lib.hid (WB_11.out.below b)
            have Xc_12 : Hid (OwnT wd14 wd1.heap.size cR1 cR2 cR3 cR4 cg1 cg2 cg3 cg4 (gLp (stO a0 l0 d0 s0 n0 c0 hub0 tip0 (hasT n0 u1) (setSt s0 u1.toNat x2 y2 z2) hub0 tip0) a0) (gLp (stO a0 l0 d0 s0 n0 c0 hub0 tip0 (hasT n0 u1) (setSt s0 u1.toNat x2 y2 z2) hub0 tip0) l0) (gLp (stO a0 l0 d0 s0 n0 c0 hub0 tip0 (hasT n0 u1) (setSt s0 u1.toNat x2 y2 z2) hub0 tip0) d0) (gLp (stO a0 l0 d0 s0 n0 c0 hub0 tip0 (hasT n0 u1) (setSt s0 u1.toNat x2 y2 z2) hub0 tip0) (setSt s0 u1.toNat x2 y2 z2))) := Lib.hid (Xc_11.out.below b)
            have V0_10 : Hid (BlkL wd14 (wd3.heap.size) [.slice (some ⟨x01, 0, none⟩) a0.length a0.length, .slice (some ⟨x02, 0, none⟩) l0.length l0.length, .slice (some ⟨x03, 0, none⟩) d0.length d0.length, .slice (some ⟨x04, 0, none⟩) n0 n0, .int .i64 c0, .float .f32 hub0, .float .f32 tip0]) := Lib.hid (V0_9.out.below b)
            have GB_9 : Hid (BlkL wd14 gBk [.slice gR1 (gLp (stO a0 l0 d0 s0 n0 c0 hub0 tip0 (hasT n0 u1) (setSt s0 u1.toNat x2 y2 z2) hub0 tip0) a0).length gc1, .slice gR2 (gLp (stO a0 l0 d0 s0 n0 c0 hub0 tip0 (hasT n0 u1) (setSt s0 u1.toNat x2 y2 z2) hub0 tip0) l0).length gc2, .slice gR3 (gLp (stO a0 l0 d0 s0 n0 c0 hub0 tip0 (hasT n0 u1) (setSt s0 u1.toNat x2 y2 z2) hub0 tip0) d0).length gc3, .slice gR4 (gN (stO a0 l0 d0 s0 n0 c0 hub0 tip0 (hasT n0 u1) (setSt s0 u1.toNat x2 y2 z2) hub0 tip0) n0) gc4, .int .i64 (gC (stO a0 l0 d0 s0 n0 c0 hub0 tip0 (hasT n0 u1) (setSt s0 u1.toNat x2 y2 z2) hub0 tip0) c0), .float .f32 (gN (stO a0 l0 d0 s0 n0 c0 hub0 tip0 (hasT n0 u1) (setSt s0 u1.toNat x2 y2 z2) hub0 tip0) hub0), .float .f32 (gN (stO a0 l0 d0 s0 n0 c0 hub0 tip0 (hasT n0 u1) (setSt s0 u1.toNat x2 y2 z2) hub0 tip0) tip0)]) := Lib.hid (GB_8.out.below b)
            have XM_4 : Hid (OwnT wd14 wd4.heap.size gR1 gR2 gR3 gR4 gg1 gg2 gg3 gg4 (marks 1 (gLp (stO a0 l0 d0 s0 n0 c0 hub0 tip0 (hasT n0 u1) (setSt s0 u1.toNat x2 y2 z2) hub0 tip0) a0).length) (marks (1 + (gLp (stO a0 l0 d0 s0 n0 c0 hub0 tip0 (hasT n0 u1) (setSt s0 u1.toNat x2 y2 z2) hub0 tip0) a0).length) (gLp (stO a0 l0 d0 s0 n0 c0 hub0 tip0 (hasT n0 u1) (setSt s0 u1.toNat x2 y2 z2) hub0 tip0) l0).length) (marks (1 + (gLp (stO a0 l0 d0 s0 n0 c0 hub0 tip0 (hasT n0 u1) (setSt s0 u1.toNat x2 y2 z2) hub0 tip0) a0).length + (gLp (stO a0 l0 d0 s0 n0 c0 hub0 tip0 (hasT n0 u1) (setSt s0 u1.toNat x2 y2 z2) hub0 tip0) l0).length) (gLp (stO a0 l0 d0 s0 n0 c0 hub0 tip0 (hasT n0 u1) (setSt s0 u1.toNat x2 y2 z2) hub0 tip0) d0).length) (marks (1 + (gLp (stO a0 l0 d0 s0 n0 c0 hub0 tip0 (hasT n0 u1) (setSt s0 u1.toNat x2 y2 z2) hub0 tip0) a0).length + (gLp (stO a0 l0 d0 s0 n0 c0 hub0 tip0 (hasT n0 u1) (setSt s0 u1.toNat x2 y2 z2) hub0 tip0) l0).length + (gLp (stO a0 l0 d0 s0 n0 c0 hub0 tip0 (hasT n0 u1) (setSt s0 u1.toNat x2 y2 z2) hub0 tip0) d0).length) ((gN (stO a0 l0 d0 s0 n0 c0 hub0 tip0 (hasT n0 u1) (setSt s0 u1.toNat x2 y2 z2) hub0 tip0) n0) * 3))) := Lib.hid (XM_3.out.below b)
            have HB_2 : Hid (BlkL wd14 hBk [.slice hR1 (gLp (stO a0 l0 d0 s0 n0 c0 hub0 tip0 (hasT n0 u1) (setSt s0 u1.toNat x2 y2 z2) hub0 tip0) a0).length hc1, .slice hR2 (gLp (stO a0 l0 d0 s0 n0 c0 hub0 tip0 (hasT n0 u1) (setSt s0 u1.toNat x2 y2 z2) hub0 tip0) l0).length hc2, .slice hR3 (gLp (stO a0 l0 d0 s0 n0 c0 hub0 tip0 (hasT n0 u1) (setSt s0 u1.toNat x2 y2 z2) hub0 tip0) d0).length hc3, .slice hR4 (gN (stO a0 l0 d0 s0 n0 c0 hub0 tip0 (hasT n0 u1) (setSt s0 u1.toNat x2 y2 z2) hub0 tip0) n0) hc4, .int .i64 (gC (stO a0 l0 d0 s0 n0 c0 hub0 tip0 (hasT n0 u1) (setSt s0 u1.toNat x2 y2 z2) hub0 tip0) c0), .float .f32 (gN (stO a0 l0 d0 s0 n0 c0 hub0 tip0 (hasT n0 u1) (setSt s0 u1.toNat x2 y2 z2) hub0 tip0) hub0), .float .f32 (gN (stO a0 l0 d0 s0 n0 c0 hub0 tip0 (hasT n0 u1) (setSt s0 u1.toNat x2 y2 z2) hub0 tip0) tip0)]) := Lib.hid (HB_1.out.below b)
            have Xh_2 : Hid (OwnT wd14 wd11.heap.size hR1 hR2 hR3 hR4 hg1 hg2 hg3 hg4 (gLp (stO a0 l0 d0 s0 n0 c0 hub0 tip0 (hasT n0 u1) (setSt s0 u1.toNat x2 y2 z2) hub0 tip0) a0) (gLp (stO a0 l0 d0 s0 n0 c0 hub0 tip0 (hasT n0 u1) (setSt s0 u1.toNat x2 y2 z2) hub0 tip0) l0) (gLp (stO a0 l0 d0 s0 n0 c0 hub0 tip0 (hasT n0 u1) (setSt s0 u1.toNat x2 y2 z2) hub0 tip0) d0) (gLp (stO a0 l0 d0 s0 n0 c0 hub0 tip0 (hasT n0 u1) (setSt s0 u1.toNat x2 y2 z2) hub0 tip0) (setSt s0 u1.toNat x2 y2 z2))) := Lib.hid (Xh_1.out.below b)
            clear K0x0 K0x1 K0x2 K0x3 K0x4 K0x5 K0x6 K2x0 K2x1 K2x2 WBx0 WBx1 WBx2 WBx3 WBx4 WBx5 WBx6 V0x0 V0x1 V0x2 V0x3 V0x4 V0x5 V0x6 GBx0 GBx1 GBx2 GBx3 GBx4 GBx5 GBx6 HBx0 HBx1 HBx2 HBx3 HBx4 HBx5 HBx6
            clear K0_13 K2_13 WB_11 Xc_11 V0_9 GB_8 XM_3 HB_1 Xh_1
            clear b
            obtain ⟨K0x0, K0x1, K0x2, K0x3, K0x4, K0x5, K0x6⟩ := K0_14.out.sevenT
            obtain ⟨K2x0, K2x1, K2x2⟩ := K2_14.out.three
            obtain ⟨WBx0, WBx1, WBx2, WBx3, WBx4, WBx5, WBx6⟩ := WB_12.out.sevenT
            obtain ⟨V0x0, V0x1, V0x2, V0x3, V0x4, V0x5, V0x6⟩ := V0_10.out.sevenT
            obtain ⟨GBx0, GBx1, GBx2, GBx3, GBx4, GBx5, GBx6⟩ := GB_9.out.sevenT
            obtain ⟨HBx0, HBx1, HBx2, HBx3, HBx4, HBx5, HBx6⟩ := HB_2.out.sevenT
            go_wp2
            go_ret
            exact ⟨rfl, B14.out⟩
  · skip
    obtain ⟨w0, hw0⟩ : ∃ x, x = ((w.alloc (.cells #[.slice A0 a0.length ca0, .slice L0 l0.length cl0, .slice D0 d0.length cd0, .slice S0 n0 cs0, .int .i64 c0, .float .f32 hub0, .float .f32 tip0] 41)).alloc (.cells #[.float .f32 x2, .float .f32 y2, .float .f32 z2] 43)) := ⟨_, rfl⟩
    have B0 : Hid (Below w.heap.size w w0) := Lib.hid (by rw [hw0]; exact ((Below.refl _ _).alloc (Nat.le_refl _) _).alloc (by simp <;> omega) _)
    have Z0 : Hid (w0.heap.size = w.heap.size + 2) := Lib.hid (by rw [hw0]; simp)
    have K0 : Hid (BlkL w0 (w.heap.size) [.slice A0 a0.length ca0, .slice L0 l0.length cl0, .slice D0 d0.length cd0, .slice S0 n0 cs0, .int .i64 c0, .float .f32 hub0, .float .f32 tip0]) := Lib.hid (by rw [hw0]; exact (blkL_at w #[.slice A0 a0.length ca0, .slice L0 l0.length cl0, .slice D0 d0.length cd0, .slice S0 n0 cs0, .int .i64 c0, .float .f32 hub0, .float .f32 tip0] 41 rfl).alloc _)
    have K2 : Hid (BlkL w0 (w.heap.size + 1) [.float .f32 x2, .float .f32 y2, .float .f32 z2]) := Lib.hid (by rw [hw0]; exact blkL_at (w.alloc (.cells #[.slice A0 a0.length ca0, .slice L0 l0.length cl0, .slice D0 d0.length cd0, .slice S0 n0 cs0, .int .i64 c0, .float .f32 hub0, .float .f32 tip0] 41)) #[.float .f32 x2, .float .f32 y2, .float .f32 z2] 43 (by simp))
    go_enter Try.func4, Try.ntmps4
    go_wp2_with fail
    rw [← hw0]
    clear hw0
    obtain ⟨K0x0, K0x1, K0x2, K0x3, K0x4, K0x5, K0x6⟩ := K0.out.sevenT
    obtain ⟨K2x0, K2x1, K2x2⟩ := K2.out.three
    go_wp2_with fail
    refine (l_szRotor_no A0 L0 D0 S0 _ ca0 _ cl0 _ cd0 n0 cs0 c0 hub0 tip0 _ _ (by omega) (by omega) (by omega) ma0 ml0 md0 ms0).mono ?_
    rintro e wd1 ⟨rfl, b⟩
    have B1 : Hid (Below w.heap.size w wd1) := Lib.hid (below_of B0.out B0.out.size b)
    have Z1 : Hid (w0.heap.size ≤ wd1.heap.size) := Lib.hid b.size
    have K0_1 : Hid (BlkL wd1 (w.heap.size) [.slice A0 a0.length ca0, .slice L0 l0.length cl0, .slice D0 d0.length cd0, .slice S0 n0 cs0, .int .i64 c0, .float .f32 hub0, .float .f32 tip0]) := Lib.hid (K0.out.below b)
    have K2_1 : Hid (BlkL wd1 (w.heap.size + 1) [.float .f32 x2, .float .f32 y2, .float .f32 z2]) := Lib.hid (K2.out.below b)
    clear K0x0 K0x1 K0x2 K0x3 K0x4 K0x5 K0x6 K2x0 K2x1 K2x2
    clear K0 K2
    clear b
    obtain ⟨K0x0, K0x1, K0x2, K0x3, K0x4, K0x5, K0x6⟩ := K0_1.out.sevenT
    obtain ⟨K2x0, K2x1, K2x2⟩ := K2_1.out.three
    go_wp2
    go_ret
    exact ⟨rfl, B1.out⟩
end Go.Proofs.Ytiiiigldpbomkaa
