/- The spectrum of loads: the specification's side. No statement is proved here. -/
import Derived.Test.YtpmjikchlofebaaSpzI
import Derived.Test.YtpmjikchlofebaaInv3
import Derived.Deep.Cut
namespace Go.Proofs.Ytpmjikchlofebaa
open Go Go.RowKit
theorem s_l01Scale (a b x : Nat) (w : World) :
    Calls Try.prog 147 #[.complex .f32 a b, .float .f32 x] w fun e w' => ∃ c d n, e = .returned (.complex .f32 c d) ∧ canon .f32 c = fop .mul .f32 (canon .f32 a) (canon .f32 x) ∧ canon .f32 d = fop .mul .f32 (canon .f32 b) (canon .f32 x) ∧ w' = w.drewN n := by
  go_enter Try.func147, Try.ntmps147
  go_wp2
  go_ret
  exact ⟨_, _, _, rfl, canon_fopV .., canon_fopV .., by first | rfl | exact World.drewN_drewN ..⟩
theorem spR_s {n m k : Nat} (h1 : 1 ≤ n) : ((n : Int) - ((m : Int) * (k : Int)).tmod (n : Int)).tmod (n : Int) = (spR n m k : Int) := by
  unfold spR
  have hq := Nat.mod_lt (m * k) (by omega : n > 0)
  have e : ((m : Int) * (k : Int)).tmod (n : Int) = ((m * k % n : Nat) : Int) := by
    rw [Int.tmod_eq_emod_of_nonneg (Int.mul_nonneg (by omega) (by omega))]; simp
  rw [e, Int.tmod_eq_emod_of_nonneg (by omega), show ((n : Int) - ((m * k % n : Nat) : Int)) = ((n - m * k % n : Nat) : Int) by omega]
  simp
set_option maxHeartbeats 8000000 in
set_option maxRecDepth 100000 in
theorem s_l07Spectrum (A : Option Addr) (cap : Nat) (xs : List Nat) (w : World) (h : Fl w A xs) (h1 : 1 ≤ xs.length) (h2 : xs.length ≤ 64) :
    Calls Try.prog 105 #[.slice A xs.length cap] w fun e w' => ∃ v ys, e = .returned v ∧ GrZ w' w.heap.size v ys ∧ ys.length = xs.length ∧ (∀ j, j < xs.length → canon .f32 (ys.getD j (0, 0)).1 = spX xs j xs.length ∧ canon .f32 (ys.getD j (0, 0)).2 = spY xs j xs.length) ∧ Below w.heap.size w w' := by
  have HF := Lib.hid h; clear h
  have HST : Hid (GrZ (w.alloc (.cells #[] 126)) w.heap.size (.slice (some ⟨w.heap.size, 0, none⟩) 0 0) []) := Lib.hid (GrZ.made w w.heap.size 0 #[] (Nat.le_refl _) (Nat.zero_le _) rfl)
  have HB0 : Hid (Below w.heap.size w (w.alloc (.cells #[] 126))) := Lib.hid ((Below.refl _ _).alloc (Nat.le_refl _) _)
  obtain ⟨w0, hw0⟩ : ∃ z, z = w.alloc (.cells #[] 126) := ⟨_, rfl⟩
  rw [← hw0] at HST HB0
  obtain ⟨i0, hi, hz0, hz1, hz2⟩ := info_parts c64_info
  have HL1 := Lib.hid h1
  have HL2 := Lib.hid h2
  go_enter Try.func105, Try.ntmps105
  go_upto_region 3 with fail
  rw [← hw0]
  clear hw0
  go_wp2
  go_loopw [4, 5] (fun v i wr => ∃ (m : Nat) (ys : List (Nat × Nat)), m ≤ xs.length ∧ i = .int .i64 m ∧ Hid (GrZ wr w.heap.size v ys) ∧ Hid (ys.length = m) ∧ Hid (∀ j, j < m → canon .f32 (ys.getD j (0, 0)).1 = spX xs j xs.length ∧ canon .f32 (ys.getD j (0, 0)).2 = spY xs j xs.length) ∧ Hid (Below w.heap.size w wr)) (fun _ i _ => xs.length - (intOf i).toNat)
  case atStart => exact ⟨0, [], Nat.zero_le _, rfl, HST, Lib.hid rfl, Lib.hid (fun j hj => absurd hj (Nat.not_lt_zero j)), HB0⟩
  case round =>
    obtain ⟨m, ys, hm, rfl, HG, HL, HQ, HBR⟩ := hrel
    by_cases hlt : m < xs.length
    · have HFR := Lib.hid (HF.out.below HBR.out)
      have HLT := Lib.hid hlt
      go_wp2
      go_loopw [6, 7] (fun c i wq => ∃ k a b nn : Nat, k ≤ xs.length ∧ i = .int .i64 k ∧ c = .complex .f32 a b ∧ Hid (canon .f32 a = spX xs m k) ∧ Hid (canon .f32 b = spY xs m k) ∧ wq = wr.drewN nn) (fun _ i _ => xs.length - (intOf i).toNat)
      case atStart => exact ⟨0, 0, 0, 0, Nat.zero_le _, rfl, rfl, Lib.hid canon_zero, Lib.hid canon_zero, rfl⟩
      case round =>
        obtain ⟨k, a, b, nn, hk, rfl, rfl, HA, HB, rfl⟩ := hrel
        by_cases hlk : k < xs.length
        · obtain ⟨ba, off, rfl, -, hc⟩ := HFR.out.at_ hlk
          have HS : Hid (spX xs m (k + 1) = fop .add .f32 (spX xs m k) (fop .mul .f32 (phA (spT xs.length m k)) (canon .f32 (xs.getD k 0))) ∧ spY xs m (k + 1) = fop .add .f32 (spY xs m k) (fop .mul .f32 (phB (spT xs.length m k)) (canon .f32 (xs.getD k 0)))) := Lib.hid ⟨rfl, rfl⟩
          obtain ⟨S1, S2⟩ := spT_sure (m := m) (k := k) HL1.out HL2.out
          have hb1 : (m : Int) * (k : Int) ≤ 64 * 64 := Int.mul_le_mul (by omega) (by omega) (by omega) (by omega)
          have hb2 : 0 ≤ (m : Int) * (k : Int) := Int.mul_nonneg (by omega) (by omega)
          have hmul : IntKind.i64.wrap ((m : Int) * (k : Int)) = (m : Int) * (k : Int) := IntWalk.i64_in _ (by omega)
          have ht1 := Int.tmod_lt_of_pos ((m : Int) * (k : Int)) (show (0 : Int) < xs.length by omega)
          have ht2 := Int.tmod_nonneg (xs.length : Int) hb2
          have hsub : IntKind.i64.wrap ((xs.length : Int) - ((m : Int) * (k : Int)).tmod (xs.length : Int)) = (xs.length : Int) - ((m : Int) * (k : Int)).tmod (xs.length : Int) := IntWalk.i64_in _ (by omega)
          have hrem := spR_s (m := m) (k := k) HL1.out
          have hdd : ∀ nn j, ∃ mm, (wr.drewN nn).drewN j = wr.drewN mm := fun nn j => ⟨nn + j, World.drewN_drewN ..⟩
          have hd3 : ∀ nn j i, ∃ mm, ((wr.drewN nn).drewN j).drewN i = wr.drewN mm := fun nn j i => ⟨_, by rw [World.drewN_drewN, World.drewN_drewN]⟩
          clear hb1 hb2 ht1 ht2
          generalize spT xs.length m k = T at *
          generalize spR xs.length m k = R at *
          generalize xs.getD k 0 = x at hc HS
          go_upto_region 11 with fail
          refine wp_region_inv3 (fun iq v => match iq with
            | 0 => v = .complex .f32 a b
            | 1 => v = .int .i64 R
            | 2 => v = .float .f64 (floatOfInt .f64 (R : Int))
            | 3 => v = .int .i64 xs.length
            | 4 => v = .float .f64 (floatOfInt .f64 (xs.length : Int))
            | 5 => v = .float .f64 T
            | 6 => ∃ p q, v = .complex .f32 p q ∧ canon .f32 p = phA T ∧ canon .f32 q = phB T
            | 7 => v = .slice (some ⟨ba, off, none⟩) xs.length cap
            | 8 => v = .int .i64 k
            | 9 => v = .pointer (some ⟨ba, off + k, none⟩)
            | 10 => v = .float .f32 x
            | 11 => ∃ p q, v = .complex .f32 p q ∧ canon .f32 p = fop .mul .f32 (phA T) (canon .f32 x) ∧ canon .f32 q = fop .mul .f32 (phB T) (canon .f32 x)
            | 12 => ∃ p q, v = .complex .f32 p q ∧ canon .f32 p = fop .add .f32 (spX xs m k) (fop .mul .f32 (phA T) (canon .f32 x)) ∧ canon .f32 q = fop .add .f32 (spY xs m k) (fop .mul .f32 (phB T) (canon .f32 x))
            | 13 => ∃ p q, v = .complex .f32 p q ∧ canon .f32 p = fop .add .f32 (spX xs m k) (fop .mul .f32 (phA T) (canon .f32 x)) ∧ canon .f32 q = fop .add .f32 (spY xs m k) (fop .mul .f32 (phB T) (canon .f32 x))
            | _ => False) (fun _ ww => ∃ nn, ww = wr.drewN nn) (by kernel_rfl) (by kernel_rfl) ⟨nn + 1, by first | rfl | (simp only [World.drewN_drewN]; rfl) | rfl⟩ ?hop ?hend
          case hop =>
            intro q o hq listed act w3 hI hnot hcl hall
            obtain ⟨nq, rfl⟩ := hI.cls
            rcases q with _ | _ | _ | _ | _ | _ | _ | _ | _ | _ | _ | _ | _ | _ | q
            · simp at hq; subst hq
              have hnl : listed.getD 13 false = false := hcl.not (j := 13) (i := 0) (e := ⟨0, .phase⟩) rfl (by simp) rfl rfl hnot
              have g6 : act.tmps[6]?.getD undef = .complex .f32 a b := hI.keptN 6 13 (by kernel_rfl) hnl
              clear hI hall hnot hcl
              refine .inl ⟨wanted_none rfl, ?_⟩
              unfold Oper.wp
              go_simp
              all_goals exact ⟨_, rfl, rfl, ⟨_, rfl⟩⟩
            · simp at hq; subst hq
              have g8 : act.tmps[8]?.getD undef = .int .i64 R := hI.kept 8 (by kernel_rfl)
              clear hI hall hnot hcl
              refine .inl ⟨wanted_none rfl, ?_⟩
              unfold Oper.wp
              go_simp
              all_goals exact ⟨_, rfl, rfl, ⟨_, rfl⟩⟩
            · simp at hq; subst hq
              have g32 : act.tmps[32]?.getD undef = .int .i64 R := hI.has 1 32 rfl (hall ⟨1, .data⟩ (by simp) rfl)
              clear hI hall hnot hcl
              refine .inl ⟨wanted_none rfl, ?_⟩
              unfold Oper.wp
              go_simp
              all_goals exact ⟨_, rfl, rfl, ⟨_, rfl⟩⟩
            · simp at hq; subst hq
              have g3 : act.tmps[3]?.getD undef = .int .i64 xs.length := hI.kept 3 (by kernel_rfl)
              clear hI hall hnot hcl
              refine .inl ⟨wanted_none rfl, ?_⟩
              unfold Oper.wp
              go_simp
              all_goals exact ⟨_, rfl, rfl, ⟨_, rfl⟩⟩
            · simp at hq; subst hq
              have g34 : act.tmps[34]?.getD undef = .int .i64 xs.length := hI.has 3 34 rfl (hall ⟨3, .data⟩ (by simp) rfl)
              clear hI hall hnot hcl
              refine .inl ⟨wanted_none rfl, ?_⟩
              unfold Oper.wp
              go_simp
              all_goals exact ⟨_, rfl, rfl, ⟨_, rfl⟩⟩
            · simp at hq; subst hq
              have g33 : act.tmps[33]?.getD undef = .float .f64 (floatOfInt .f64 (R : Int)) := hI.has 2 33 rfl (hall ⟨2, .data⟩ (by simp) rfl)
              have g35 : act.tmps[35]?.getD undef = .float .f64 (floatOfInt .f64 (xs.length : Int)) := hI.has 4 35 rfl (hall ⟨4, .data⟩ (by simp) rfl)
              clear hI hall hnot hcl
              refine .inl ⟨wanted_none rfl, ?_⟩
              unfold Oper.wp
              go_simp
              all_goals exact ⟨_, rfl, rfl, ⟨_, rfl⟩⟩
            · simp at hq; subst hq
              have g36 : act.tmps[36]?.getD undef = .float .f64 T := hI.has 5 36 rfl (hall ⟨5, .data⟩ (by simp) rfl)
              clear hI hall hnot hcl
              refine .inl ⟨wanted_none rfl, ?_⟩
              unfold Oper.wp
              go_simp
              refine (s_l01Phasor _ _).mono ?_
              rintro e w4 ⟨pa, pb, n4, rfl, hpa, hpb, rfl⟩
              exact ⟨_, rfl, ⟨_, _, rfl, hpa, hpb⟩, by first | exact ⟨_, rfl⟩ | exact hdd _ _ | exact hd3 _ _ _⟩
            · simp at hq; subst hq
              have g0 : act.tmps[0]?.getD undef = .slice (some ⟨ba, off, none⟩) xs.length cap := hI.kept 0 (by kernel_rfl)
              clear hI hall hnot hcl
              refine .inl ⟨wanted_none rfl, ?_⟩
              unfold Oper.wp
              go_simp
              all_goals exact ⟨_, rfl, rfl, ⟨_, rfl⟩⟩
            · simp at hq; subst hq
              have g7 : act.tmps[7]?.getD undef = .int .i64 k := hI.kept 7 (by kernel_rfl)
              clear hI hall hnot hcl
              refine .inl ⟨wanted_none rfl, ?_⟩
              unfold Oper.wp
              go_simp
              all_goals exact ⟨_, rfl, rfl, ⟨_, rfl⟩⟩
            · simp at hq; subst hq
              have g38 : act.tmps[38]?.getD undef = .slice (some ⟨ba, off, none⟩) xs.length cap := hI.has 7 38 rfl (hall ⟨7, .data⟩ (by simp) rfl)
              have g39 : act.tmps[39]?.getD undef = .int .i64 k := hI.has 8 39 rfl (hall ⟨8, .data⟩ (by simp) rfl)
              clear hI hall hnot hcl
              refine .inl ⟨wanted_none rfl, ?_⟩
              unfold Oper.wp
              go_simp
              all_goals exact ⟨_, rfl, rfl, ⟨_, rfl⟩⟩
            · simp at hq; subst hq
              have g40 : act.tmps[40]?.getD undef = .pointer (some ⟨ba, off + k, none⟩) := hI.has 9 40 rfl (hall ⟨9, .data⟩ (by simp) rfl)
              clear hI hall hnot hcl
              refine .inl ⟨wanted_none rfl, ?_⟩
              unfold Oper.wp
              go_simp
              all_goals exact ⟨_, rfl, rfl, ⟨_, rfl⟩⟩
            · simp at hq; subst hq
              have G37 := hI.has 6 37 rfl (hall ⟨6, .data⟩ (by simp) rfl)
              have g41 : act.tmps[41]?.getD undef = .float .f32 x := hI.has 10 41 rfl (hall ⟨10, .data⟩ (by simp) rfl)
              obtain ⟨pa, pb, g37, ha, hb⟩ := G37
              clear hI hall hnot hcl
              refine .inl ⟨wanted_none rfl, ?_⟩
              unfold Oper.wp
              go_simp
              refine (s_l01Scale _ _ _ _).mono ?_
              rintro e w4 ⟨qa, qb, n4, rfl, hqa, hqb, rfl⟩
              exact ⟨_, rfl, ⟨_, _, rfl, hqa.trans (by rw [ha]), hqb.trans (by rw [hb])⟩, by first | exact ⟨_, rfl⟩ | exact hdd _ _ | exact hd3 _ _ _⟩
            · simp at hq; subst hq
              have g31 : act.tmps[31]?.getD undef = .complex .f32 a b := hI.has 0 31 rfl (hall ⟨0, .data⟩ (by simp) rfl)
              have G42 := hI.has 11 42 rfl (hall ⟨11, .data⟩ (by simp) rfl)
              obtain ⟨qa, qb, g42, ha, hb⟩ := G42
              clear hI hall hnot hcl
              refine .inl ⟨wanted_none rfl, ?_⟩
              unfold Oper.wp
              go_simp
              exact ⟨_, rfl, ⟨_, _, rfl, by rw [canon_fopV, HA.out, ha], by rw [canon_fopV, HB.out, hb]⟩, by first | exact ⟨_, rfl⟩ | exact hdd _ _ | exact hd3 _ _ _⟩
            · simp at hq; subst hq
              have G43 := hI.has 12 43 rfl (hall ⟨12, .data⟩ (by simp) rfl)
              obtain ⟨qa, qb, g43, ha, hb⟩ := G43
              clear hI hall hnot hcl
              refine .inl ⟨wanted_none rfl, ?_⟩
              unfold Oper.wp
              go_simp
              exact ⟨_, rfl, ⟨_, _, rfl, ha, hb⟩, ⟨_, rfl⟩⟩
            · simp at hq
          case hend =>
            intro listed act w3 hI hall
            obtain ⟨nq, rfl⟩ := hI.cls
            obtain ⟨sa, sb, g6, hsa, hsb⟩ := hI.has 13 6 rfl (hall 13 (by decide))
            have HSA := Lib.hid hsa
            have HSB := Lib.hid hsb
            clear hsa hsb
            have g7 := hI.kept 7 (by kernel_rfl)
            conv at g7 => rhs; whnf
            have g8 := hI.kept 8 (by kernel_rfl)
            conv at g8 => rhs; whnf
            have g0 := hI.kept 0 (by kernel_rfl)
            conv at g0 => rhs; whnf
            have g1 : act.tmps[1]?.getD undef = undef := hI.kept 1 (by kernel_rfl)
            have g2 := hI.kept 2 (by kernel_rfl)
            conv at g2 => rhs; whnf
            have g3 := hI.kept 3 (by kernel_rfl)
            conv at g3 => rhs; whnf
            have g4 := hI.kept 4 (by kernel_rfl)
            conv at g4 => rhs; whnf
            have g5 := hI.kept 5 (by kernel_rfl)
            conv at g5 => rhs; whnf
            have g9 := hI.kept 9 (by kernel_rfl)
            conv at g9 => rhs; whnf
            have g10 := hI.kept 10 (by kernel_rfl)
            conv at g10 => rhs; whnf
            have g11 := hI.kept 11 (by kernel_rfl)
            conv at g11 => rhs; whnf
            have g12 := hI.kept 12 (by kernel_rfl)
            conv at g12 => rhs; whnf
            have g13 := hI.kept 13 (by kernel_rfl)
            conv at g13 => rhs; whnf
            have g14 := hI.kept 14 (by kernel_rfl)
            conv at g14 => rhs; whnf
            have g15 := hI.kept 15 (by kernel_rfl)
            conv at g15 => rhs; whnf
            have g16 := hI.kept 16 (by kernel_rfl)
            conv at g16 => rhs; whnf
            have g44 := hI.kept 44 (by kernel_rfl)
            conv at g44 => rhs; whnf
            have g45 := hI.kept 45 (by kernel_rfl)
            conv at g45 => rhs; whnf
            have g46 := hI.kept 46 (by kernel_rfl)
            conv at g46 => rhs; whnf
            have g47 := hI.kept 47 (by kernel_rfl)
            conv at g47 => rhs; whnf
            have g48 : act.tmps[48]?.getD undef = undef := hI.kept 48 (by kernel_rfl)
            have hsz : act.tmps.size = 49 := hI.size.trans (by kernel_rfl)
            have hd := hI.defers
            clear hI hall hdd hd3
            obtain ⟨tt, dd⟩ := act
            simp only at g0 g1 g2 g3 g4 g5 g6 g7 g8 g9 g10 g11 g12 g13 g14 g15 g16 g44 g45 g46 g47 g48 hsz hd
            subst hd
            have hl : tt = #[tt[0]?.getD undef, tt[1]?.getD undef, tt[2]?.getD undef, tt[3]?.getD undef, tt[4]?.getD undef, tt[5]?.getD undef, tt[6]?.getD undef, tt[7]?.getD undef, tt[8]?.getD undef, tt[9]?.getD undef, tt[10]?.getD undef, tt[11]?.getD undef, tt[12]?.getD undef, tt[13]?.getD undef, tt[14]?.getD undef, tt[15]?.getD undef, tt[16]?.getD undef, tt[17]?.getD undef, tt[18]?.getD undef, tt[19]?.getD undef, tt[20]?.getD undef, tt[21]?.getD undef, tt[22]?.getD undef, tt[23]?.getD undef, tt[24]?.getD undef, tt[25]?.getD undef, tt[26]?.getD undef, tt[27]?.getD undef, tt[28]?.getD undef, tt[29]?.getD undef, tt[30]?.getD undef, tt[31]?.getD undef, tt[32]?.getD undef, tt[33]?.getD undef, tt[34]?.getD undef, tt[35]?.getD undef, tt[36]?.getD undef, tt[37]?.getD undef, tt[38]?.getD undef, tt[39]?.getD undef, tt[40]?.getD undef, tt[41]?.getD undef, tt[42]?.getD undef, tt[43]?.getD undef, tt[44]?.getD undef, tt[45]?.getD undef, tt[46]?.getD undef, tt[47]?.getD undef, tt[48]?.getD undef] := (arr_lit hsz).trans rfl
            rw [g0, g1, g2, g3, g4, g5, g6, g7, g8, g9, g10, g11, g12, g13, g14, g15, g16, g44, g45, g46, g47, g48] at hl
            clear g0 g1 g2 g3 g4 g5 g6 g7 g8 g9 g10 g11 g12 g13 g14 g15 g16 g44 g45 g46 g47 g48 hsz
            generalize tt[17]?.getD undef = y17 at hl
            generalize tt[18]?.getD undef = y18 at hl
            generalize tt[19]?.getD undef = y19 at hl
            generalize tt[20]?.getD undef = y20 at hl
            generalize tt[21]?.getD undef = y21 at hl
            generalize tt[22]?.getD undef = y22 at hl
            generalize tt[23]?.getD undef = y23 at hl
            generalize tt[24]?.getD undef = y24 at hl
            generalize tt[25]?.getD undef = y25 at hl
            generalize tt[26]?.getD undef = y26 at hl
            generalize tt[27]?.getD undef = y27 at hl
            generalize tt[28]?.getD undef = y28 at hl
            generalize tt[29]?.getD undef = y29 at hl
            generalize tt[30]?.getD undef = y30 at hl
            generalize tt[31]?.getD undef = y31 at hl
            generalize tt[32]?.getD undef = y32 at hl
            generalize tt[33]?.getD undef = y33 at hl
            generalize tt[34]?.getD undef = y34 at hl
            generalize tt[35]?.getD undef = y35 at hl
            generalize tt[36]?.getD undef = y36 at hl
            generalize tt[37]?.getD undef = y37 at hl
            generalize tt[38]?.getD undef = y38 at hl
            generalize tt[39]?.getD undef = y39 at hl
            generalize tt[40]?.getD undef = y40 at hl
            generalize tt[41]?.getD undef = y41 at hl
            generalize tt[42]?.getD undef = y42 at hl
            generalize tt[43]?.getD undef = y43 at hl
            subst hl
            go_wp2
            go_roundw
            case rel => exact ⟨k + 1, _, _, _, by omega, by go_num, rfl, Lib.hid (by rw [HSA.out, HS.out.1]), Lib.hid (by rw [HSB.out, HS.out.2]), by first | rfl | (simp only [World.drewN_drewN]; rfl)⟩
            case measure => simp [intOf]; omega
        · have hkk : k = xs.length := by omega
          subst hkk
          obtain ⟨w3, hw3⟩ : ∃ z, z = wr.drewN nn := ⟨_, rfl⟩
          have HG3 : Hid (GrZ w3 w.heap.size _ ys) := Lib.hid (by rw [hw3]; exact HG.out)
          have HB3 : Hid (Below w.heap.size w w3) := Lib.hid (by rw [hw3]; exact below_draws HBR.out _)
          rw [← hw3]
          clear hw3
          have hown := HG3.out
          unfold GrZ at hown
          go_wp2_with (first
            | (at_builtin; refine wpList_append_own _ rfl _ _ 68 rfl w.heap.size 126 i0 (.complex .f32 0 0) 1 8 Try.underlying68 hi hz0 hz1 hz2 rfl (by decide) _ _ _ rfl (hown.alloc _) ⟨_, 0, none⟩ 1 1 [.complex .f32 a b] rfl rfl ?c1 ?c2 ?c3 ?c4 ?c5 ?_)
            | fail)
          case c1 =>
            intro j u hj
            match j, hj with
            | 0, hj => simp at hj; subst hj; simp [Addr.add]
          case c2 => intro u hu; simp at hu; subst hu; rfl
          case c3 => have := HL.out; unfold maxLen; omega
          case c4 => have := HL.out; omega
          case c5 => have := HB3.out.size; simp; omega
          · intro v' w4 hown' hgrow _
            obtain ⟨g2, b2⟩ := GrZ.next (x := (a, b)) HG3.out HB3.out (Nat.le_refl _) hown' hgrow
            have HG4 := Lib.hid g2
            have HB4 := Lib.hid b2
            have HL4 : Hid ((ys ++ [(a, b)]).length = m + 1) := Lib.hid (by simp [HL.out])
            have HQ4 : Hid (∀ j, j < m + 1 → canon .f32 ((ys ++ [(a, b)]).getD j (0, 0)).1 = spX xs j xs.length ∧ canon .f32 ((ys ++ [(a, b)]).getD j (0, 0)).2 = spY xs j xs.length) := Lib.hid (fun j hj => by
              rw [getD_snocZ _ _ _ (by rw [HL.out]; exact hj), HL.out]
              split
              · rename_i e; subst e; exact ⟨HA.out, HB.out⟩
              · exact HQ.out j (by omega))
            clear g2 b2 hown hown' hgrow
            go_wp2
            go_roundw
            case rel => exact ⟨m + 1, _, by have := HLT.out; omega, by go_num, HG4, HL4, HQ4, HB4⟩
            case measure => have := HLT.out; simp [intOf]; omega
    · have hkk : m = xs.length := by omega
      subst hkk
      go_wp2
      go_ret
      exact ⟨_, ys, rfl, HG.out, HL.out, HQ.out, HBR.out⟩
set_option maxHeartbeats 8000000 in
set_option maxRecDepth 100000 in
theorem s_SpectrumOfLoads (A : Option Addr) (cap : Nat) (xs : List Nat) (w : World) (h : Fl w A xs) (hn : xs.length ≤ 1048576) :
    Calls Try.prog 43 #[.slice A xs.length cap] w fun e w' => ∃ A' c g, e = .returned (.tuple #[.slice A' (spL xs).length c, .bool (spO xs)]) ∧ OwnOZ w' w.heap.size A' g (spL xs) ∧ Below w.heap.size w w' := by
  have HF := Lib.hid h; clear h
  go_enter Try.func43, Try.ntmps43
  go_wp2_with fail
  refine (s_l07Loads A cap xs _ HF.out hn).mono ?_
  rintro e w1 ⟨rfl, n1, rfl⟩
  cases hv : ldV xs
  · have HN : Hid (spO xs = false) := Lib.hid (spO_v hv)
    clear hv
    go_wp2
    go_ret2
    exact ⟨none, 0, 0, by rw [HN.out, spL_no HN.out]; rfl, .inl (spL_no HN.out), below_draws (Below.refl _ _) _⟩
  · obtain ⟨h1, h2⟩ := ldV_len hv
    have HV := Lib.hid hv
    clear hv
    go_wp2_with fail
    refine (s_l07Spectrum A cap xs _ (HF.out.below (below_draws (Below.refl _ _) _)) h1 h2).mono ?_
    rintro e w2 ⟨v, ys, rfl, hg, hl, hq, b2⟩
    obtain ⟨A', cap', b', rfl, ho⟩ := hg.own
    have HOW : Hid (OwnOZ w2 w.heap.size A' b' ys) := Lib.hid ho
    have HL := Lib.hid hl
    have HQ := Lib.hid hq
    have B2 : Hid (Below w.heap.size w w2) := Lib.hid (below_of (below_draws (Below.refl _ _) n1) (Nat.le_refl _) b2)
    clear hg ho hl hq b2 HF
    have hy64 : ys.length ≤ 64 := by have := HL.out; omega
    go_wp2
    go_loopw [13] (fun i wr => ∃ k nn : Nat, k ≤ ys.length ∧ i = .int .i64 k ∧ Hid (alls (spF xs) k = true) ∧ wr = w2.drewN nn) (fun i _ => ys.length - (intOf i).toNat)
    case atStart => exact ⟨0, 0, Nat.zero_le _, rfl, Lib.hid rfl, rfl⟩
    case round =>
      obtain ⟨k, nn, hk, rfl, HA, rfl⟩ := hrel
      by_cases hlt : k < ys.length
      · obtain ⟨bb, off, rfl, -, hc⟩ := HOW.out.fl.at_ hlt
        have HSF : Hid (alls (spF xs) (k + 1) = spF xs k) := Lib.hid (by simp only [alls]; rw [HA.out, Bool.true_and])
        have hkx : k < xs.length := by have := HL.out; omega
        obtain ⟨q1, q2⟩ := HQ.out k hkx
        have HPF := Lib.hid (spF_of q1 q2)
        have HKX := Lib.hid hkx
        clear q1 q2 hkx
        generalize ys.getD k (0, 0) = p at hc HPF
        obtain ⟨x, y⟩ := p
        unfold cxV at hc
        go_wp2_with fail
        refine (s_l01Finite _ _).mono ?_
        rintro e w3 ⟨n3, rfl, rfl⟩
        cases px : fin .f32 x
        · have HN : Hid (spO xs = false) := Lib.hid (spO_a (k := k + 1) (by rw [HSF.out, ← HPF.out]; show (fin .f32 x && _) = false; rw [px]; rfl) (by have := HKX.out; omega))
          clear px
          go_wp2
          go_ret2
          exact ⟨none, 0, 0, by rw [HN.out, spL_no HN.out]; rfl, .inl (spL_no HN.out), by repeat (first | exact B2.out | refine below_draws ?_ _)⟩
        · go_wp2_with fail
          refine (s_l01Finite _ _).mono ?_
          rintro e w3 ⟨n4, rfl, rfl⟩
          cases py : fin .f32 y
          · have HN : Hid (spO xs = false) := Lib.hid (spO_a (k := k + 1) (by rw [HSF.out, ← HPF.out]; show (_ && fin .f32 y) = false; rw [py, Bool.and_false]) (by have := HKX.out; omega))
            clear px py
            go_wp2
            go_ret2
            exact ⟨none, 0, 0, by rw [HN.out, spL_no HN.out]; rfl, .inl (spL_no HN.out), by repeat (first | exact B2.out | refine below_draws ?_ _)⟩
          · have HA2 : Hid (alls (spF xs) (k + 1) = true) := Lib.hid (by rw [HSF.out, ← HPF.out]; show (fin .f32 x && fin .f32 y) = true; rw [px, py]; rfl)
            clear px py
            go_wp2
            go_roundw
            case rel => exact ⟨k + 1, _, by omega, by go_num, HA2, by first | rfl | (simp only [World.drewN_drewN]; rfl)⟩
            case measure => simp [intOf]; omega
      · have hkk : k = ys.length := by omega
        subst hkk
        have HO : Hid (spO xs = true) := Lib.hid (spO_yes HV.out (by rw [← HL.out]; exact HA.out))
        have ey : ys = spL xs := by
          rw [spL_yes HO.out]
          exact list_exactZ HL.out HQ.out (by have := HA.out; rw [HL.out] at this; exact alls_at this)
        subst ey
        go_wp2
        go_ret2
        exact ⟨A', cap', b', by rw [HO.out]; rfl, HOW.out, below_draws B2.out _⟩
end Go.Proofs.Ytpmjikchlofebaa
