/- The spectrum of loads: the program's side. No statement is proved here. -/
import Derived.Test.YtpmjikchlofebaaSpzM
namespace Go.Proofs.Ytpmjikchlofebaa
open Go Go.RowKit
theorem around_isS (i : Int) {n : Nat} (h1 : 1 ≤ n) (h2 : n ≤ 64) : (wrap64 (i.tmod n + n)).tmod n = i % (n : Int) := by
  have a1 := Int.tmod_lt_of_pos i (show (0 : Int) < n by omega)
  have a2 := Int.lt_tmod_of_pos i (show (0 : Int) < n by omega)
  rw [IntWalk.wrap64_in _ (by omega), Int.tmod_eq_emod_of_nonneg (by omega), Int.tmod_def]
  have e : i - (n : Int) * i.tdiv n + n = i + n * (1 - i.tdiv n) := by rw [Int.mul_sub, Int.mul_one]; omega
  rw [e, Int.add_mul_emod_self_left]
theorem i_aroundS (i : Int) (n j : Nat) (w : World) (h1 : 1 ≤ n) (h2 : n ≤ 64) (hj : i % (n : Int) = (j : Int)) :
    Calls Try.prog 133 #[.int .i64 i, .int .i64 n] w fun e w' => e = .returned (.int .i64 j) ∧ w' = w := by
  have HA := Lib.hid (around_isS i h1 h2)
  have HJ := Lib.hid hj; clear hj
  go_enter Try.func133, Try.ntmps133
  go_wp2
  go_ret
  refine ⟨?_, rfl⟩
  rw [← HJ.out, ← HA.out]
  rfl
theorem i_ScaleComplex (a b x : Nat) (w : World) :
    Calls Try.prog 149 #[.complex .f32 a b, .float .f32 x] w fun e w' => ∃ c d n, e = .returned (.complex .f32 c d) ∧ canon .f32 c = fop .mul .f32 (canon .f32 a) (canon .f32 x) ∧ canon .f32 d = fop .mul .f32 (canon .f32 b) (canon .f32 x) ∧ w' = w.drewN n := by
  go_enter Try.func149, Try.ntmps149
  go_wp2_with fail
  refine (i_mulNumbers _ _ _).mono ?_
  rintro e w' ⟨rfl, rfl⟩
  go_wp2_with fail
  refine (i_mulNumbers _ _ _).mono ?_
  rintro e w' ⟨rfl, rfl⟩
  go_wp2
  go_ret
  exact ⟨_, _, _, rfl, canon_fopV .., canon_fopV .., by first | rfl | exact World.drewN_drewN ..⟩
theorem i_IsFiniteComplex (a b : Nat) (w : World) :
    Calls Try.prog 108 #[.complex .f32 a b] w fun e w' => ∃ n, e = .returned (.bool (fin .f32 a && fin .f32 b)) ∧ w' = w.drewN n := by
  go_enter Try.func108, Try.ntmps108
  go_wp2_with fail
  refine (i_IsFinite _ _).mono ?_
  rintro e w' ⟨n, rfl, rfl⟩
  cases pk : fin .f32 a
  · go_wp2
    go_ret
    exact ⟨_, by rw [pk]; rfl, rfl⟩
  · go_wp2_with fail
    refine (i_IsFinite _ _).mono ?_
    rintro e w' ⟨n', rfl, rfl⟩
    go_wp2
    go_ret
    exact ⟨_, by rw [pk]; rfl, by first | rfl | exact World.drewN_drewN ..⟩
set_option maxHeartbeats 8000000 in
set_option maxRecDepth 100000 in
theorem i_spectrumAt (A : Option Addr) (cap m : Nat) (xs : List Nat) (w : World) (h : Fl w A xs) (h1 : 1 ≤ xs.length) (h2 : xs.length ≤ 64) (hm : m < xs.length) :
    Calls Try.prog 107 #[.slice A xs.length cap, .int .i64 m] w fun e w' => ∃ a b n, e = .returned (.complex .f32 a b) ∧ canon .f32 a = spX xs m xs.length ∧ canon .f32 b = spY xs m xs.length ∧ w' = w.drewN n := by
  have HF := Lib.hid h; clear h
  have hneg : IntKind.i64.wrap (-(m : Int)) = -(m : Int) := IntWalk.i64_in _ (by omega)
  go_enter Try.func107, Try.ntmps107
  go_wp2
  go_loopw [6, 14] (fun c i wr => ∃ k a b nn : Nat, k ≤ xs.length ∧ i = .int .i64 k ∧ c = .complex .f32 a b ∧ Hid (canon .f32 a = spX xs m k) ∧ Hid (canon .f32 b = spY xs m k) ∧ wr = w.drewN nn) (fun _ i _ => xs.length - (intOf i).toNat)
  case atStart => exact ⟨0, 0, 0, 0, Nat.zero_le _, rfl, rfl, Lib.hid canon_zero, Lib.hid canon_zero, rfl⟩
  case round =>
    obtain ⟨k, a, b, nn, hk, rfl, rfl, ha, hb, rfl⟩ := hrel
    by_cases hlt : k < xs.length
    · obtain ⟨ba, off, rfl, -, hc⟩ := HF.out.at_ hlt
      have HS : Hid (spX xs m (k + 1) = fop .add .f32 (spX xs m k) (fop .mul .f32 (phA (spT xs.length m k)) (canon .f32 (xs.getD k 0))) ∧ spY xs m (k + 1) = fop .add .f32 (spY xs m k) (fop .mul .f32 (phB (spT xs.length m k)) (canon .f32 (xs.getD k 0)))) := Lib.hid ⟨rfl, rfl⟩
      obtain ⟨s1, s2⟩ := spT_sure (m := m) (k := k) h1 h2
      have HLT := Lib.hid (spT_lt xs.length m k)
      have hb1 : (m : Int) * (k : Int) ≤ 64 * 64 := Int.mul_le_mul (by omega) (by omega) (by omega) (by omega)
      have hb2 : 0 ≤ (m : Int) * (k : Int) := Int.mul_nonneg (by omega) (by omega)
      have hmul : IntKind.i64.wrap (-(m : Int) * (k : Int)) = -((m : Int) * (k : Int)) := by rw [Int.neg_mul]; exact IntWalk.i64_in _ (by omega)
      have HR := Lib.hid (spR_i (m := m) (k := k) h1)
      clear hb1 hb2
      generalize spT xs.length m k = T at *
      generalize spR xs.length m k = R at *
      generalize xs.getD k 0 = x at hc HS
      go_wp2_with fail
      refine (i_aroundS _ xs.length R _ h1 h2 HR.out).mono ?_
      rintro e w' ⟨rfl, rfl⟩
      go_wp2_with fail
      refine (i_PhasorOf _ _ HLT.out).mono ?_
      rintro e w' ⟨pa, pb, n1, rfl, hpa, hpb, rfl⟩
      have HPA := Lib.hid hpa; have HPB := Lib.hid hpb; clear hpa hpb
      go_wp2_with fail
      refine (i_ScaleComplex _ _ _ _).mono ?_
      rintro e w' ⟨qa, qb, n2, rfl, hqa, hqb, rfl⟩
      have HQA := Lib.hid hqa; have HQB := Lib.hid hqb; clear hqa hqb
      go_wp2
      go_roundw
      case rel => exact ⟨k + 1, _, _, _, by omega, by go_num, rfl, Lib.hid (by rw [canon_fopV, ha.out, HQA.out, HPA.out, HS.out.1]), Lib.hid (by rw [canon_fopV, hb.out, HQB.out, HPB.out, HS.out.2]), by first | rfl | (simp only [World.drewN_drewN]; rfl)⟩
      case measure => simp [intOf]; omega
    · have hkk : k = xs.length := by omega
      subst hkk
      go_wp2
      go_ret
      exact ⟨_, _, _, rfl, ha.out, hb.out, rfl⟩
set_option maxHeartbeats 8000000 in
set_option maxRecDepth 100000 in
theorem i_SpectrumOfLoads (A : Option Addr) (cap : Nat) (xs : List Nat) (w : World) (h : Fl w A xs) (hn : xs.length ≤ 1048576) :
    Calls Try.prog 44 #[.slice A xs.length cap] w fun e w' => ∃ A' c g, e = .returned (.tuple #[.slice A' (spL xs).length c, .bool (spO xs)]) ∧ OwnOZ w' w.heap.size A' g (spL xs) ∧ Below w.heap.size w w' := by
  have HF := Lib.hid h; clear h
  go_enter Try.func44, Try.ntmps44
  go_wp2_with fail
  refine (i_areLoads A cap xs _ HF.out hn).mono ?_
  rintro e w1 ⟨rfl, n1, rfl⟩
  cases hv : ldV xs
  · have HN : Hid (spO xs = false) := Lib.hid (spO_v hv)
    clear hv
    go_wp2
    go_ret2
    exact ⟨none, 0, 0, by rw [HN.out, spL_no HN.out]; rfl, .inl (spL_no HN.out), below_draws (Below.refl _ _) _⟩
  · obtain ⟨h1, h2⟩ := ldV_len hv
    have HV := Lib.hid hv
    clear hv
    obtain ⟨w1, hw1⟩ : ∃ z, z = w.drewN n1 := ⟨_, rfl⟩
    have HF1 : Hid (Fl w1 A xs) := Lib.hid (by rw [hw1]; exact HF.out)
    have B1 : Hid (Below w.heap.size w w1) := Lib.hid (by rw [hw1]; exact below_draws (Below.refl _ _) _)
    have HSZ : Hid (w1.heap.size = w.heap.size) := Lib.hid (by rw [hw1]; simp)
    rw [← hw1]
    clear hw1 HF
    obtain ⟨i0, hi, hz0, hz1, hz2⟩ := info_parts c64_info
    have hmk := run_make (P := Try.prog) w1 68 126 i0 (.complex .f32 0 0) (by kernel_rfl) hi hz0 .i64 .i64 0 xs.length (by omega) (by omega) (by rw [hz2]; omega) (by omega)
    rw [hz1] at hmk
    have hmk' : (Instr.makeSlice 68 (.int .i64 0) (.int .i64 xs.length)).run Try.prog w1 = .ok (.slice (some ⟨w1.heap.size, 0, none⟩) 0 xs.length) (w1.alloc (.cells (madeCells #[.complex .f32 0 0] xs.length) 126)) := by
      rw [hmk]; simp [Value.cells]
    clear hmk
    obtain ⟨w2, hw2⟩ : ∃ z, z = w1.alloc (.cells (madeCells #[.complex .f32 0 0] xs.length) 126) := ⟨_, rfl⟩
    have HST : Hid (GrZ w2 w1.heap.size (.slice (some ⟨w1.heap.size, 0, none⟩) 0 xs.length) []) := Lib.hid (by rw [hw2]; exact GrZ.made _ _ _ _ (Nat.le_refl _) (by unfold maxLen; omega) (by simp [madeCells]))
    have HB12 : Hid (Below w1.heap.size w1 w2) := Lib.hid (by rw [hw2]; exact (Below.refl _ _).alloc (Nat.le_refl _) _)
    rw [← hw2] at hmk'
    clear hw2
    go_wp2
    clear hmk'
    go_loopw [4, 15] (fun v i wr => ∃ (k : Nat) (ys : List (Nat × Nat)), k ≤ xs.length ∧ i = .int .i64 k ∧ Hid (GrZ wr w1.heap.size v ys) ∧ Hid (ys = (List.range k).map (spP xs)) ∧ Hid (alls (spF xs) k = true) ∧ Hid (Below w1.heap.size w1 wr)) (fun _ i _ => xs.length - (intOf i).toNat)
    case atStart => exact ⟨0, [], Nat.zero_le _, rfl, HST, Lib.hid rfl, Lib.hid rfl, HB12⟩
    case round =>
      obtain ⟨k, ys, hk, rfl, HG, HY, HA, HBR⟩ := hrel
      by_cases hlt : k < xs.length
      · have HSF : Hid (alls (spF xs) (k + 1) = spF xs k) := Lib.hid (by simp only [alls]; rw [HA.out, Bool.true_and])
        have HL : Hid (ys.length = k) := Lib.hid (by rw [HY.out]; simp)
        go_wp2_with fail
        refine (i_spectrumAt A cap k xs _ (HF1.out.below HBR.out) h1 h2 hlt).mono ?_
        rintro e w3 ⟨a, b, n3, rfl, ha, hb, rfl⟩
        have HPF := Lib.hid (spF_of ha hb)
        have HPE : Hid (spF xs k = true → (a, b) = spP xs k) := Lib.hid (exact_part ha hb)
        clear ha hb
        go_wp2_with fail
        refine (i_IsFiniteComplex _ _ _).mono ?_
        rintro e w3 ⟨n4, rfl, rfl⟩
        rw [HPF.out]
        clear HPF
        obtain ⟨w3, hw3⟩ : ∃ z, z = (wr.drewN n3).drewN n4 := ⟨_, rfl⟩
        have HG3 : Hid (GrZ w3 w1.heap.size _ ys) := Lib.hid (by rw [hw3]; exact HG.out)
        have HB3 : Hid (Below w1.heap.size w1 w3) := Lib.hid (by rw [hw3]; exact below_draws (below_draws HBR.out _) _)
        try rw [← hw3]
        clear hw3
        cases pk : spF xs k
        · have HN : Hid (spO xs = false) := Lib.hid (spO_a (k := k + 1) (by rw [HSF.out, pk]) (by omega))
          clear pk
          go_wp2
          go_ret2
          exact ⟨none, 0, 0, by rw [HN.out, spL_no HN.out]; rfl, .inl (spL_no HN.out), below_of B1.out B1.out.size HB3.out⟩
        · have HE := Lib.hid (HPE.out pk)
          have HA2 : Hid (alls (spF xs) (k + 1) = true) := Lib.hid (by rw [HSF.out, pk])
          have hown := HG3.out
          clear pk HPE HSF
          unfold GrZ at hown
          go_wp2_with (first
            | (at_builtin; refine wpList_append_own _ rfl _ _ 68 rfl w1.heap.size 126 i0 (.complex .f32 0 0) 1 8 Try.underlying68 hi hz0 hz1 hz2 rfl (by decide) _ _ _ rfl (hown.alloc _) ⟨_, 0, none⟩ 1 1 [.complex .f32 a b] rfl rfl ?c1 ?c2 ?c3 ?c4 ?c5 ?_)
            | fail)
          case c1 =>
            intro j u hj
            match j, hj with
            | 0, hj => simp at hj; subst hj; simp [Addr.add]
          case c2 => intro u hu; simp at hu; subst hu; rfl
          case c3 => have := HL.out; unfold maxLen; omega
          case c4 => have := HL.out; omega
          case c5 => have := HB3.out.size; simp; omega
          · intro v' w4 hown' hgrow _
            obtain ⟨g2, b2⟩ := GrZ.next (x := (a, b)) HG3.out HB3.out (Nat.le_refl _) hown' hgrow
            have HG4 := Lib.hid g2
            have HB4 := Lib.hid b2
            have HY4 : Hid (ys ++ [(a, b)] = (List.range (k + 1)).map (spP xs)) := Lib.hid (by rw [HY.out, HE.out]; exact range_snoc _ _)
            clear g2 b2 hown hown' hgrow
            go_wp2
            go_roundw
            case rel => exact ⟨k + 1, _, by omega, by go_num, HG4, HY4, HA2, HB4⟩
            case measure => simp [intOf]; omega
      · have hkk : k = xs.length := by omega
        subst hkk
        have HO : Hid (spO xs = true) := Lib.hid (spO_yes HV.out HA.out)
        obtain ⟨A', cap', b', rfl, ho⟩ := HG.out.own
        have HOW := Lib.hid ho
        clear ho
        go_wp2
        go_ret2
        have ey : ys = spL xs := by rw [spL_yes HO.out, HY.out]
        exact ⟨A', cap', b', by rw [HO.out, ← ey]; rfl, by rw [← ey, ← HSZ.out]; exact HOW.out, below_of B1.out B1.out.size HBR.out⟩
end Go.Proofs.Ytpmjikchlofebaa
