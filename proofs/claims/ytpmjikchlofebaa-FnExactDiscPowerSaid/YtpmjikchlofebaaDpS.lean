/- The power of a wind in a disc: the specification's side. No statement is proved here. -/
import Derived.Test.YtpmjikchlofebaaDpN
import Derived.Test.YtpmjikchlofebaaInv3
import Derived.Deep.Cut
namespace Go.Proofs.Ytpmjikchlofebaa
open Go Go.RowKit
set_option maxHeartbeats 16000000 in
set_option maxRecDepth 100000 in
theorem s_DiscPower (d ha s sh ht rd : Nat) (p : Int) (w : World) :
    Calls Try.prog 10 #[.agg #[.float .f32 d, .float .f32 ha, .float .f32 s, .float .f32 sh], .float .f32 ht, .float .f32 rd, .int .i64 p] w fun e w' => ∃ r, e = .returned (.tuple #[.float .f32 r, .bool (dO d ha s sh ht rd p)]) ∧ canon .f32 r = dR d ha s sh ht rd p ∧ Below w.heap.size w w' := by
  have HNo : ∀ W, Hid (dC d ha s sh ht rd p = false → Below w.heap.size w W → ∃ r, Ending.returned (.tuple #[.float .f32 0, .bool false]) = .returned (.tuple #[.float .f32 r, .bool (dO d ha s sh ht rd p)]) ∧ canon .f32 r = dR d ha s sh ht rd p ∧ Below w.heap.size w W) := fun W => Lib.hid (fun hc hb => ⟨0, by rw [dO_no hc], by rw [dR_no hc]; exact canon_zero, hb⟩)
  obtain ⟨w0, hw0⟩ : ∃ z, z = w.alloc (.cells #[.float .f32 d, .float .f32 ha, .float .f32 s, .float .f32 sh] 27) := ⟨_, rfl⟩
  have B0 : Hid (Below w.heap.size w w0) := Lib.hid (by rw [hw0]; exact (Below.refl _ _).alloc (Nat.le_refl _) _)
  have K0 : Hid (BlkL w0 w.heap.size [.float .f32 d, .float .f32 ha, .float .f32 s, .float .f32 sh]) := Lib.hid (by rw [hw0]; exact blkL_at w #[.float .f32 d, .float .f32 ha, .float .f32 s, .float .f32 sh] _ rfl)
  go_enter Try.func10, Try.ntmps10
  go_upto_region 1 with fail
  rw [← hw0]
  clear hw0
  go_wp2_with fail
  refine (s_l04Is d ha s sh _ _ K0.out).mono ?_
  rintro e w1 ⟨n1, rfl, hw⟩
  obtain ⟨m1, HM1⟩ : ∃ m, Hid (w1 = w0.drewN m) := ⟨n1, Lib.hid hw⟩
  clear hw
  have HBL : Hid (∀ m, Below w.heap.size w (w0.drewN m)) := Lib.hid (fun m => below_draws B0.out m)
  cases va : airV d ha s sh
  · have HN := Lib.hid (dC_a (ht := ht) (rd := rd) (p := p) va)
    clear va
    go_wp2
    go_ret2
    exact (HNo _).out HN.out (by rw [HM1.out]; exact HBL.out _)
  have HVA := Lib.hid va
  clear va
  go_wp2_with fail
  refine (s_l02Above rd _).mono ?_
  rintro e w2 ⟨n2, rfl, hw⟩
  obtain ⟨m2, HM2⟩ : ∃ m, Hid (w2 = w0.drewN m) := ⟨m1 + n2, Lib.hid (by rw [hw, HM1.out, World.drewN_drewN])⟩
  clear hw HM1
  cases vr : posi rd
  · have HN := Lib.hid (dC_r (d := d) (ha := ha) (s := s) (sh := sh) (ht := ht) (p := p) vr)
    clear vr
    go_wp2
    go_ret2
    exact (HNo _).out HN.out (by rw [HM2.out]; exact HBL.out _)
  have HVR := Lib.hid vr
  clear vr
  go_wp2_with fail
  refine (s_l01Finite ht _).mono ?_
  rintro e w3 ⟨n3, rfl, hw⟩
  obtain ⟨m3, HM3⟩ : ∃ m, Hid (w3 = w0.drewN m) := ⟨m2 + n3, Lib.hid (by rw [hw, HM2.out, World.drewN_drewN])⟩
  clear hw HM2
  cases vh : fin .f32 ht
  · have HN := Lib.hid (dC_h (d := d) (ha := ha) (s := s) (sh := sh) (rd := rd) (p := p) vh)
    clear vh
    go_wp2
    go_ret2
    exact (HNo _).out HN.out (by rw [HM3.out]; exact HBL.out _)
  have HVH := Lib.hid vh
  clear vh
  cases vl : lss32 ht rd
  rotate_left
  · have HN := Lib.hid (dC_l (d := d) (ha := ha) (s := s) (sh := sh) (p := p) vl)
    unfold lss32 at vl
    go_wp2
    go_ret2
    exact (HNo _).out HN.out (by rw [HM3.out]; exact HBL.out _)
  have HVL := Lib.hid vl
  unfold lss32 at vl
  obtain ⟨pb, hpb⟩ : ∃ z, z = decide (1 ≤ p ∧ p ≤ 64) := ⟨_, rfl⟩
  go_wp2_with fail
  refine (l00In_any _ _ _ _).mono ?_
  rintro e w4 ⟨he, hw⟩
  subst he
  obtain rfl : w3 = w4 := hw.symm
  clear hw
  rw [← hpb]
  cases pb
  · have HN := Lib.hid (dC_p (d := d) (ha := ha) (s := s) (sh := sh) (ht := ht) (rd := rd) (of_decide_eq_false hpb.symm))
    clear hpb
    go_wp2
    go_ret2
    exact (HNo _).out HN.out (by rw [HM3.out]; exact HBL.out _)
  have hp := of_decide_eq_true hpb.symm
  have HC := Lib.hid (dC_yes (d := d) (ha := ha) (s := s) (sh := sh) HVA.out HVR.out HVH.out HVL.out hp)
  obtain ⟨n, rfl⟩ : ∃ n : Nat, p = n := ⟨p.toNat, by omega⟩
  have HNN : Hid (1 ≤ n ∧ n ≤ 64) := Lib.hid (by omega)
  have HO : Hid (dO d ha s sh ht rd (n : Int) = fin .f32 (dQ d ha s sh ht rd n)) := Lib.hid (dO_yes HC.out)
  have HR : Hid (dR d ha s sh ht rd (n : Int) = onlyN (dQ d ha s sh ht rd n)) := Lib.hid (dR_yes HC.out)
  clear hp hpb HNo
  obtain ⟨wB, hwB⟩ : ∃ z, z = w3 := ⟨_, rfl⟩
  have HBB : Hid (Below w.heap.size w wB) := Lib.hid (by rw [hwB, HM3.out]; exact HBL.out _)
  have KB : Hid (BlkL wB w.heap.size [.float .f32 d, .float .f32 ha, .float .f32 s, .float .f32 sh]) := Lib.hid (by rw [hwB, HM3.out]; exact K0.out.below (below_draws (Below.refl _ _) _))
  rw [← hwB]
  clear hwB HM3 HBL
  go_wp2
  go_loopw [10, 11, 12] (fun a b i wr => ∃ k x y nb : Nat, k ≤ n ∧ i = .int .i64 k ∧ a = .float .f32 x ∧ b = .float .f32 y ∧ Hid (canon .f32 x = dS d ha s sh ht rd n k) ∧ Hid (canon .f32 y = dT n k) ∧ wr = wB.drewN nb) (fun _ _ i _ => n - (intOf i).toNat)
  case atStart => exact ⟨0, 0, 0, 0, Nat.zero_le _, rfl, rfl, rfl, Lib.hid canon_zero, Lib.hid canon_zero, rfl⟩
  case round =>
    obtain ⟨k, x0, y0, nb, hk, rfl, rfl, rfl, HS, HT, rfl⟩ := hrel
    by_cases hlt : k < n
    · obtain ⟨s1, s2⟩ := dX_sure hlt HNN.out.2
      have HLT := Lib.hid hlt
      have h1 : IntKind.i64.wrap (2 * (k : Int)) = 2 * (k : Int) := IntWalk.i64_in _ (by have := HNN.out; omega)
      have h2 : IntKind.i64.wrap (2 * (k : Int) + 1) = 2 * (k : Int) + 1 := IntWalk.i64_in _ (by have := HNN.out; omega)
      have h3 : IntKind.i64.wrap (2 * (k : Int) + 1 - (n : Int)) = 2 * (k : Int) + 1 - (n : Int) := IntWalk.i64_in _ (by have := HNN.out; omega)
      go_wp2_with fail
      refine (s_l01Sqrt _ _).mono ?_
      rintro e w5 ⟨r1, n1, rfl, hr1, hw5⟩
      have HW : Hid (canon .f32 r1 = dW n k) := Lib.hid (by rw [hr1, canon_fopV, canon_fopV, canon_dX]; rfl)
      obtain ⟨N, HN5⟩ : ∃ N, Hid (w5 = wB.drewN N) := ⟨_, Lib.hid (by rw [hw5]; simp only [World.drewN_drewN]; rfl)⟩
      have KA : Hid (BlkL w5 w.heap.size [.float .f32 d, .float .f32 ha, .float .f32 s, .float .f32 sh]) := Lib.hid (by rw [HN5.out]; exact KB.out.below (below_draws (Below.refl _ _) _))
      have ka0 := (KA.out.2 0 _ rfl).1
      clear hr1 s1 s2 h1 h2 h3 hw5
      obtain ⟨z, hz⟩ : ∃ z, z = fopV .add .f32 ht (fopV .mul .f32 rd (dX n k) w5) (w5.drewN (fopN .mul .f32 rd (dX n k))) := ⟨_, rfl⟩
      have HZ : Hid (canon .f32 z = dZ ht rd n k) := Lib.hid (by rw [hz, canon_fopV, canon_fopV, canon_dX]; rfl)
      go_upto_region 11 with fail
      rw [← hz]
      clear hz
      generalize (fopN .mul .f32 rd (dX n k) + fopN .add .f32 ht (fopV .mul .f32 rd (dX n k) w5)) = M
      have hdd : ∀ nn j, ∃ mm, (w5.drewN nn).drewN j = w5.drewN mm := fun nn j => ⟨nn + j, World.drewN_drewN ..⟩
      refine wp_region_inv3 (fun iq v => match iq with
        | 0 => ∃ r, v = .float .f32 r ∧ canon .f32 r = dS d ha s sh ht rd n k
        | 1 => ∃ r, v = .float .f32 r ∧ canon .f32 r = dW n k
        | 2 => v = .pointer (some ⟨w.heap.size, 0, none⟩)
        | 3 => v = .float .f32 d
        | 4 => v = .float .f32 z
        | 5 => ∃ r, v = .float .f32 r ∧ canon .f32 r = dV ha s sh ht rd n k
        | 6 => ∃ r, v = .float .f32 r ∧ canon .f32 r = dP d ha s sh ht rd n k
        | 7 => ∃ r, v = .float .f32 r ∧ canon .f32 r = fop .mul .f32 (dW n k) (dP d ha s sh ht rd n k)
        | 8 => ∃ r, v = .float .f32 r ∧ canon .f32 r = fop .add .f32 (dS d ha s sh ht rd n k) (fop .mul .f32 (dW n k) (dP d ha s sh ht rd n k))
        | 9 => ∃ r, v = .float .f32 r ∧ canon .f32 r = fop .add .f32 (dS d ha s sh ht rd n k) (fop .mul .f32 (dW n k) (dP d ha s sh ht rd n k))
        | _ => False) (fun _ ww => ∃ nq, ww = w5.drewN nq) (by kernel_rfl) (by kernel_rfl) ⟨M + 1, by first | rfl | (simp only [World.drewN_drewN]; rfl)⟩ ?hop ?hend
      case hop =>
        intro q o hq listed act w3 hI hnot hcl hall
        obtain ⟨nq, rfl⟩ := hI.cls
        rcases q with _ | _ | _ | _ | _ | _ | _ | _ | _ | _ | q
        · simp at hq; subst hq
          have hnl : listed.getD 9 false = false := hcl.not (j := 9) (i := 0) (e := ⟨0, .phase⟩) rfl (by simp) rfl rfl hnot
          obtain ⟨x10, g10, hx10⟩ : ∃ x, act.tmps[10]?.getD undef = .float .f32 x ∧ canon .f32 x = dS d ha s sh ht rd n k := ⟨_, hI.keptN 10 9 (by kernel_rfl) hnl, HS.out⟩
          clear hI hall hnot hcl
          refine .inl ⟨wanted_none rfl, ?_⟩
          unfold Oper.wp
          go_simp
          exact ⟨_, rfl, ⟨_, rfl, hx10⟩, ⟨_, rfl⟩⟩
        · simp at hq; subst hq
          obtain ⟨x14, g14, hx14⟩ : ∃ x, act.tmps[14]?.getD undef = .float .f32 x ∧ canon .f32 x = dW n k := ⟨_, hI.kept 14 (by kernel_rfl), HW.out⟩
          clear hI hall hnot hcl
          refine .inl ⟨wanted_none rfl, ?_⟩
          unfold Oper.wp
          go_simp
          exact ⟨_, rfl, ⟨_, rfl, hx14⟩, ⟨_, rfl⟩⟩
        · simp at hq; subst hq
          have g4 : act.tmps[4]?.getD undef = .pointer (some ⟨w.heap.size, 0, none⟩) := hI.kept 4 (by kernel_rfl)
          clear hI hall hnot hcl
          refine .inl ⟨wanted_none rfl, ?_⟩
          unfold Oper.wp
          go_simp
          all_goals exact ⟨_, rfl, rfl, ⟨_, rfl⟩⟩
        · simp at hq; subst hq
          have g64 : act.tmps[64]?.getD undef = .pointer (some ⟨w.heap.size, 0, none⟩) := hI.has 2 64 rfl (hall ⟨2, .data⟩ (by simp) rfl)
          clear hI hall hnot hcl
          refine .inl ⟨wanted_none rfl, ?_⟩
          unfold Oper.wp
          go_simp
          all_goals exact ⟨_, rfl, rfl, ⟨_, rfl⟩⟩
        · simp at hq; subst hq
          have g15 : act.tmps[15]?.getD undef = .float .f32 z := hI.kept 15 (by kernel_rfl)
          clear hI hall hnot hcl
          refine .inl ⟨wanted_none rfl, ?_⟩
          unfold Oper.wp
          go_simp
          all_goals exact ⟨_, rfl, rfl, ⟨_, rfl⟩⟩
        · simp at hq; subst hq
          have g4 : act.tmps[4]?.getD undef = .pointer (some ⟨w.heap.size, 0, none⟩) := hI.kept 4 (by kernel_rfl)
          have g66 : act.tmps[66]?.getD undef = .float .f32 z := hI.has 4 66 rfl (hall ⟨4, .data⟩ (by simp) rfl)
          clear hI hall hnot hcl
          refine .inl ⟨wanted_none rfl, ?_⟩
          unfold Oper.wp
          go_simp
          refine (s_l04Speed d ha s sh _ _ _ (KA.out.below (below_draws (Below.refl _ _) _))).mono ?_
          rintro e w4 ⟨r4, n4, rfl, hr4, rfl⟩
          exact ⟨_, rfl, ⟨_, rfl, hr4.trans (spdV_canon (by rw [HZ.out, canon_dZ]))⟩, by first | exact ⟨_, rfl⟩ | exact hdd _ _⟩
        · simp at hq; subst hq
          have g65 : act.tmps[65]?.getD undef = .float .f32 d := hI.has 3 65 rfl (hall ⟨3, .data⟩ (by simp) rfl)
          obtain ⟨r5, g67, h5a⟩ := hI.has 5 67 rfl (hall ⟨5, .data⟩ (by simp) rfl)
          clear hI hall hnot hcl
          refine .inl ⟨wanted_none rfl, ?_⟩
          unfold Oper.wp
          go_simp
          refine (s_l04Power _ _ _).mono ?_
          rintro e w4 ⟨r4, n4, rfl, hr4, rfl⟩
          exact ⟨_, rfl, ⟨_, rfl, hr4.trans (powV_canon (by rw [h5a]; exact (canon_spdV ..).symm))⟩, by first | exact ⟨_, rfl⟩ | exact hdd _ _⟩
        · simp at hq; subst hq
          obtain ⟨r1, g63, h1a⟩ := hI.has 1 63 rfl (hall ⟨1, .data⟩ (by simp) rfl)
          obtain ⟨r6, g68, h6a⟩ := hI.has 6 68 rfl (hall ⟨6, .data⟩ (by simp) rfl)
          clear hI hall hnot hcl
          refine .inl ⟨wanted_none rfl, ?_⟩
          unfold Oper.wp
          go_simp
          exact ⟨_, rfl, ⟨_, rfl, canonF h1a h6a⟩, by first | exact ⟨_, rfl⟩ | exact hdd _ _⟩
        · simp at hq; subst hq
          obtain ⟨r0, g62, h0a⟩ := hI.has 0 62 rfl (hall ⟨0, .data⟩ (by simp) rfl)
          obtain ⟨r7, g69, h7a⟩ := hI.has 7 69 rfl (hall ⟨7, .data⟩ (by simp) rfl)
          clear hI hall hnot hcl
          refine .inl ⟨wanted_none rfl, ?_⟩
          unfold Oper.wp
          go_simp
          exact ⟨_, rfl, ⟨_, rfl, canonF h0a h7a⟩, by first | exact ⟨_, rfl⟩ | exact hdd _ _⟩
        · simp at hq; subst hq
          obtain ⟨r8, g70, h8a⟩ := hI.has 8 70 rfl (hall ⟨8, .data⟩ (by simp) rfl)
          clear hI hall hnot hcl
          refine .inl ⟨wanted_none rfl, ?_⟩
          unfold Oper.wp
          go_simp
          exact ⟨_, rfl, ⟨_, rfl, h8a⟩, ⟨_, rfl⟩⟩
        · simp at hq
      case hend =>
        intro listed act w3 hI hall
        obtain ⟨nq, rfl⟩ := hI.cls
        obtain ⟨rs, g10, hrs⟩ := hI.has 9 10 rfl (hall 9 (by decide))
        first | have g0 : act.tmps[0]?.getD undef = undef := hI.kept 0 (by kernel_rfl) | (have g0 := hI.kept 0 (by kernel_rfl); conv at g0 => rhs; whnf)
        first | have g1 : act.tmps[1]?.getD undef = undef := hI.kept 1 (by kernel_rfl) | (have g1 := hI.kept 1 (by kernel_rfl); conv at g1 => rhs; whnf)
        first | have g2 : act.tmps[2]?.getD undef = undef := hI.kept 2 (by kernel_rfl) | (have g2 := hI.kept 2 (by kernel_rfl); conv at g2 => rhs; whnf)
        first | have g3 : act.tmps[3]?.getD undef = undef := hI.kept 3 (by kernel_rfl) | (have g3 := hI.kept 3 (by kernel_rfl); conv at g3 => rhs; whnf)
        first | have g4 : act.tmps[4]?.getD undef = undef := hI.kept 4 (by kernel_rfl) | (have g4 := hI.kept 4 (by kernel_rfl); conv at g4 => rhs; whnf)
        first | have g5 : act.tmps[5]?.getD undef = undef := hI.kept 5 (by kernel_rfl) | (have g5 := hI.kept 5 (by kernel_rfl); conv at g5 => rhs; whnf)
        first | have g6 : act.tmps[6]?.getD undef = undef := hI.kept 6 (by kernel_rfl) | (have g6 := hI.kept 6 (by kernel_rfl); conv at g6 => rhs; whnf)
        first | have g7 : act.tmps[7]?.getD undef = undef := hI.kept 7 (by kernel_rfl) | (have g7 := hI.kept 7 (by kernel_rfl); conv at g7 => rhs; whnf)
        first | have g8 : act.tmps[8]?.getD undef = undef := hI.kept 8 (by kernel_rfl) | (have g8 := hI.kept 8 (by kernel_rfl); conv at g8 => rhs; whnf)
        first | have g9 : act.tmps[9]?.getD undef = undef := hI.kept 9 (by kernel_rfl) | (have g9 := hI.kept 9 (by kernel_rfl); conv at g9 => rhs; whnf)
        first | have g11 : act.tmps[11]?.getD undef = undef := hI.kept 11 (by kernel_rfl) | (have g11 := hI.kept 11 (by kernel_rfl); conv at g11 => rhs; whnf)
        first | have g12 : act.tmps[12]?.getD undef = undef := hI.kept 12 (by kernel_rfl) | (have g12 := hI.kept 12 (by kernel_rfl); conv at g12 => rhs; whnf)
        first | have g13 : act.tmps[13]?.getD undef = undef := hI.kept 13 (by kernel_rfl) | (have g13 := hI.kept 13 (by kernel_rfl); conv at g13 => rhs; whnf)
        first | have g14 : act.tmps[14]?.getD undef = undef := hI.kept 14 (by kernel_rfl) | (have g14 := hI.kept 14 (by kernel_rfl); conv at g14 => rhs; whnf)
        first | have g15 : act.tmps[15]?.getD undef = undef := hI.kept 15 (by kernel_rfl) | (have g15 := hI.kept 15 (by kernel_rfl); conv at g15 => rhs; whnf)
        first | have g16 : act.tmps[16]?.getD undef = undef := hI.kept 16 (by kernel_rfl) | (have g16 := hI.kept 16 (by kernel_rfl); conv at g16 => rhs; whnf)
        first | have g17 : act.tmps[17]?.getD undef = undef := hI.kept 17 (by kernel_rfl) | (have g17 := hI.kept 17 (by kernel_rfl); conv at g17 => rhs; whnf)
        first | have g18 : act.tmps[18]?.getD undef = undef := hI.kept 18 (by kernel_rfl) | (have g18 := hI.kept 18 (by kernel_rfl); conv at g18 => rhs; whnf)
        first | have g19 : act.tmps[19]?.getD undef = undef := hI.kept 19 (by kernel_rfl) | (have g19 := hI.kept 19 (by kernel_rfl); conv at g19 => rhs; whnf)
        first | have g20 : act.tmps[20]?.getD undef = undef := hI.kept 20 (by kernel_rfl) | (have g20 := hI.kept 20 (by kernel_rfl); conv at g20 => rhs; whnf)
        first | have g21 : act.tmps[21]?.getD undef = undef := hI.kept 21 (by kernel_rfl) | (have g21 := hI.kept 21 (by kernel_rfl); conv at g21 => rhs; whnf)
        first | have g22 : act.tmps[22]?.getD undef = undef := hI.kept 22 (by kernel_rfl) | (have g22 := hI.kept 22 (by kernel_rfl); conv at g22 => rhs; whnf)
        first | have g23 : act.tmps[23]?.getD undef = undef := hI.kept 23 (by kernel_rfl) | (have g23 := hI.kept 23 (by kernel_rfl); conv at g23 => rhs; whnf)
        first | have g24 : act.tmps[24]?.getD undef = undef := hI.kept 24 (by kernel_rfl) | (have g24 := hI.kept 24 (by kernel_rfl); conv at g24 => rhs; whnf)
        first | have g25 : act.tmps[25]?.getD undef = undef := hI.kept 25 (by kernel_rfl) | (have g25 := hI.kept 25 (by kernel_rfl); conv at g25 => rhs; whnf)
        first | have g26 : act.tmps[26]?.getD undef = undef := hI.kept 26 (by kernel_rfl) | (have g26 := hI.kept 26 (by kernel_rfl); conv at g26 => rhs; whnf)
        first | have g27 : act.tmps[27]?.getD undef = undef := hI.kept 27 (by kernel_rfl) | (have g27 := hI.kept 27 (by kernel_rfl); conv at g27 => rhs; whnf)
        first | have g28 : act.tmps[28]?.getD undef = undef := hI.kept 28 (by kernel_rfl) | (have g28 := hI.kept 28 (by kernel_rfl); conv at g28 => rhs; whnf)
        first | have g29 : act.tmps[29]?.getD undef = undef := hI.kept 29 (by kernel_rfl) | (have g29 := hI.kept 29 (by kernel_rfl); conv at g29 => rhs; whnf)
        first | have g30 : act.tmps[30]?.getD undef = undef := hI.kept 30 (by kernel_rfl) | (have g30 := hI.kept 30 (by kernel_rfl); conv at g30 => rhs; whnf)
        first | have g31 : act.tmps[31]?.getD undef = undef := hI.kept 31 (by kernel_rfl) | (have g31 := hI.kept 31 (by kernel_rfl); conv at g31 => rhs; whnf)
        first | have g32 : act.tmps[32]?.getD undef = undef := hI.kept 32 (by kernel_rfl) | (have g32 := hI.kept 32 (by kernel_rfl); conv at g32 => rhs; whnf)
        first | have g33 : act.tmps[33]?.getD undef = undef := hI.kept 33 (by kernel_rfl) | (have g33 := hI.kept 33 (by kernel_rfl); conv at g33 => rhs; whnf)
        first | have g34 : act.tmps[34]?.getD undef = undef := hI.kept 34 (by kernel_rfl) | (have g34 := hI.kept 34 (by kernel_rfl); conv at g34 => rhs; whnf)
        first | have g35 : act.tmps[35]?.getD undef = undef := hI.kept 35 (by kernel_rfl) | (have g35 := hI.kept 35 (by kernel_rfl); conv at g35 => rhs; whnf)
        first | have g36 : act.tmps[36]?.getD undef = undef := hI.kept 36 (by kernel_rfl) | (have g36 := hI.kept 36 (by kernel_rfl); conv at g36 => rhs; whnf)
        first | have g37 : act.tmps[37]?.getD undef = undef := hI.kept 37 (by kernel_rfl) | (have g37 := hI.kept 37 (by kernel_rfl); conv at g37 => rhs; whnf)
        first | have g38 : act.tmps[38]?.getD undef = undef := hI.kept 38 (by kernel_rfl) | (have g38 := hI.kept 38 (by kernel_rfl); conv at g38 => rhs; whnf)
        first | have g39 : act.tmps[39]?.getD undef = undef := hI.kept 39 (by kernel_rfl) | (have g39 := hI.kept 39 (by kernel_rfl); conv at g39 => rhs; whnf)
        first | have g40 : act.tmps[40]?.getD undef = undef := hI.kept 40 (by kernel_rfl) | (have g40 := hI.kept 40 (by kernel_rfl); conv at g40 => rhs; whnf)
        first | have g41 : act.tmps[41]?.getD undef = undef := hI.kept 41 (by kernel_rfl) | (have g41 := hI.kept 41 (by kernel_rfl); conv at g41 => rhs; whnf)
        first | have g42 : act.tmps[42]?.getD undef = undef := hI.kept 42 (by kernel_rfl) | (have g42 := hI.kept 42 (by kernel_rfl); conv at g42 => rhs; whnf)
        first | have g43 : act.tmps[43]?.getD undef = undef := hI.kept 43 (by kernel_rfl) | (have g43 := hI.kept 43 (by kernel_rfl); conv at g43 => rhs; whnf)
        first | have g44 : act.tmps[44]?.getD undef = undef := hI.kept 44 (by kernel_rfl) | (have g44 := hI.kept 44 (by kernel_rfl); conv at g44 => rhs; whnf)
        first | have g45 : act.tmps[45]?.getD undef = undef := hI.kept 45 (by kernel_rfl) | (have g45 := hI.kept 45 (by kernel_rfl); conv at g45 => rhs; whnf)
        first | have g46 : act.tmps[46]?.getD undef = undef := hI.kept 46 (by kernel_rfl) | (have g46 := hI.kept 46 (by kernel_rfl); conv at g46 => rhs; whnf)
        first | have g47 : act.tmps[47]?.getD undef = undef := hI.kept 47 (by kernel_rfl) | (have g47 := hI.kept 47 (by kernel_rfl); conv at g47 => rhs; whnf)
        first | have g48 : act.tmps[48]?.getD undef = undef := hI.kept 48 (by kernel_rfl) | (have g48 := hI.kept 48 (by kernel_rfl); conv at g48 => rhs; whnf)
        first | have g49 : act.tmps[49]?.getD undef = undef := hI.kept 49 (by kernel_rfl) | (have g49 := hI.kept 49 (by kernel_rfl); conv at g49 => rhs; whnf)
        first | have g50 : act.tmps[50]?.getD undef = undef := hI.kept 50 (by kernel_rfl) | (have g50 := hI.kept 50 (by kernel_rfl); conv at g50 => rhs; whnf)
        first | have g51 : act.tmps[51]?.getD undef = undef := hI.kept 51 (by kernel_rfl) | (have g51 := hI.kept 51 (by kernel_rfl); conv at g51 => rhs; whnf)
        first | have g52 : act.tmps[52]?.getD undef = undef := hI.kept 52 (by kernel_rfl) | (have g52 := hI.kept 52 (by kernel_rfl); conv at g52 => rhs; whnf)
        first | have g53 : act.tmps[53]?.getD undef = undef := hI.kept 53 (by kernel_rfl) | (have g53 := hI.kept 53 (by kernel_rfl); conv at g53 => rhs; whnf)
        first | have g54 : act.tmps[54]?.getD undef = undef := hI.kept 54 (by kernel_rfl) | (have g54 := hI.kept 54 (by kernel_rfl); conv at g54 => rhs; whnf)
        first | have g55 : act.tmps[55]?.getD undef = undef := hI.kept 55 (by kernel_rfl) | (have g55 := hI.kept 55 (by kernel_rfl); conv at g55 => rhs; whnf)
        first | have g56 : act.tmps[56]?.getD undef = undef := hI.kept 56 (by kernel_rfl) | (have g56 := hI.kept 56 (by kernel_rfl); conv at g56 => rhs; whnf)
        first | have g57 : act.tmps[57]?.getD undef = undef := hI.kept 57 (by kernel_rfl) | (have g57 := hI.kept 57 (by kernel_rfl); conv at g57 => rhs; whnf)
        first | have g58 : act.tmps[58]?.getD undef = undef := hI.kept 58 (by kernel_rfl) | (have g58 := hI.kept 58 (by kernel_rfl); conv at g58 => rhs; whnf)
        first | have g59 : act.tmps[59]?.getD undef = undef := hI.kept 59 (by kernel_rfl) | (have g59 := hI.kept 59 (by kernel_rfl); conv at g59 => rhs; whnf)
        first | have g60 : act.tmps[60]?.getD undef = undef := hI.kept 60 (by kernel_rfl) | (have g60 := hI.kept 60 (by kernel_rfl); conv at g60 => rhs; whnf)
        first | have g61 : act.tmps[61]?.getD undef = undef := hI.kept 61 (by kernel_rfl) | (have g61 := hI.kept 61 (by kernel_rfl); conv at g61 => rhs; whnf)
        first | have g71 : act.tmps[71]?.getD undef = undef := hI.kept 71 (by kernel_rfl) | (have g71 := hI.kept 71 (by kernel_rfl); conv at g71 => rhs; whnf)
        first | have g72 : act.tmps[72]?.getD undef = undef := hI.kept 72 (by kernel_rfl) | (have g72 := hI.kept 72 (by kernel_rfl); conv at g72 => rhs; whnf)
        first | have g73 : act.tmps[73]?.getD undef = undef := hI.kept 73 (by kernel_rfl) | (have g73 := hI.kept 73 (by kernel_rfl); conv at g73 => rhs; whnf)
        first | have g74 : act.tmps[74]?.getD undef = undef := hI.kept 74 (by kernel_rfl) | (have g74 := hI.kept 74 (by kernel_rfl); conv at g74 => rhs; whnf)
        first | have g75 : act.tmps[75]?.getD undef = undef := hI.kept 75 (by kernel_rfl) | (have g75 := hI.kept 75 (by kernel_rfl); conv at g75 => rhs; whnf)
        first | have g76 : act.tmps[76]?.getD undef = undef := hI.kept 76 (by kernel_rfl) | (have g76 := hI.kept 76 (by kernel_rfl); conv at g76 => rhs; whnf)
        first | have g77 : act.tmps[77]?.getD undef = undef := hI.kept 77 (by kernel_rfl) | (have g77 := hI.kept 77 (by kernel_rfl); conv at g77 => rhs; whnf)
        first | have g78 : act.tmps[78]?.getD undef = undef := hI.kept 78 (by kernel_rfl) | (have g78 := hI.kept 78 (by kernel_rfl); conv at g78 => rhs; whnf)
        first | have g79 : act.tmps[79]?.getD undef = undef := hI.kept 79 (by kernel_rfl) | (have g79 := hI.kept 79 (by kernel_rfl); conv at g79 => rhs; whnf)
        have hsz : act.tmps.size = 80 := hI.size.trans (by kernel_rfl)
        have hd := hI.defers
        have HRS := Lib.hid hrs
        clear hI hall hdd hrs
        obtain ⟨tt, dd⟩ := act
        simp only at g0 g1 g2 g3 g4 g5 g6 g7 g8 g9 g10 g11 g12 g13 g14 g15 g16 g17 g18 g19 g20 g21 g22 g23 g24 g25 g26 g27 g28 g29 g30 g31 g32 g33 g34 g35 g36 g37 g38 g39 g40 g41 g42 g43 g44 g45 g46 g47 g48 g49 g50 g51 g52 g53 g54 g55 g56 g57 g58 g59 g60 g61 g71 g72 g73 g74 g75 g76 g77 g78 g79 hsz hd
        subst hd
        have hl : tt = #[tt[0]?.getD undef, tt[1]?.getD undef, tt[2]?.getD undef, tt[3]?.getD undef, tt[4]?.getD undef, tt[5]?.getD undef, tt[6]?.getD undef, tt[7]?.getD undef, tt[8]?.getD undef, tt[9]?.getD undef, tt[10]?.getD undef, tt[11]?.getD undef, tt[12]?.getD undef, tt[13]?.getD undef, tt[14]?.getD undef, tt[15]?.getD undef, tt[16]?.getD undef, tt[17]?.getD undef, tt[18]?.getD undef, tt[19]?.getD undef, tt[20]?.getD undef, tt[21]?.getD undef, tt[22]?.getD undef, tt[23]?.getD undef, tt[24]?.getD undef, tt[25]?.getD undef, tt[26]?.getD undef, tt[27]?.getD undef, tt[28]?.getD undef, tt[29]?.getD undef, tt[30]?.getD undef, tt[31]?.getD undef, tt[32]?.getD undef, tt[33]?.getD undef, tt[34]?.getD undef, tt[35]?.getD undef, tt[36]?.getD undef, tt[37]?.getD undef, tt[38]?.getD undef, tt[39]?.getD undef, tt[40]?.getD undef, tt[41]?.getD undef, tt[42]?.getD undef, tt[43]?.getD undef, tt[44]?.getD undef, tt[45]?.getD undef, tt[46]?.getD undef, tt[47]?.getD undef, tt[48]?.getD undef, tt[49]?.getD undef, tt[50]?.getD undef, tt[51]?.getD undef, tt[52]?.getD undef, tt[53]?.getD undef, tt[54]?.getD undef, tt[55]?.getD undef, tt[56]?.getD undef, tt[57]?.getD undef, tt[58]?.getD undef, tt[59]?.getD undef, tt[60]?.getD undef, tt[61]?.getD undef, tt[62]?.getD undef, tt[63]?.getD undef, tt[64]?.getD undef, tt[65]?.getD undef, tt[66]?.getD undef, tt[67]?.getD undef, tt[68]?.getD undef, tt[69]?.getD undef, tt[70]?.getD undef, tt[71]?.getD undef, tt[72]?.getD undef, tt[73]?.getD undef, tt[74]?.getD undef, tt[75]?.getD undef, tt[76]?.getD undef, tt[77]?.getD undef, tt[78]?.getD undef, tt[79]?.getD undef] := (arr_lit hsz).trans rfl
        rw [g0, g1, g2, g3, g4, g5, g6, g7, g8, g9, g10, g11, g12, g13, g14, g15, g16, g17, g18, g19, g20, g21, g22, g23, g24, g25, g26, g27, g28, g29, g30, g31, g32, g33, g34, g35, g36, g37, g38, g39, g40, g41, g42, g43, g44, g45, g46, g47, g48, g49, g50, g51, g52, g53, g54, g55, g56, g57, g58, g59, g60, g61, g71, g72, g73, g74, g75, g76, g77, g78, g79] at hl
        clear g0 g1 g2 g3 g4 g5 g6 g7 g8 g9 g10 g11 g12 g13 g14 g15 g16 g17 g18 g19 g20 g21 g22 g23 g24 g25 g26 g27 g28 g29 g30 g31 g32 g33 g34 g35 g36 g37 g38 g39 g40 g41 g42 g43 g44 g45 g46 g47 g48 g49 g50 g51 g52 g53 g54 g55 g56 g57 g58 g59 g60 g61 g71 g72 g73 g74 g75 g76 g77 g78 g79 hsz
        generalize tt[62]?.getD undef = y62 at hl
        generalize tt[63]?.getD undef = y63 at hl
        generalize tt[64]?.getD undef = y64 at hl
        generalize tt[65]?.getD undef = y65 at hl
        generalize tt[66]?.getD undef = y66 at hl
        generalize tt[67]?.getD undef = y67 at hl
        generalize tt[68]?.getD undef = y68 at hl
        generalize tt[69]?.getD undef = y69 at hl
        generalize tt[70]?.getD undef = y70 at hl
        subst hl
        clear KA ka0
        have hk1 : IntKind.i64.wrap ((k : Int) + 1) = (k : Int) + 1 := IntWalk.i64_in _ (by have := HNN.out; have := HLT.out; omega)
        go_wp2
        go_roundw
        case rel => exact ⟨k + 1, _, _, _, by have := HLT.out; omega, by go_num, rfl, rfl, Lib.hid (by rw [HRS.out]; rfl), Lib.hid (by rw [canon_fopV, HT.out, HW.out]; rfl), by rw [HN5.out]; simp only [World.drewN_drewN]; rfl⟩
        case measure => have := HLT.out; simp [intOf]; omega
    · have hkk : k = n := by omega
      subst hkk
      go_wp2_with fail
      refine (s_l02NumberC _ (dQ d ha s sh ht rd k) _ (by rw [canon_fopV, HS.out, HT.out]; rfl)).mono ?_
      rintro e wq ⟨r, m, rfl, hr, rfl⟩
      have HRR := Lib.hid hr
      clear hr
      go_wp2
      go_ret2
      exact ⟨r, by rw [HO.out]; rfl, by rw [HR.out]; exact HRR.out, by repeat (first | exact HBB.out | refine below_draws ?_ _)⟩
end Go.Proofs.Ytpmjikchlofebaa
