/- Equal ranges of cycles: both sides. No statement is proved here. -/
import Derived.Test.YtpchkedgjikpfabSoC
import Derived.Test.YtpchkedgjikpfabRoot
namespace Go.Proofs.Ytpchkedgjikpfab
open Go Go.RowKit
def sqP (x : Nat) : Nat → Nat
  | 0 => x
  | k + 1 => fop .mul .f32 (sqP x k) (sqP x k)
def rtP (x : Nat) : Nat → Nat
  | 0 => x
  | k + 1 => canon .f32 (rootF (rtP x k))
def eqrAt (xs : List (Nat × Nat × Bool)) (p k : Nat) : Nat := fop .mul .f32 (wgtV (whB xs k)) (sqP (rchAt xs k) p)
def eqrV (xs : List (Nat × Nat × Bool)) (st p : Nat) : Nat := rtP (fop .quo .f32 (sumG (eqrAt xs p) xs.length) (canon .f32 st)) p
def eqrC (xs : List (Nat × Nat × Bool)) (st : Nat) (p : Int) : Bool := areC xs && (posi st && decide (0 ≤ p ∧ p ≤ 3))
def eqrO (xs : List (Nat × Nat × Bool)) (st : Nat) (p : Int) : Bool := eqrC xs st p && fin .f32 (eqrV xs st p.toNat)
def eqrR (xs : List (Nat × Nat × Bool)) (st : Nat) (p : Int) : Nat := if eqrC xs st p then onlyN (eqrV xs st p.toNat) else 0
theorem eqrO_no {xs : List (Nat × Nat × Bool)} {st : Nat} {p : Int} (h : eqrC xs st p = false) : eqrO xs st p = false := by unfold eqrO; rw [h]; rfl
theorem eqrR_no {xs : List (Nat × Nat × Bool)} {st : Nat} {p : Int} (h : eqrC xs st p = false) : eqrR xs st p = 0 := by unfold eqrR; rw [h]; rfl
theorem eqrO_yes {xs : List (Nat × Nat × Bool)} {st P : Nat} (h : eqrC xs st P = true) : eqrO xs st P = fin .f32 (eqrV xs st P) := by unfold eqrO; rw [h]; rfl
theorem eqrR_yes {xs : List (Nat × Nat × Bool)} {st P : Nat} (h : eqrC xs st P = true) : eqrR xs st P = onlyN (eqrV xs st P) := by unfold eqrR; rw [h]; rfl
theorem rchV_canon (x y : Nat) : canon .f32 (rchV x y) = rchV x y := canon_fop ..
set_option maxHeartbeats 8000000 in
set_option maxRecDepth 100000 in
theorem i_eqrOne (x y : Nat) (z : Bool) (P B1 : Nat) (w : World) (k1 : BlkL w B1 [.int .i64 P]) (hP : P ≤ 3) :
    Calls Try.prog 80 #[.agg #[.float .f32 x, .float .f32 y, .bool z], .pointer (some ⟨B1, 0, none⟩)] w fun e w' => ∃ r, e = .returned (.float .f32 r) ∧ canon .f32 r = fop .mul .f32 (wgtV z) (sqP (rchV x y) P) ∧ Below w.heap.size w w' := by
  obtain ⟨w0, hw0⟩ : ∃ w0, w0 = w.alloc (.cells #[.float .f32 x, .float .f32 y, .bool z] 70) := ⟨_, rfl⟩
  have B0 : Hid (Below w.heap.size w w0) := Lib.hid (by rw [hw0]; exact (Below.refl _ _).alloc (Nat.le_refl _) _)
  have K0 : Hid (BlkL w0 w.heap.size [.float .f32 x, .float .f32 y, .bool z]) := Lib.hid (by rw [hw0]; exact blkL_at w #[.float .f32 x, .float .f32 y, .bool z] _ rfl)
  have K1 := Lib.hid (k1.below B0.out)
  clear k1
  obtain ⟨d0, d1, d2⟩ := K0.out.three
  go_enter Try.func80, Try.ntmps80
  go_wp2_with fail
  rw [← hw0]
  clear hw0
  refine (i_reach x y z _).mono ?_
  rintro e w1 ⟨r0, rfl, h0, b1⟩
  have B1' : Hid (Below w.heap.size w w1) := Lib.hid (below_of B0.out B0.out.size b1)
  have L0 := Lib.hid (K0.out.below b1)
  have L1 := Lib.hid (K1.out.below b1)
  have H0 := Lib.hid h0
  clear b1 h0 d0 d1 d2 K0 K1
  have k1 := L1.out.one
  go_wp2_with fail
  clear k1
  go_loopw [4, 8] (fun s i wr => ∃ k r n : Nat, k ≤ P ∧ i = .int .i64 k ∧ s = .float .f32 r ∧ Hid (canon .f32 r = sqP (rchV x y) k) ∧ wr = w1.drewN n) (fun _ i _ => P - (intOf i).toNat)
  case atStart => exact ⟨0, r0, 0, Nat.zero_le _, rfl, rfl, H0, rfl⟩
  case round =>
    obtain ⟨k, r, n, hk, rfl, rfl, HR, rfl⟩ := hrel
    have HS : Hid (sqP (rchV x y) (k + 1) = fop .mul .f32 (sqP (rchV x y) k) (sqP (rchV x y) k)) := rfl
    by_cases hlt : k < P
    · go_wp2_with fail
      refine (i_mulNumbers _ _ _).mono ?_
      rintro e w' ⟨rfl, rfl⟩
      go_wp2
      go_roundw
      case rel => exact ⟨k + 1, _, _, by omega, by go_num, rfl, Lib.hid (by rw [HS.out]; exact canonF HR.out HR.out), by first | rfl | (simp only [World.drewN_drewN]; rfl)⟩
      case measure => simp [intOf]; omega
    · have hkk : k = P := by omega
      subst hkk
      obtain ⟨w2, hw2⟩ : ∃ w2, w2 = w1.drewN n := ⟨_, rfl⟩
      rw [← hw2]
      have B2 : Hid (Below w.heap.size w w2) := Lib.hid (by rw [hw2]; exact below_draws B1'.out _)
      have M0 : Hid (BlkL w2 w.heap.size [.float .f32 x, .float .f32 y, .bool z]) := Lib.hid (by rw [hw2]; exact L0.out.draws _)
      clear hw2
      obtain ⟨d0, d1, d2⟩ := M0.out.three
      go_wp2_with fail
      refine (i_weight x y z _).mono ?_
      rintro e w3 ⟨r1, rfl, h1, b1⟩
      have B3 : Hid (Below w.heap.size w w3) := Lib.hid (below_of B2.out B2.out.size b1)
      have H1 := Lib.hid h1
      clear b1 h1 d0 d1 d2
      go_wp2_with fail
      refine (i_mulNumbers _ _ _).mono ?_
      rintro e w' ⟨rfl, rfl⟩
      go_wp2
      go_ret
      exact ⟨_, rfl, canonF H1.out HR.out, below_draws B3.out _⟩
set_option maxHeartbeats 8000000 in
set_option maxRecDepth 100000 in
theorem i_EqualRange (A : Option Addr) (cap : Nat) (xs : List (Nat × Nat × Bool)) (st : Nat) (p : Int) (w : World) (h : FlC w A xs) (hn : xs.length ≤ 1048576) :
    Calls Try.prog 33 #[.slice A xs.length cap, .float .f32 st, .int .i64 p] w fun e w' => ∃ r, e = .returned (.tuple #[.float .f32 r, .bool (eqrO xs st p)]) ∧ canon .f32 r = eqrR xs st p ∧ Below w.heap.size w w' := by
  have HF := Lib.hid h; clear h
  obtain ⟨w0, hw0⟩ : ∃ w0, w0 = w.alloc (.cells #[.int .i64 p] 2) := ⟨_, rfl⟩
  have B0 : Hid (Below w.heap.size w w0) := Lib.hid (by rw [hw0]; exact (Below.refl _ _).alloc (Nat.le_refl _) _)
  have K2 : Hid (BlkL w0 w.heap.size [.int .i64 p]) := Lib.hid (by rw [hw0]; exact blkL_at w #[.int .i64 p] _ rfl)
  go_enter Try.func33, Try.ntmps33
  go_wp2_with fail
  rw [← hw0]
  clear hw0
  refine (i_AreCycles A cap xs _ (HF.out.below B0.out) hn).mono ?_
  rintro e w1 ⟨rfl, b1⟩
  have B1 : Hid (Below w.heap.size w w1) := Lib.hid (below_of B0.out B0.out.size b1)
  have L2 := Lib.hid (K2.out.below b1)
  clear b1 K2
  have k2 := L2.out.one
  cases v1 : areC xs
  · have HN : Hid (eqrC xs st p = false) := Lib.hid (by unfold eqrC; rw [v1]; first | rfl | simp)
    go_wp2
    go_ret2
    exact ⟨_, by rw [eqrO_no HN.out]; rfl, by rw [eqrR_no HN.out]; exact canon_zero, B1.out⟩
  · have V1 := Lib.hid v1; clear v1
    go_wp2_with fail
    refine (i_isPositive _ _).mono ?_
    rintro e w2 ⟨n2, rfl, hw⟩
    have b1 : Below w1.heap.size w1 w2 := by rw [hw]; exact below_draws (Below.refl _ _) _
    have B2 : Hid (Below w.heap.size w w2) := Lib.hid (below_of B1.out B1.out.size b1)
    have M2 := Lib.hid (L2.out.below b1)
    clear b1 hw L2 k2
    have k2 := M2.out.one
    cases v2 : posi st
    · have HN : Hid (eqrC xs st p = false) := Lib.hid (by unfold eqrC; rw [V1.out, v2]; first | rfl | simp)
      go_wp2
      go_ret2
      exact ⟨_, by rw [eqrO_no HN.out]; rfl, by rw [eqrR_no HN.out]; exact canon_zero, B2.out⟩
    · have V2 := Lib.hid v2; clear v2
      by_cases hp1 : 0 ≤ p
      · by_cases hp2 : p ≤ 3
        · obtain ⟨P, rfl⟩ : ∃ P : Nat, p = P := ⟨p.toNat, by omega⟩
          have HC : Hid (eqrC xs st (P : Int) = true) := Lib.hid (by unfold eqrC; rw [V1.out, V2.out, decide_eq_true ⟨hp1, hp2⟩]; rfl)
          have hP : P ≤ 3 := by omega
          go_wp2_with fail
          refine (i_sumOver_eqr _ (eqrAt xs P) A cap xs _ (HF.out.below B2.out) (areC_len V1.out) (fun k hk W hW => i_eqrOne (loN xs k) (hiN xs k) (whB xs k) P w.heap.size W (M2.out.below hW) hP)).mono ?_
          rintro e w3 ⟨r, rfl, hr, b1⟩
          have B3 : Hid (Below w.heap.size w w3) := Lib.hid (below_of B2.out B2.out.size b1)
          have N2 := Lib.hid (M2.out.below b1)
          have HR0 : Hid (∀ W : World, canon .f32 (fopV .quo .f32 r st W) = fop .quo .f32 (sumG (eqrAt xs P) xs.length) (canon .f32 st)) := Lib.hid (fun W => canonF hr rfl)
          clear b1 k2 hr M2
          have k2 := N2.out.one
          have HVV : Hid (eqrV xs st P = rtP (fop .quo .f32 (sumG (eqrAt xs P) xs.length) (canon .f32 st)) P) := rfl
          generalize fop .quo .f32 (sumG (eqrAt xs P) xs.length) (canon .f32 st) = Q at HR0 HVV
          go_wp2_with fail
          clear k2
          go_loopw [9, 33] (fun s i wr => ∃ k q n : Nat, k ≤ P ∧ i = .int .i64 k ∧ s = .float .f32 q ∧ Hid (canon .f32 q = rtP Q k) ∧ wr = w3.drewN n) (fun _ i _ => P - (intOf i).toNat)
          case atStart => exact ⟨0, _, _, Nat.zero_le _, rfl, rfl, Lib.hid (HR0.out _), rfl⟩
          case round =>
            obtain ⟨k, q, n, hk, rfl, rfl, HQ, rfl⟩ := hrel
            have HS : Hid (rtP Q (k + 1) = canon .f32 (rootF (rtP Q k))) := rfl
            by_cases hlt : k < P
            · go_wp2_with fail
              refine (i_RootNumber _ _).mono ?_
              rintro e w' ⟨r1, n1, rfl, hr1, rfl⟩
              have HR1 : Hid (canon .f32 r1 = rtP Q (k + 1)) := Lib.hid (by rw [HS.out, hr1, HQ.out])
              clear hr1
              go_wp2
              go_roundw
              case rel => exact ⟨k + 1, _, _, by omega, by go_num, rfl, HR1, by first | rfl | (simp only [World.drewN_drewN]; rfl)⟩
              case measure => simp [intOf]; omega
            · have hkk : k = P := by omega
              subst hkk
              have hv : canon .f32 q = eqrV xs st k := by rw [HVV.out]; exact HQ.out
              go_wp2_with fail
              refine (i_onlyFiniteC _ (eqrV xs st k) _ hv).mono ?_
              rintro e w' ⟨r', n3, rfl, hr', rfl⟩
              have HR := Lib.hid hr'; clear hr' hv
              go_wp2
              go_ret2
              exact ⟨_, by rw [eqrO_yes HC.out]; rfl, by rw [HR.out, eqrR_yes HC.out], by repeat (first | exact B3.out | refine below_draws ?_ _)⟩
        · have HN : Hid (eqrC xs st p = false) := Lib.hid (by unfold eqrC; rw [V1.out, V2.out, decide_eq_false (by omega)]; first | rfl | simp)
          go_wp2
          go_ret2
          exact ⟨_, by rw [eqrO_no HN.out]; rfl, by rw [eqrR_no HN.out]; exact canon_zero, B2.out⟩
      · have HN : Hid (eqrC xs st p = false) := Lib.hid (by unfold eqrC; rw [V1.out, V2.out, decide_eq_false (by omega)]; first | rfl | simp)
        go_wp2
        go_ret2
        exact ⟨_, by rw [eqrO_no HN.out]; rfl, by rw [eqrR_no HN.out]; exact canon_zero, B2.out⟩
set_option maxHeartbeats 16000000 in
set_option maxRecDepth 100000 in
theorem s_EqualRange (A : Option Addr) (cap : Nat) (xs : List (Nat × Nat × Bool)) (st : Nat) (p : Int) (w : World) (h : FlC w A xs) (hn : xs.length ≤ 1048576) :
    Calls Try.prog 32 #[.slice A xs.length cap, .float .f32 st, .int .i64 p] w fun e w' => ∃ r, e = .returned (.tuple #[.float .f32 r, .bool (eqrO xs st p)]) ∧ canon .f32 r = eqrR xs st p ∧ Below w.heap.size w w' := by
  have HF := Lib.hid h; clear h
  go_enter Try.func32, Try.ntmps32
  go_wp2_with fail
  refine (s_l07Are A cap xs _ HF.out hn).mono ?_
  rintro e w1 ⟨rfl, n1, hw⟩
  have B1 : Hid (Below w.heap.size w w1) := Lib.hid (by rw [hw]; exact below_draws (Below.refl _ _) _)
  clear hw
  cases v1 : areC xs
  · have HN : Hid (eqrC xs st p = false) := Lib.hid (by unfold eqrC; rw [v1]; first | rfl | simp)
    go_wp2
    go_ret2
    exact ⟨_, by rw [eqrO_no HN.out]; rfl, by rw [eqrR_no HN.out]; exact canon_zero, B1.out⟩
  · have V1 := Lib.hid v1; clear v1
    go_wp2_with fail
    refine (s_l02Above _ _).mono ?_
    rintro e w2 ⟨n2, rfl, hw⟩
    have B2 : Hid (Below w.heap.size w w2) := Lib.hid (by rw [hw]; exact below_draws B1.out _)
    clear hw
    cases v2 : posi st
    · have HN : Hid (eqrC xs st p = false) := Lib.hid (by unfold eqrC; rw [V1.out, v2]; first | rfl | simp)
      go_wp2
      go_ret2
      exact ⟨_, by rw [eqrO_no HN.out]; rfl, by rw [eqrR_no HN.out]; exact canon_zero, B2.out⟩
    · have V2 := Lib.hid v2; clear v2
      go_wp2_with fail
      refine (l00In_any _ _ _ _).mono ?_
      rintro e wz ⟨rfl, hw⟩
      have BZ : Hid (Below w.heap.size w wz) := Lib.hid (by rw [hw]; exact B2.out)
      clear hw
      by_cases hp : 0 ≤ p ∧ p ≤ 3
      · rw [decide_eq_true hp]
        obtain ⟨P, rfl⟩ : ∃ P : Nat, p = P := ⟨p.toNat, by omega⟩
        have HC : Hid (eqrC xs st (P : Int) = true) := Lib.hid (by unfold eqrC; rw [V1.out, V2.out, decide_eq_true hp]; rfl)
        have hP : P ≤ 3 := by omega
        have HFZ : Hid (FlC wz A xs) := Lib.hid (HF.out.below BZ.out)
        clear hp
        go_wp2_with fail
        go_loopw [8, 29] (fun s i wr => ∃ k n r : Nat, k ≤ xs.length ∧ i = .int .i64 k ∧ s = .float .f32 r ∧ Hid (canon .f32 r = sumG (eqrAt xs P) k) ∧ wr = wz.drewN n) (fun _ i _ => xs.length - (intOf i).toNat)
        case atStart => exact ⟨0, 0, 0, Nat.zero_le _, rfl, rfl, Lib.hid canon_zero, rfl⟩
        case round =>
          obtain ⟨k, n, s, hk, rfl, rfl, HS, rfl⟩ := hrel
          by_cases hlt : k < xs.length
          · obtain ⟨b, off, rfl, -, hc0, hc1, hc2⟩ := HFZ.out.at_ hlt
            have HSG : Hid (sumG (eqrAt xs P) (k + 1) = fop .add .f32 (sumG (eqrAt xs P) k) (eqrAt xs P k)) := rfl
            have HDM : Hid (eqrAt xs P k = fop .mul .f32 (wgtV (whB xs k)) (sqP (rchAt xs k) P)) := rfl
            have HRC : Hid (rchAt xs k = rchV (loN xs k) (hiN xs k)) := rfl
            generalize loN xs k = x at hc0 HRC
            generalize hiN xs k = y at hc1 HRC
            generalize whB xs k = z at hc2 HDM
            have HC2 := Lib.hid hc2; clear hc2
            have hst : ∀ m, ∃ nn, { (wz.drewN m) with drawn := (wz.drewN m).drawn + 1 } = wz.drewN nn := fun m => ⟨m + 1, rfl⟩
            have hdd : ∀ nn j, ∃ mm, (wz.drewN nn).drewN j = wz.drewN mm := fun nn j => ⟨nn + j, World.drewN_drewN ..⟩
            go_wp2_with fail
            refine wp_region_inv3 (fun iq v => match iq with
              | 0 => v = .slice (some ⟨b, off, none⟩) xs.length cap
              | 1 => v = .int .i64 k
              | 2 => v = .pointer (some ⟨b, off + k * 3, none⟩)
              | 3 => v = .pointer (some ⟨b, off + k * 3 + 1, none⟩)
              | 4 => v = .float .f32 y
              | 5 => v = .slice (some ⟨b, off, none⟩) xs.length cap
              | 6 => v = .int .i64 k
              | 7 => v = .pointer (some ⟨b, off + k * 3, none⟩)
              | 8 => v = .pointer (some ⟨b, off + k * 3, none⟩)
              | 9 => v = .float .f32 x
              | 10 => ∃ r, v = .float .f32 r ∧ canon .f32 r = fop .sub .f32 (canon .f32 y) (canon .f32 x)
              | 11 => ∃ r, v = .float .f32 r ∧ canon .f32 r = fop .sub .f32 (canon .f32 y) (canon .f32 x)
              | _ => False) (fun _ ww => ∃ nn, ww = wz.drewN nn) (by kernel_rfl) (by kernel_rfl) (hst _) ?hop ?hend
            case hop =>
              intro q o hq listed act w3 hI hnot hcl hall
              obtain ⟨nn, rfl⟩ := hI.cls
              rcases q with _ | _ | _ | _ | _ | _ | _ | _ | _ | _ | _ | _ | q
              · simp at hq; subst hq
                have g0 : act.tmps[0]?.getD undef = .slice (some ⟨b, off, none⟩) xs.length cap := hI.kept 0 (by kernel_rfl)
                clear hI hall hnot hcl
                refine .inl ⟨wanted_none rfl, ?_⟩
                unfold Oper.wp
                go_simp
                all_goals exact ⟨_, rfl, rfl, ⟨_, rfl⟩⟩
              · simp at hq; subst hq
                have g9 : act.tmps[9]?.getD undef = .int .i64 k := hI.kept 9 (by kernel_rfl)
                clear hI hall hnot hcl
                refine .inl ⟨wanted_none rfl, ?_⟩
                unfold Oper.wp
                go_simp
                all_goals exact ⟨_, rfl, rfl, ⟨_, rfl⟩⟩
              · simp at hq; subst hq
                have g32 : act.tmps[32]?.getD undef = .slice (some ⟨b, off, none⟩) xs.length cap := hI.has 0 32 rfl (hall ⟨0, .data⟩ (by simp) rfl)
                have g33 : act.tmps[33]?.getD undef = .int .i64 k := hI.has 1 33 rfl (hall ⟨1, .data⟩ (by simp) rfl)
                clear hI hall hnot hcl
                refine .inl ⟨wanted_none rfl, ?_⟩
                unfold Oper.wp
                go_simp
                all_goals exact ⟨_, rfl, rfl, ⟨_, rfl⟩⟩
              · simp at hq; subst hq
                have g34 : act.tmps[34]?.getD undef = .pointer (some ⟨b, off + k * 3, none⟩) := hI.has 2 34 rfl (hall ⟨2, .data⟩ (by simp) rfl)
                clear hI hall hnot hcl
                refine .inl ⟨wanted_none rfl, ?_⟩
                unfold Oper.wp
                go_simp
                all_goals exact ⟨_, rfl, rfl, ⟨_, rfl⟩⟩
              · simp at hq; subst hq
                have g35 : act.tmps[35]?.getD undef = .pointer (some ⟨b, off + k * 3 + 1, none⟩) := hI.has 3 35 rfl (hall ⟨3, .data⟩ (by simp) rfl)
                clear hI hall hnot hcl
                refine .inl ⟨wanted_none rfl, ?_⟩
                unfold Oper.wp
                go_simp
                all_goals exact ⟨_, rfl, rfl, ⟨_, rfl⟩⟩
              · simp at hq; subst hq
                have g0 : act.tmps[0]?.getD undef = .slice (some ⟨b, off, none⟩) xs.length cap := hI.kept 0 (by kernel_rfl)
                clear hI hall hnot hcl
                refine .inl ⟨wanted_none rfl, ?_⟩
                unfold Oper.wp
                go_simp
                all_goals exact ⟨_, rfl, rfl, ⟨_, rfl⟩⟩
              · simp at hq; subst hq
                have g9 : act.tmps[9]?.getD undef = .int .i64 k := hI.kept 9 (by kernel_rfl)
                clear hI hall hnot hcl
                refine .inl ⟨wanted_none rfl, ?_⟩
                unfold Oper.wp
                go_simp
                all_goals exact ⟨_, rfl, rfl, ⟨_, rfl⟩⟩
              · simp at hq; subst hq
                have g37 : act.tmps[37]?.getD undef = .slice (some ⟨b, off, none⟩) xs.length cap := hI.has 5 37 rfl (hall ⟨5, .data⟩ (by simp) rfl)
                have g38 : act.tmps[38]?.getD undef = .int .i64 k := hI.has 6 38 rfl (hall ⟨6, .data⟩ (by simp) rfl)
                clear hI hall hnot hcl
                refine .inl ⟨wanted_none rfl, ?_⟩
                unfold Oper.wp
                go_simp
                all_goals exact ⟨_, rfl, rfl, ⟨_, rfl⟩⟩
              · simp at hq; subst hq
                have g39 : act.tmps[39]?.getD undef = .pointer (some ⟨b, off + k * 3, none⟩) := hI.has 7 39 rfl (hall ⟨7, .data⟩ (by simp) rfl)
                clear hI hall hnot hcl
                refine .inl ⟨wanted_none rfl, ?_⟩
                unfold Oper.wp
                go_simp
                all_goals exact ⟨_, rfl, rfl, ⟨_, rfl⟩⟩
              · simp at hq; subst hq
                have g40 : act.tmps[40]?.getD undef = .pointer (some ⟨b, off + k * 3, none⟩) := hI.has 8 40 rfl (hall ⟨8, .data⟩ (by simp) rfl)
                clear hI hall hnot hcl
                refine .inl ⟨wanted_none rfl, ?_⟩
                unfold Oper.wp
                go_simp
                all_goals exact ⟨_, rfl, rfl, ⟨_, rfl⟩⟩
              · simp at hq; subst hq
                have g36 : act.tmps[36]?.getD undef = .float .f32 y := hI.has 4 36 rfl (hall ⟨4, .data⟩ (by simp) rfl)
                have g41 : act.tmps[41]?.getD undef = .float .f32 x := hI.has 9 41 rfl (hall ⟨9, .data⟩ (by simp) rfl)
                clear hI hall hnot hcl
                refine .inl ⟨wanted_none rfl, ?_⟩
                unfold Oper.wp
                go_simp
                exact ⟨_, rfl, ⟨_, rfl, canonF rfl rfl⟩, by first | exact ⟨_, rfl⟩ | exact hdd _ _⟩
              · simp at hq; subst hq
                obtain ⟨r10, g42, h10a⟩ := hI.has 10 42 rfl (hall ⟨10, .data⟩ (by simp) rfl)
                clear hI hall hnot hcl
                refine .inl ⟨wanted_none rfl, ?_⟩
                unfold Oper.wp
                go_simp
                exact ⟨_, rfl, ⟨_, rfl, h10a⟩, ⟨_, rfl⟩⟩
              · simp at hq
            case hend =>
              intro listed act w3 hI hall
              obtain ⟨nn, rfl⟩ := hI.cls
              obtain ⟨r10, g10, h10⟩ := hI.has 11 10 rfl (hall 11 (by decide))
              have g8 : act.tmps[8]?.getD undef = .float .f32 s := hI.kept 8 (by kernel_rfl)
              have g9 : act.tmps[9]?.getD undef = .int .i64 k := hI.kept 9 (by kernel_rfl)
              have g29 : act.tmps[29]?.getD undef = .int .i64 k := hI.kept 29 (by kernel_rfl)
              have g0 := hI.kept 0 (by kernel_rfl)
              conv at g0 => rhs; whnf
              have g1 := hI.kept 1 (by kernel_rfl)
              conv at g1 => rhs; whnf
              have g2 := hI.kept 2 (by kernel_rfl)
              conv at g2 => rhs; whnf
              have g3 : act.tmps[3]?.getD undef = undef := hI.kept 3 (by kernel_rfl)
              have g4 : act.tmps[4]?.getD undef = undef := hI.kept 4 (by kernel_rfl)
              have g5 : act.tmps[5]?.getD undef = undef := hI.kept 5 (by kernel_rfl)
              have g6 := hI.kept 6 (by kernel_rfl)
              conv at g6 => rhs; whnf
              have g7 := hI.kept 7 (by kernel_rfl)
              conv at g7 => rhs; whnf
              have g12 : act.tmps[12]?.getD undef = undef := hI.kept 12 (by kernel_rfl)
              have g13 : act.tmps[13]?.getD undef = undef := hI.kept 13 (by kernel_rfl)
              have g14 := hI.kept 14 (by kernel_rfl)
              conv at g14 => rhs; whnf
              have g15 := hI.kept 15 (by kernel_rfl)
              conv at g15 => rhs; whnf
              have g16 := hI.kept 16 (by kernel_rfl)
              conv at g16 => rhs; whnf
              have g17 := hI.kept 17 (by kernel_rfl)
              conv at g17 => rhs; whnf
              have g18 := hI.kept 18 (by kernel_rfl)
              conv at g18 => rhs; whnf
              have g19 := hI.kept 19 (by kernel_rfl)
              conv at g19 => rhs; whnf
              have g20 := hI.kept 20 (by kernel_rfl)
              conv at g20 => rhs; whnf
              have g21 := hI.kept 21 (by kernel_rfl)
              conv at g21 => rhs; whnf
              have g22 := hI.kept 22 (by kernel_rfl)
              conv at g22 => rhs; whnf
              have g23 := hI.kept 23 (by kernel_rfl)
              conv at g23 => rhs; whnf
              have g24 := hI.kept 24 (by kernel_rfl)
              conv at g24 => rhs; whnf
              have g25 := hI.kept 25 (by kernel_rfl)
              conv at g25 => rhs; whnf
              have g26 := hI.kept 26 (by kernel_rfl)
              conv at g26 => rhs; whnf
              have g27 := hI.kept 27 (by kernel_rfl)
              conv at g27 => rhs; whnf
              have g28 := hI.kept 28 (by kernel_rfl)
              conv at g28 => rhs; whnf
              have g60 : act.tmps[60]?.getD undef = undef := hI.kept 60 (by kernel_rfl)
              have g61 : act.tmps[61]?.getD undef = undef := hI.kept 61 (by kernel_rfl)
              have g62 : act.tmps[62]?.getD undef = undef := hI.kept 62 (by kernel_rfl)
              have g63 : act.tmps[63]?.getD undef = undef := hI.kept 63 (by kernel_rfl)
              have g64 : act.tmps[64]?.getD undef = undef := hI.kept 64 (by kernel_rfl)
              have g65 : act.tmps[65]?.getD undef = undef := hI.kept 65 (by kernel_rfl)
              have g66 : act.tmps[66]?.getD undef = undef := hI.kept 66 (by kernel_rfl)
              have g67 : act.tmps[67]?.getD undef = undef := hI.kept 67 (by kernel_rfl)
              have g68 : act.tmps[68]?.getD undef = undef := hI.kept 68 (by kernel_rfl)
              have g69 : act.tmps[69]?.getD undef = undef := hI.kept 69 (by kernel_rfl)
              have g70 : act.tmps[70]?.getD undef = undef := hI.kept 70 (by kernel_rfl)
              have g71 : act.tmps[71]?.getD undef = undef := hI.kept 71 (by kernel_rfl)
              have g72 : act.tmps[72]?.getD undef = undef := hI.kept 72 (by kernel_rfl)
              have g73 : act.tmps[73]?.getD undef = undef := hI.kept 73 (by kernel_rfl)
              have hsz : act.tmps.size = 74 := hI.size.trans (by kernel_rfl)
              have hd := hI.defers
              clear hI hall
              obtain ⟨tt, dd⟩ := act
              simp only at g0 g1 g2 g3 g4 g5 g6 g7 g8 g9 g10 g12 g13 g14 g15 g16 g17 g18 g19 g20 g21 g22 g23 g24 g25 g26 g27 g28 g29 g60 g61 g62 g63 g64 g65 g66 g67 g68 g69 g70 g71 g72 g73 hsz hd
              subst hd
              have hl : tt = #[tt[0]?.getD undef, tt[1]?.getD undef, tt[2]?.getD undef, tt[3]?.getD undef, tt[4]?.getD undef, tt[5]?.getD undef, tt[6]?.getD undef, tt[7]?.getD undef, tt[8]?.getD undef, tt[9]?.getD undef, tt[10]?.getD undef, tt[11]?.getD undef, tt[12]?.getD undef, tt[13]?.getD undef, tt[14]?.getD undef, tt[15]?.getD undef, tt[16]?.getD undef, tt[17]?.getD undef, tt[18]?.getD undef, tt[19]?.getD undef, tt[20]?.getD undef, tt[21]?.getD undef, tt[22]?.getD undef, tt[23]?.getD undef, tt[24]?.getD undef, tt[25]?.getD undef, tt[26]?.getD undef, tt[27]?.getD undef, tt[28]?.getD undef, tt[29]?.getD undef, tt[30]?.getD undef, tt[31]?.getD undef, tt[32]?.getD undef, tt[33]?.getD undef, tt[34]?.getD undef, tt[35]?.getD undef, tt[36]?.getD undef, tt[37]?.getD undef, tt[38]?.getD undef, tt[39]?.getD undef, tt[40]?.getD undef, tt[41]?.getD undef, tt[42]?.getD undef, tt[43]?.getD undef, tt[44]?.getD undef, tt[45]?.getD undef, tt[46]?.getD undef, tt[47]?.getD undef, tt[48]?.getD undef, tt[49]?.getD undef, tt[50]?.getD undef, tt[51]?.getD undef, tt[52]?.getD undef, tt[53]?.getD undef, tt[54]?.getD undef, tt[55]?.getD undef, tt[56]?.getD undef, tt[57]?.getD undef, tt[58]?.getD undef, tt[59]?.getD undef, tt[60]?.getD undef, tt[61]?.getD undef, tt[62]?.getD undef, tt[63]?.getD undef, tt[64]?.getD undef, tt[65]?.getD undef, tt[66]?.getD undef, tt[67]?.getD undef, tt[68]?.getD undef, tt[69]?.getD undef, tt[70]?.getD undef, tt[71]?.getD undef, tt[72]?.getD undef, tt[73]?.getD undef] := (arr_lit hsz).trans rfl
              rw [g0, g1, g2, g3, g4, g5, g6, g7, g8, g9, g10, g12, g13, g14, g15, g16, g17, g18, g19, g20, g21, g22, g23, g24, g25, g26, g27, g28, g29, g60, g61, g62, g63, g64, g65, g66, g67, g68, g69, g70, g71, g72, g73] at hl
              clear g0 g1 g2 g3 g4 g5 g6 g7 g8 g9 g10 g12 g13 g14 g15 g16 g17 g18 g19 g20 g21 g22 g23 g24 g25 g26 g27 g28 g29 g60 g61 g62 g63 g64 g65 g66 g67 g68 g69 g70 g71 g72 g73 hsz
              generalize tt[11]?.getD undef = y11 at hl
              generalize tt[30]?.getD undef = y30 at hl
              generalize tt[31]?.getD undef = y31 at hl
              generalize tt[32]?.getD undef = y32 at hl
              generalize tt[33]?.getD undef = y33 at hl
              generalize tt[34]?.getD undef = y34 at hl
              generalize tt[35]?.getD undef = y35 at hl
              generalize tt[36]?.getD undef = y36 at hl
              generalize tt[37]?.getD undef = y37 at hl
              generalize tt[38]?.getD undef = y38 at hl
              generalize tt[39]?.getD undef = y39 at hl
              generalize tt[40]?.getD undef = y40 at hl
              generalize tt[41]?.getD undef = y41 at hl
              generalize tt[42]?.getD undef = y42 at hl
              generalize tt[43]?.getD undef = y43 at hl
              generalize tt[44]?.getD undef = y44 at hl
              generalize tt[45]?.getD undef = y45 at hl
              generalize tt[46]?.getD undef = y46 at hl
              generalize tt[47]?.getD undef = y47 at hl
              generalize tt[48]?.getD undef = y48 at hl
              generalize tt[49]?.getD undef = y49 at hl
              generalize tt[50]?.getD undef = y50 at hl
              generalize tt[51]?.getD undef = y51 at hl
              generalize tt[52]?.getD undef = y52 at hl
              generalize tt[53]?.getD undef = y53 at hl
              generalize tt[54]?.getD undef = y54 at hl
              generalize tt[55]?.getD undef = y55 at hl
              generalize tt[56]?.getD undef = y56 at hl
              generalize tt[57]?.getD undef = y57 at hl
              generalize tt[58]?.getD undef = y58 at hl
              generalize tt[59]?.getD undef = y59 at hl
              subst hl
              have H10 : Hid (canon .f32 r10 = rchAt xs k) := Lib.hid (by rw [HRC.out]; exact h10)
              clear h10 hc0 hc1
              obtain ⟨w4, hw4⟩ : ∃ w4, w4 = wz.drewN nn := ⟨_, rfl⟩
              rw [← hw4]
              have HW4 := Lib.hid hw4
              clear hw4
              go_wp2_with fail
              go_loopw [10, 11] (fun v i wr => ∃ j r n : Nat, j ≤ P ∧ i = .int .i64 j ∧ v = .float .f32 r ∧ Hid (canon .f32 r = sqP (rchAt xs k) j) ∧ wr = w4.drewN n) (fun _ i _ => P - (intOf i).toNat)
              case atStart => exact ⟨0, r10, 0, Nat.zero_le _, rfl, rfl, H10, rfl⟩
              case round =>
                obtain ⟨j, r, n, hj, rfl, rfl, HR, rfl⟩ := hrel
                have HP2 : Hid (sqP (rchAt xs k) (j + 1) = fop .mul .f32 (sqP (rchAt xs k) j) (sqP (rchAt xs k) j)) := rfl
                by_cases hltj : j < P
                · go_wp2
                  go_roundw
                  case rel => exact ⟨j + 1, _, _, by omega, by go_num, rfl, Lib.hid (by rw [HP2.out]; exact canonF HR.out HR.out), by first | rfl | (simp only [World.drewN_drewN]; rfl)⟩
                  case measure => simp [intOf]; omega
                · have hkk : j = P := by omega
                  subst hkk
                  obtain ⟨w5, hw5⟩ : ∃ w5, w5 = w4.drewN n := ⟨_, rfl⟩
                  rw [← hw5]
                  have HW5 := Lib.hid hw5
                  have hc2 : w5.cell? ⟨b, off + k * 3 + 2, none⟩ = some (.bool z) := by rw [hw5, HW4.out]; exact HC2.out
                  clear hw5
                  go_wp2_with fail
                  refine (s_l07Weight b (off + k * 3) z _ hc2).mono ?_
                  rintro e w6 ⟨rfl, hw⟩
                  have HW6 : Hid (∃ m, w6 = wz.drewN m) := Lib.hid (by rw [hw, HW5.out, HW4.out, World.drewN_drewN]; exact ⟨_, rfl⟩)
                  clear hw hc2
                  obtain ⟨m6, hm6⟩ := HW6.out
                  have HM6 := Lib.hid hm6
                  clear hm6
                  go_wp2
                  go_roundw
                  case rel => exact ⟨k + 1, _, _, by omega, by go_num, rfl, Lib.hid (by rw [HSG.out]; exact canonF HS.out (by rw [HDM.out]; exact canonF (wgtV_canon z) HR.out)), by rw [HM6.out]; first | rfl | (simp only [World.drewN_drewN]; rfl)⟩
                  case measure => simp [intOf]; omega
          · have hkk : k = xs.length := by omega
            subst hkk
            have HR0 : Hid (∀ W : World, canon .f32 (fopV .quo .f32 s st W) = fop .quo .f32 (sumG (eqrAt xs P) xs.length) (canon .f32 st)) := Lib.hid (fun W => canonF HS.out rfl)
            have HVV : Hid (eqrV xs st P = rtP (fop .quo .f32 (sumG (eqrAt xs P) xs.length) (canon .f32 st)) P) := rfl
            generalize fop .quo .f32 (sumG (eqrAt xs P) xs.length) (canon .f32 st) = Q at HR0 HVV
            go_wp2_with fail
            go_loopw [12, 13] (fun s i wr => ∃ k q n : Nat, k ≤ P ∧ i = .int .i64 k ∧ s = .float .f32 q ∧ Hid (canon .f32 q = rtP Q k) ∧ wr = wz.drewN n) (fun _ i _ => P - (intOf i).toNat)
            case atStart => exact ⟨0, _, _, Nat.zero_le _, rfl, rfl, Lib.hid (HR0.out _), by first | rfl | (simp only [World.drewN_drewN]; rfl)⟩
            case round =>
              obtain ⟨k, q, n, hk, rfl, rfl, HQ, rfl⟩ := hrel
              have HS1 : Hid (rtP Q (k + 1) = canon .f32 (rootF (rtP Q k))) := rfl
              by_cases hlt : k < P
              · go_wp2_with fail
                refine (s_l01Sqrt _ _).mono ?_
                rintro e w' ⟨r1, n1, rfl, hr1, rfl⟩
                have HR1 : Hid (canon .f32 r1 = rtP Q (k + 1)) := Lib.hid (by rw [HS1.out, hr1, HQ.out])
                clear hr1
                go_wp2
                go_roundw
                case rel => exact ⟨k + 1, _, _, by omega, by go_num, rfl, HR1, by first | rfl | (simp only [World.drewN_drewN]; rfl)⟩
                case measure => simp [intOf]; omega
              · have hkk : k = P := by omega
                subst hkk
                have hv : canon .f32 q = eqrV xs st k := by rw [HVV.out]; exact HQ.out
                go_wp2_with fail
                refine (s_l03NumberC _ (eqrV xs st k) _ hv).mono ?_
                rintro e w' ⟨r', n3, rfl, hr', rfl⟩
                have HR := Lib.hid hr'; clear hr' hv
                go_wp2
                go_ret2
                exact ⟨_, by rw [eqrO_yes HC.out]; rfl, by rw [HR.out, eqrR_yes HC.out], by repeat (first | exact BZ.out | refine below_draws ?_ _)⟩
      · rw [decide_eq_false hp]
        have HN : Hid (eqrC xs st p = false) := Lib.hid (by unfold eqrC; rw [V1.out, V2.out, decide_eq_false hp]; first | rfl | simp)
        go_wp2
        go_ret2
        exact ⟨_, by rw [eqrO_no HN.out]; rfl, by rw [eqrR_no HN.out]; exact canon_zero, BZ.out⟩
end Go.Proofs.Ytpchkedgjikpfab
