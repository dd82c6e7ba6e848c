/- Damages of cycles: both sides. No statement is proved here. -/
import Derived.Test.YtpchkedgjikpfabSoC
import Derived.Test.YtpchkedgjikpfabInv5
namespace Go.Proofs.Ytpchkedgjikpfab
open Go Go.RowKit
def pwK (x q : Nat) : Nat → Nat
  | 0 => x
  | k + 1 => fop .mul .f32 (pwK x q k) q
def dmgAt (xs : List (Nat × Nat × Bool)) (st : Nat) (p k : Nat) : Nat := pwK (wgtV (whB xs k)) (fop .quo .f32 (rchAt xs k) (canon .f32 st)) p
def dmgV (xs : List (Nat × Nat × Bool)) (st p : Nat) : Nat := sumG (dmgAt xs st p) xs.length
def dmgC (xs : List (Nat × Nat × Bool)) (st : Nat) (p : Int) : Bool := areC xs && (posi st && decide (1 ≤ p ∧ p ≤ 12))
def dmgO (xs : List (Nat × Nat × Bool)) (st : Nat) (p : Int) : Bool := dmgC xs st p && fin .f32 (dmgV xs st p.toNat)
def dmgR (xs : List (Nat × Nat × Bool)) (st : Nat) (p : Int) : Nat := if dmgC xs st p then onlyN (dmgV xs st p.toNat) else 0
theorem dmgO_no {xs : List (Nat × Nat × Bool)} {st : Nat} {p : Int} (h : dmgC xs st p = false) : dmgO xs st p = false := by unfold dmgO; rw [h]; rfl
theorem dmgR_no {xs : List (Nat × Nat × Bool)} {st : Nat} {p : Int} (h : dmgC xs st p = false) : dmgR xs st p = 0 := by unfold dmgR; rw [h]; rfl
theorem dmgO_yes {xs : List (Nat × Nat × Bool)} {st P : Nat} (h : dmgC xs st P = true) : dmgO xs st P = fin .f32 (dmgV xs st P) := by unfold dmgO; rw [h]; rfl
theorem dmgR_yes {xs : List (Nat × Nat × Bool)} {st P : Nat} (h : dmgC xs st P = true) : dmgR xs st P = onlyN (dmgV xs st P) := by unfold dmgR; rw [h]; rfl
set_option maxHeartbeats 8000000 in
set_option maxRecDepth 100000 in
theorem i_dmgOne (x y : Nat) (z : Bool) (st P B1 B2 : Nat) (w : World) (k1 : BlkL w B1 [.float .f32 st]) (k2 : BlkL w B2 [.int .i64 P]) (hP : P ≤ 12) :
    Calls Try.prog 76 #[.agg #[.float .f32 x, .float .f32 y, .bool z], .pointer (some ⟨B1, 0, none⟩), .pointer (some ⟨B2, 0, none⟩)] w fun e w' => ∃ r, e = .returned (.float .f32 r) ∧ canon .f32 r = pwK (wgtV z) (fop .quo .f32 (rchV x y) (canon .f32 st)) P ∧ Below w.heap.size w w' := by
  obtain ⟨w0, hw0⟩ : ∃ w0, w0 = w.alloc (.cells #[.float .f32 x, .float .f32 y, .bool z] 70) := ⟨_, rfl⟩
  have B0 : Hid (Below w.heap.size w w0) := Lib.hid (by rw [hw0]; exact (Below.refl _ _).alloc (Nat.le_refl _) _)
  have K0 : Hid (BlkL w0 w.heap.size [.float .f32 x, .float .f32 y, .bool z]) := Lib.hid (by rw [hw0]; exact blkL_at w #[.float .f32 x, .float .f32 y, .bool z] _ rfl)
  have K1 := Lib.hid (k1.below B0.out)
  have K2 := Lib.hid (k2.below B0.out)
  clear k1 k2
  go_enter Try.func76, Try.ntmps76
  go_wp2_with fail
  rw [← hw0]
  clear hw0
  refine wp_region_inv5 (fun iq wv v => match iq with
    | 0 => v = .agg #[.float .f32 x, .float .f32 y, .bool z]
    | 1 => ∃ r, v = .float .f32 r ∧ canon .f32 r = wgtV z
    | 2 => v = .agg #[.float .f32 x, .float .f32 y, .bool z]
    | 3 => ∃ r, v = .float .f32 r ∧ canon .f32 r = rchV x y
    | 4 => v = .float .f32 st
    | 5 => ∃ r, v = .float .f32 r ∧ canon .f32 r = fop .quo .f32 (rchV x y) (canon .f32 st)
    | 6 => ∃ r, v = .float .f32 r ∧ canon .f32 r = wgtV z
    | 7 => ∃ r, v = .float .f32 r ∧ canon .f32 r = fop .quo .f32 (rchV x y) (canon .f32 st)
    | _ => False) (fun _ ww => Below w0.heap.size w0 ww) (fun w w' => Below w.heap.size w w') ?hmono (by kernel_rfl) (by kernel_rfl) ((Below.refl _ _).drew) ?hop ?hend
  case hmono =>
    intro i wa wb v hR hV
    rcases i with _ | _ | _ | _ | _ | _ | _ | _ | i
    · exact hV
    · exact hV
    · exact hV
    · exact hV
    · exact hV
    · exact hV
    · exact hV
    · exact hV
    · exact hV
  case hop =>
    intro q o hq listed act w3 hI hnot hcl hall
    have hB := hI.cls
    obtain ⟨d0, d1, d2⟩ := (K0.out.below hB).three
    have a1 := (K1.out.below hB).one
    rcases q with _ | _ | _ | _ | _ | _ | _ | _ | q
    · simp at hq; subst hq
      have g3 : act.tmps[3]?.getD undef = .pointer (some ⟨w.heap.size, 0, none⟩) := hI.kept 3 (by kernel_rfl)
      clear hI hall hnot hcl
      refine .inl ⟨wanted_none rfl, ?_⟩
      unfold Oper.wp
      go_simp
      all_goals first | exact ⟨_, rfl, Below.refl _ _, rfl, hB⟩ | exact ⟨Below.refl _ _, hB⟩ | exact Below.refl _ _
    · simp at hq; subst hq
      have g7 : act.tmps[7]?.getD undef = .agg #[.float .f32 x, .float .f32 y, .bool z] := hI.has 0 7 rfl (hall ⟨0, .data⟩ (by simp) rfl)
      clear hI hall hnot hcl
      refine .inl ⟨wanted_none rfl, ?_⟩
      unfold Oper.wp
      go_simp
      refine (i_weight _ _ _ _).mono ?_
      rintro e w4 ⟨r4, rfl, h4, b4⟩
      exact ⟨_, rfl, b4, ⟨_, rfl, h4⟩, below_of hB hB.size b4⟩
    · simp at hq; subst hq
      have g3 : act.tmps[3]?.getD undef = .pointer (some ⟨w.heap.size, 0, none⟩) := hI.kept 3 (by kernel_rfl)
      clear hI hall hnot hcl
      refine .inl ⟨wanted_none rfl, ?_⟩
      unfold Oper.wp
      go_simp
      all_goals first | exact ⟨_, rfl, Below.refl _ _, rfl, hB⟩ | exact ⟨Below.refl _ _, hB⟩ | exact Below.refl _ _
    · simp at hq; subst hq
      have g9 : act.tmps[9]?.getD undef = .agg #[.float .f32 x, .float .f32 y, .bool z] := hI.has 2 9 rfl (hall ⟨2, .data⟩ (by simp) rfl)
      clear hI hall hnot hcl
      refine .inl ⟨wanted_none rfl, ?_⟩
      unfold Oper.wp
      go_simp
      refine (i_reach _ _ _ _).mono ?_
      rintro e w4 ⟨r4, rfl, h4, b4⟩
      exact ⟨_, rfl, b4, ⟨_, rfl, h4⟩, below_of hB hB.size b4⟩
    · simp at hq; subst hq
      have g1 : act.tmps[1]?.getD undef = .pointer (some ⟨B1, 0, none⟩) := hI.kept 1 (by kernel_rfl)
      clear hI hall hnot hcl
      refine .inl ⟨wanted_none rfl, ?_⟩
      unfold Oper.wp
      go_simp
      all_goals first | exact ⟨_, rfl, Below.refl _ _, rfl, hB⟩ | exact ⟨Below.refl _ _, hB⟩ | exact Below.refl _ _
    · simp at hq; subst hq
      obtain ⟨r3, g10, h3a⟩ := hI.has 3 10 rfl (hall ⟨3, .data⟩ (by simp) rfl)
      have g11 : act.tmps[11]?.getD undef = .float .f32 st := hI.has 4 11 rfl (hall ⟨4, .data⟩ (by simp) rfl)
      clear hI hall hnot hcl
      refine .inl ⟨wanted_none rfl, ?_⟩
      unfold Oper.wp
      go_simp
      first | exact ⟨_, rfl, below_draws (Below.refl _ _) _, ⟨_, rfl, canonF h3a rfl⟩, below_draws hB _⟩ | exact ⟨_, rfl, below_draws (Below.refl _ _) _, ⟨_, rfl, canonF h3a rfl⟩⟩
    · simp at hq; subst hq
      obtain ⟨r1, g8, h1a⟩ := hI.has 1 8 rfl (hall ⟨1, .data⟩ (by simp) rfl)
      clear hI hall hnot hcl
      refine .inl ⟨wanted_none rfl, ?_⟩
      unfold Oper.wp
      go_simp
      first | exact ⟨_, rfl, Below.refl _ _, ⟨_, rfl, h1a⟩⟩ | exact ⟨_, rfl, Below.refl _ _, ⟨_, rfl, h1a⟩, hB⟩
    · simp at hq; subst hq
      obtain ⟨r5, g12, h5a⟩ := hI.has 5 12 rfl (hall ⟨5, .data⟩ (by simp) rfl)
      clear hI hall hnot hcl
      refine .inl ⟨wanted_none rfl, ?_⟩
      unfold Oper.wp
      go_simp
      first | exact ⟨_, rfl, Below.refl _ _, ⟨_, rfl, h5a⟩⟩ | exact ⟨_, rfl, Below.refl _ _, ⟨_, rfl, h5a⟩, hB⟩
    · simp at hq
  case hend =>
    intro listed act w3 hI hall
    have hB := hI.cls
    obtain ⟨d0, d1, d2⟩ := (K0.out.below hB).three
    have a1 := (K1.out.below hB).one
    obtain ⟨r5, g5, h5⟩ := hI.has 6 5 rfl (hall 6 (by decide))
    obtain ⟨r6, g6, h6⟩ := hI.has 7 6 rfl (hall 7 (by decide))
    have g1 : act.tmps[1]?.getD undef = .pointer (some ⟨B1, 0, none⟩) := hI.kept 1 (by kernel_rfl)
    have g2 : act.tmps[2]?.getD undef = .pointer (some ⟨B2, 0, none⟩) := hI.kept 2 (by kernel_rfl)
    have g0 := hI.kept 0 (by kernel_rfl)
    conv at g0 => rhs; whnf
    have g3 := hI.kept 3 (by kernel_rfl)
    conv at g3 => rhs; whnf
    have g4 := hI.kept 4 (by kernel_rfl)
    conv at g4 => rhs; whnf
    have g13 : act.tmps[13]?.getD undef = undef := hI.kept 13 (by kernel_rfl)
    have g14 : act.tmps[14]?.getD undef = undef := hI.kept 14 (by kernel_rfl)
    have g15 : act.tmps[15]?.getD undef = undef := hI.kept 15 (by kernel_rfl)
    have g16 : act.tmps[16]?.getD undef = undef := hI.kept 16 (by kernel_rfl)
    have g17 : act.tmps[17]?.getD undef = undef := hI.kept 17 (by kernel_rfl)
    have g18 : act.tmps[18]?.getD undef = undef := hI.kept 18 (by kernel_rfl)
    have g19 : act.tmps[19]?.getD undef = undef := hI.kept 19 (by kernel_rfl)
    have g20 : act.tmps[20]?.getD undef = undef := hI.kept 20 (by kernel_rfl)
    have hsz : act.tmps.size = 21 := hI.size.trans (by kernel_rfl)
    have hd := hI.defers
    have B3 : Hid (Below w.heap.size w w3) := Lib.hid (below_of B0.out B0.out.size hB)
    have k2 := (K2.out.below hB).one
    clear hI hall hB d0 d1 d2 a1
    obtain ⟨tt, dd⟩ := act
    simp only at g0 g1 g2 g3 g4 g5 g6 g13 g14 g15 g16 g17 g18 g19 g20 hsz hd
    subst hd
    have hl : tt = #[tt[0]?.getD undef, tt[1]?.getD undef, tt[2]?.getD undef, tt[3]?.getD undef, tt[4]?.getD undef, tt[5]?.getD undef, tt[6]?.getD undef, tt[7]?.getD undef, tt[8]?.getD undef, tt[9]?.getD undef, tt[10]?.getD undef, tt[11]?.getD undef, tt[12]?.getD undef, tt[13]?.getD undef, tt[14]?.getD undef, tt[15]?.getD undef, tt[16]?.getD undef, tt[17]?.getD undef, tt[18]?.getD undef, tt[19]?.getD undef, tt[20]?.getD undef] := (arr_lit hsz).trans rfl
    rw [g0, g1, g2, g3, g4, g5, g6, g13, g14, g15, g16, g17, g18, g19, g20] at hl
    clear g0 g1 g2 g3 g4 g5 g6 g13 g14 g15 g16 g17 g18 g19 g20 hsz
    generalize tt[7]?.getD undef = y7 at hl
    generalize tt[8]?.getD undef = y8 at hl
    generalize tt[9]?.getD undef = y9 at hl
    generalize tt[10]?.getD undef = y10 at hl
    generalize tt[11]?.getD undef = y11 at hl
    generalize tt[12]?.getD undef = y12 at hl
    subst hl
    have H5 := Lib.hid h5
    have H6 := Lib.hid h6
    clear h5 h6
    go_wp2_with fail
    go_loopw [5, 14] (fun s i wr => ∃ k r n : Nat, k ≤ P ∧ i = .int .i64 k ∧ s = .float .f32 r ∧ Hid (canon .f32 r = pwK (wgtV z) (fop .quo .f32 (rchV x y) (canon .f32 st)) k) ∧ wr = w3.drewN n) (fun _ i _ => P - (intOf i).toNat)
    case atStart => exact ⟨0, r5, 0, Nat.zero_le _, rfl, rfl, H5, rfl⟩
    case round =>
      obtain ⟨k, r, n, hk, rfl, rfl, HR, rfl⟩ := hrel
      have HS : Hid (pwK (wgtV z) (fop .quo .f32 (rchV x y) (canon .f32 st)) (k + 1) = fop .mul .f32 (pwK (wgtV z) (fop .quo .f32 (rchV x y) (canon .f32 st)) k) (fop .quo .f32 (rchV x y) (canon .f32 st))) := rfl
      by_cases hlt : k < P
      · go_wp2_with fail
        refine (i_mulNumbers _ _ _).mono ?_
        rintro e w' ⟨rfl, rfl⟩
        go_wp2
        go_roundw
        case rel => exact ⟨k + 1, _, _, by omega, by go_num, rfl, Lib.hid (by rw [HS.out]; exact canonF HR.out H6.out), by first | rfl | (simp only [World.drewN_drewN]; rfl)⟩
        case measure => simp [intOf]; omega
      · have hkk : k = P := by omega
        subst hkk
        go_wp2
        go_ret
        exact ⟨_, rfl, HR.out, below_draws B3.out _⟩
set_option maxHeartbeats 8000000 in
set_option maxRecDepth 100000 in
theorem i_DamageOf (A : Option Addr) (cap : Nat) (xs : List (Nat × Nat × Bool)) (st : Nat) (p : Int) (w : World) (h : FlC w A xs) (hn : xs.length ≤ 1048576) :
    Calls Try.prog 31 #[.slice A xs.length cap, .float .f32 st, .int .i64 p] w fun e w' => ∃ r, e = .returned (.tuple #[.float .f32 r, .bool (dmgO xs st p)]) ∧ canon .f32 r = dmgR xs st p ∧ Below w.heap.size w w' := by
  have HF := Lib.hid h; clear h
  obtain ⟨w0, hw0⟩ : ∃ w0, w0 = (w.alloc (.cells #[.float .f32 st] 30)).alloc (.cells #[.int .i64 p] 2) := ⟨_, rfl⟩
  have B0 : Hid (Below w.heap.size w w0) := Lib.hid (by rw [hw0]; exact ((Below.refl _ _).alloc (Nat.le_refl _) _).alloc (by simp) _)
  have K1 : Hid (BlkL w0 w.heap.size [.float .f32 st]) := Lib.hid (by rw [hw0]; exact (blkL_at w #[.float .f32 st] _ rfl).alloc _)
  have K2 : Hid (BlkL w0 (w.heap.size + 1) [.int .i64 p]) := Lib.hid (by rw [hw0]; exact blkL_at (w.alloc _) #[.int .i64 p] _ (by simp))
  go_enter Try.func31, Try.ntmps31
  go_wp2_with fail
  rw [← hw0]
  clear hw0
  refine (i_AreCycles A cap xs _ (HF.out.below B0.out) hn).mono ?_
  rintro e w1 ⟨rfl, b1⟩
  have B1 : Hid (Below w.heap.size w w1) := Lib.hid (below_of B0.out B0.out.size b1)
  have L1 := Lib.hid (K1.out.below b1)
  have L2 := Lib.hid (K2.out.below b1)
  clear b1 K1 K2
  have k1 := L1.out.one
  have k2 := L2.out.one
  cases v1 : areC xs
  · have HN : Hid (dmgC xs st p = false) := Lib.hid (by unfold dmgC; rw [v1]; first | rfl | simp)
    go_wp2
    go_ret2
    exact ⟨_, by rw [dmgO_no HN.out]; rfl, by rw [dmgR_no HN.out]; exact canon_zero, B1.out⟩
  · have V1 := Lib.hid v1; clear v1
    go_wp2_with fail
    refine (i_isPositive _ _).mono ?_
    rintro e w2 ⟨n2, rfl, hw⟩
    have b1 : Below w1.heap.size w1 w2 := by rw [hw]; exact below_draws (Below.refl _ _) _
    have B2 : Hid (Below w.heap.size w w2) := Lib.hid (below_of B1.out B1.out.size b1)
    have M1 := Lib.hid (L1.out.below b1)
    have M2 := Lib.hid (L2.out.below b1)
    clear b1 hw L1 L2 k1 k2
    have k1 := M1.out.one
    have k2 := M2.out.one
    cases v2 : posi st
    · have HN : Hid (dmgC xs st p = false) := Lib.hid (by unfold dmgC; rw [V1.out, v2]; first | rfl | simp)
      go_wp2
      go_ret2
      exact ⟨_, by rw [dmgO_no HN.out]; rfl, by rw [dmgR_no HN.out]; exact canon_zero, B2.out⟩
    · have V2 := Lib.hid v2; clear v2
      by_cases hp1 : 1 ≤ p
      · by_cases hp2 : p ≤ 12
        · obtain ⟨P, rfl⟩ : ∃ P : Nat, p = P := ⟨p.toNat, by omega⟩
          have HC : Hid (dmgC xs st (P : Int) = true) := Lib.hid (by unfold dmgC; rw [V1.out, V2.out, decide_eq_true ⟨hp1, hp2⟩]; rfl)
          have hP : P ≤ 12 := by omega
          go_wp2_with fail
          refine (i_sumOver_dmg _ _ (dmgAt xs st P) A cap xs _ (HF.out.below B2.out) (areC_len V1.out) (fun k hk W hW => i_dmgOne (loN xs k) (hiN xs k) (whB xs k) st P w.heap.size (w.heap.size + 1) W (M1.out.below hW) (M2.out.below hW) hP)).mono ?_
          rintro e w3 ⟨r, rfl, hr, b1⟩
          have B3 : Hid (Below w.heap.size w w3) := Lib.hid (below_of B2.out B2.out.size b1)
          clear b1 k1 k2
          go_wp2_with fail
          refine (i_onlyFiniteC _ (dmgV xs st P) _ hr).mono ?_
          rintro e w' ⟨r', n3, rfl, hr', rfl⟩
          have HR := Lib.hid hr'; clear hr hr'
          go_wp2
          go_ret2
          exact ⟨_, by rw [dmgO_yes HC.out]; rfl, by rw [HR.out, dmgR_yes HC.out], below_draws B3.out _⟩
        · have HN : Hid (dmgC xs st p = false) := Lib.hid (by unfold dmgC; rw [V1.out, V2.out, decide_eq_false (by omega)]; first | rfl | simp)
          go_wp2
          go_ret2
          exact ⟨_, by rw [dmgO_no HN.out]; rfl, by rw [dmgR_no HN.out]; exact canon_zero, B2.out⟩
      · have HN : Hid (dmgC xs st p = false) := Lib.hid (by unfold dmgC; rw [V1.out, V2.out, decide_eq_false (by omega)]; first | rfl | simp)
        go_wp2
        go_ret2
        exact ⟨_, by rw [dmgO_no HN.out]; rfl, by rw [dmgR_no HN.out]; exact canon_zero, B2.out⟩
set_option maxHeartbeats 16000000 in
set_option maxRecDepth 100000 in
theorem s_DamageOf (A : Option Addr) (cap : Nat) (xs : List (Nat × Nat × Bool)) (st : Nat) (p : Int) (w : World) (h : FlC w A xs) (hn : xs.length ≤ 1048576) :
    Calls Try.prog 30 #[.slice A xs.length cap, .float .f32 st, .int .i64 p] w fun e w' => ∃ r, e = .returned (.tuple #[.float .f32 r, .bool (dmgO xs st p)]) ∧ canon .f32 r = dmgR xs st p ∧ Below w.heap.size w w' := by
  have HF := Lib.hid h; clear h
  go_enter Try.func30, Try.ntmps30
  go_wp2_with fail
  refine (s_l07Are A cap xs _ HF.out hn).mono ?_
  rintro e w1 ⟨rfl, n1, hw⟩
  have B1 : Hid (Below w.heap.size w w1) := Lib.hid (by rw [hw]; exact below_draws (Below.refl _ _) _)
  clear hw
  cases v1 : areC xs
  · have HN : Hid (dmgC xs st p = false) := Lib.hid (by unfold dmgC; rw [v1]; first | rfl | simp)
    go_wp2
    go_ret2
    exact ⟨_, by rw [dmgO_no HN.out]; rfl, by rw [dmgR_no HN.out]; exact canon_zero, B1.out⟩
  · have V1 := Lib.hid v1; clear v1
    go_wp2_with fail
    refine (s_l02Above _ _).mono ?_
    rintro e w2 ⟨n2, rfl, hw⟩
    have B2 : Hid (Below w.heap.size w w2) := Lib.hid (by rw [hw]; exact below_draws B1.out _)
    clear hw
    cases v2 : posi st
    · have HN : Hid (dmgC xs st p = false) := Lib.hid (by unfold dmgC; rw [V1.out, v2]; first | rfl | simp)
      go_wp2
      go_ret2
      exact ⟨_, by rw [dmgO_no HN.out]; rfl, by rw [dmgR_no HN.out]; exact canon_zero, B2.out⟩
    · have V2 := Lib.hid v2; clear v2
      go_wp2_with fail
      refine (l00In_any _ _ _ _).mono ?_
      rintro e wz ⟨rfl, hw⟩
      have BZ : Hid (Below w.heap.size w wz) := Lib.hid (by rw [hw]; exact B2.out)
      clear hw
      by_cases hp : 1 ≤ p ∧ p ≤ 12
      · rw [decide_eq_true hp]
        obtain ⟨P, rfl⟩ : ∃ P : Nat, p = P := ⟨p.toNat, by omega⟩
        have HC : Hid (dmgC xs st (P : Int) = true) := Lib.hid (by unfold dmgC; rw [V1.out, V2.out, decide_eq_true hp]; rfl)
        have hP : P ≤ 12 := by omega
        have HFZ : Hid (FlC wz A xs) := Lib.hid (HF.out.below BZ.out)
        clear hp
        go_wp2_with fail
        go_loopw [8, 28] (fun s i wr => ∃ k n r : Nat, k ≤ xs.length ∧ i = .int .i64 k ∧ s = .float .f32 r ∧ Hid (canon .f32 r = sumG (dmgAt xs st P) k) ∧ wr = wz.drewN n) (fun _ i _ => xs.length - (intOf i).toNat)
        case atStart => exact ⟨0, 0, 0, Nat.zero_le _, rfl, rfl, Lib.hid canon_zero, rfl⟩
        case round =>
          obtain ⟨k, n, s, hk, rfl, rfl, HS, rfl⟩ := hrel
          by_cases hlt : k < xs.length
          · obtain ⟨b, off, rfl, -, hc0, hc1, hc2⟩ := HFZ.out.at_ hlt
            have HSG : Hid (sumG (dmgAt xs st P) (k + 1) = fop .add .f32 (sumG (dmgAt xs st P) k) (dmgAt xs st P k)) := rfl
            have HDM : Hid (dmgAt xs st P k = pwK (wgtV (whB xs k)) (fop .quo .f32 (rchAt xs k) (canon .f32 st)) P) := rfl
            have HRC : Hid (rchAt xs k = rchV (loN xs k) (hiN xs k)) := rfl
            generalize loN xs k = x at hc0 HRC
            generalize hiN xs k = y at hc1 HRC
            generalize whB xs k = z at hc2 HDM
            have HC2 := Lib.hid hc2; clear hc2
            have hst : ∀ m, ∃ nn, { (wz.drewN m) with drawn := (wz.drewN m).drawn + 1 } = wz.drewN nn := fun m => ⟨m + 1, rfl⟩
            have hdd : ∀ nn j, ∃ mm, (wz.drewN nn).drewN j = wz.drewN mm := fun nn j => ⟨nn + j, World.drewN_drewN ..⟩
            go_wp2_with fail
            refine wp_region_inv3 (fun iq v => match iq with
              | 0 => v = .slice (some ⟨b, off, none⟩) xs.length cap
              | 1 => v = .int .i64 k
              | 2 => v = .pointer (some ⟨b, off + k * 3, none⟩)
              | 3 => v = .pointer (some ⟨b, off + k * 3 + 1, none⟩)
              | 4 => v = .float .f32 y
              | 5 => v = .slice (some ⟨b, off, none⟩) xs.length cap
              | 6 => v = .int .i64 k
              | 7 => v = .pointer (some ⟨b, off + k * 3, none⟩)
              | 8 => v = .pointer (some ⟨b, off + k * 3, none⟩)
              | 9 => v = .float .f32 x
              | 10 => ∃ r, v = .float .f32 r ∧ canon .f32 r = fop .sub .f32 (canon .f32 y) (canon .f32 x)
              | 11 => v = .float .f32 st
              | 12 => ∃ r, v = .float .f32 r ∧ canon .f32 r = fop .quo .f32 (fop .sub .f32 (canon .f32 y) (canon .f32 x)) (canon .f32 st)
              | 13 => ∃ r, v = .float .f32 r ∧ canon .f32 r = fop .quo .f32 (fop .sub .f32 (canon .f32 y) (canon .f32 x)) (canon .f32 st)
              | _ => False) (fun _ ww => ∃ nn, ww = wz.drewN nn) (by kernel_rfl) (by kernel_rfl) (hst _) ?hop ?hend
            case hop =>
              intro q o hq listed act w3 hI hnot hcl hall
              obtain ⟨nn, rfl⟩ := hI.cls
              rcases q with _ | _ | _ | _ | _ | _ | _ | _ | _ | _ | _ | _ | _ | _ | q
              · simp at hq; subst hq
                have g0 : act.tmps[0]?.getD undef = .slice (some ⟨b, off, none⟩) xs.length cap := hI.kept 0 (by kernel_rfl)
                clear hI hall hnot hcl
                refine .inl ⟨wanted_none rfl, ?_⟩
                unfold Oper.wp
                go_simp
                all_goals exact ⟨_, rfl, rfl, ⟨_, rfl⟩⟩
              · simp at hq; subst hq
                have g9 : act.tmps[9]?.getD undef = .int .i64 k := hI.kept 9 (by kernel_rfl)
                clear hI hall hnot hcl
                refine .inl ⟨wanted_none rfl, ?_⟩
                unfold Oper.wp
                go_simp
                all_goals exact ⟨_, rfl, rfl, ⟨_, rfl⟩⟩
              · simp at hq; subst hq
                have g31 : act.tmps[31]?.getD undef = .slice (some ⟨b, off, none⟩) xs.length cap := hI.has 0 31 rfl (hall ⟨0, .data⟩ (by simp) rfl)
                have g32 : act.tmps[32]?.getD undef = .int .i64 k := hI.has 1 32 rfl (hall ⟨1, .data⟩ (by simp) rfl)
                clear hI hall hnot hcl
                refine .inl ⟨wanted_none rfl, ?_⟩
                unfold Oper.wp
                go_simp
                all_goals exact ⟨_, rfl, rfl, ⟨_, rfl⟩⟩
              · simp at hq; subst hq
                have g33 : act.tmps[33]?.getD undef = .pointer (some ⟨b, off + k * 3, none⟩) := hI.has 2 33 rfl (hall ⟨2, .data⟩ (by simp) rfl)
                clear hI hall hnot hcl
                refine .inl ⟨wanted_none rfl, ?_⟩
                unfold Oper.wp
                go_simp
                all_goals exact ⟨_, rfl, rfl, ⟨_, rfl⟩⟩
              · simp at hq; subst hq
                have g34 : act.tmps[34]?.getD undef = .pointer (some ⟨b, off + k * 3 + 1, none⟩) := hI.has 3 34 rfl (hall ⟨3, .data⟩ (by simp) rfl)
                clear hI hall hnot hcl
                refine .inl ⟨wanted_none rfl, ?_⟩
                unfold Oper.wp
                go_simp
                all_goals exact ⟨_, rfl, rfl, ⟨_, rfl⟩⟩
              · simp at hq; subst hq
                have g0 : act.tmps[0]?.getD undef = .slice (some ⟨b, off, none⟩) xs.length cap := hI.kept 0 (by kernel_rfl)
                clear hI hall hnot hcl
                refine .inl ⟨wanted_none rfl, ?_⟩
                unfold Oper.wp
                go_simp
                all_goals exact ⟨_, rfl, rfl, ⟨_, rfl⟩⟩
              · simp at hq; subst hq
                have g9 : act.tmps[9]?.getD undef = .int .i64 k := hI.kept 9 (by kernel_rfl)
                clear hI hall hnot hcl
                refine .inl ⟨wanted_none rfl, ?_⟩
                unfold Oper.wp
                go_simp
                all_goals exact ⟨_, rfl, rfl, ⟨_, rfl⟩⟩
              · simp at hq; subst hq
                have g36 : act.tmps[36]?.getD undef = .slice (some ⟨b, off, none⟩) xs.length cap := hI.has 5 36 rfl (hall ⟨5, .data⟩ (by simp) rfl)
                have g37 : act.tmps[37]?.getD undef = .int .i64 k := hI.has 6 37 rfl (hall ⟨6, .data⟩ (by simp) rfl)
                clear hI hall hnot hcl
                refine .inl ⟨wanted_none rfl, ?_⟩
                unfold Oper.wp
                go_simp
                all_goals exact ⟨_, rfl, rfl, ⟨_, rfl⟩⟩
              · simp at hq; subst hq
                have g38 : act.tmps[38]?.getD undef = .pointer (some ⟨b, off + k * 3, none⟩) := hI.has 7 38 rfl (hall ⟨7, .data⟩ (by simp) rfl)
                clear hI hall hnot hcl
                refine .inl ⟨wanted_none rfl, ?_⟩
                unfold Oper.wp
                go_simp
                all_goals exact ⟨_, rfl, rfl, ⟨_, rfl⟩⟩
              · simp at hq; subst hq
                have g39 : act.tmps[39]?.getD undef = .pointer (some ⟨b, off + k * 3, none⟩) := hI.has 8 39 rfl (hall ⟨8, .data⟩ (by simp) rfl)
                clear hI hall hnot hcl
                refine .inl ⟨wanted_none rfl, ?_⟩
                unfold Oper.wp
                go_simp
                all_goals exact ⟨_, rfl, rfl, ⟨_, rfl⟩⟩
              · simp at hq; subst hq
                have g35 : act.tmps[35]?.getD undef = .float .f32 y := hI.has 4 35 rfl (hall ⟨4, .data⟩ (by simp) rfl)
                have g40 : act.tmps[40]?.getD undef = .float .f32 x := hI.has 9 40 rfl (hall ⟨9, .data⟩ (by simp) rfl)
                clear hI hall hnot hcl
                refine .inl ⟨wanted_none rfl, ?_⟩
                unfold Oper.wp
                go_simp
                exact ⟨_, rfl, ⟨_, rfl, canonF rfl rfl⟩, by first | exact ⟨_, rfl⟩ | exact hdd _ _⟩
              · simp at hq; subst hq
                have g1 : act.tmps[1]?.getD undef = .float .f32 st := hI.kept 1 (by kernel_rfl)
                clear hI hall hnot hcl
                refine .inl ⟨wanted_none rfl, ?_⟩
                unfold Oper.wp
                go_simp
                all_goals exact ⟨_, rfl, rfl, ⟨_, rfl⟩⟩
              · simp at hq; subst hq
                obtain ⟨r10, g41, h10a⟩ := hI.has 10 41 rfl (hall ⟨10, .data⟩ (by simp) rfl)
                have g42 : act.tmps[42]?.getD undef = .float .f32 st := hI.has 11 42 rfl (hall ⟨11, .data⟩ (by simp) rfl)
                clear hI hall hnot hcl
                refine .inl ⟨wanted_none rfl, ?_⟩
                unfold Oper.wp
                go_simp
                exact ⟨_, rfl, ⟨_, rfl, canonF h10a rfl⟩, by first | exact ⟨_, rfl⟩ | exact hdd _ _⟩
              · simp at hq; subst hq
                obtain ⟨r12, g43, h12a⟩ := hI.has 12 43 rfl (hall ⟨12, .data⟩ (by simp) rfl)
                clear hI hall hnot hcl
                refine .inl ⟨wanted_none rfl, ?_⟩
                unfold Oper.wp
                go_simp
                exact ⟨_, rfl, ⟨_, rfl, h12a⟩, ⟨_, rfl⟩⟩
              · simp at hq
            case hend =>
              intro listed act w3 hI hall
              obtain ⟨nn, rfl⟩ := hI.cls
              obtain ⟨r10, g10, h10⟩ := hI.has 13 10 rfl (hall 13 (by decide))
              have g8 : act.tmps[8]?.getD undef = .float .f32 s := hI.kept 8 (by kernel_rfl)
              have g9 : act.tmps[9]?.getD undef = .int .i64 k := hI.kept 9 (by kernel_rfl)
              have g28 : act.tmps[28]?.getD undef = .int .i64 k := hI.kept 28 (by kernel_rfl)
              have g0 := hI.kept 0 (by kernel_rfl)
              conv at g0 => rhs; whnf
              have g1 := hI.kept 1 (by kernel_rfl)
              conv at g1 => rhs; whnf
              have g2 := hI.kept 2 (by kernel_rfl)
              conv at g2 => rhs; whnf
              have g3 : act.tmps[3]?.getD undef = undef := hI.kept 3 (by kernel_rfl)
              have g4 : act.tmps[4]?.getD undef = undef := hI.kept 4 (by kernel_rfl)
              have g5 : act.tmps[5]?.getD undef = undef := hI.kept 5 (by kernel_rfl)
              have g6 := hI.kept 6 (by kernel_rfl)
              conv at g6 => rhs; whnf
              have g7 := hI.kept 7 (by kernel_rfl)
              conv at g7 => rhs; whnf
              have g13 := hI.kept 13 (by kernel_rfl)
              conv at g13 => rhs; whnf
              have g14 := hI.kept 14 (by kernel_rfl)
              conv at g14 => rhs; whnf
              have g15 := hI.kept 15 (by kernel_rfl)
              conv at g15 => rhs; whnf
              have g16 := hI.kept 16 (by kernel_rfl)
              conv at g16 => rhs; whnf
              have g17 := hI.kept 17 (by kernel_rfl)
              conv at g17 => rhs; whnf
              have g18 := hI.kept 18 (by kernel_rfl)
              conv at g18 => rhs; whnf
              have g19 := hI.kept 19 (by kernel_rfl)
              conv at g19 => rhs; whnf
              have g20 := hI.kept 20 (by kernel_rfl)
              conv at g20 => rhs; whnf
              have g21 := hI.kept 21 (by kernel_rfl)
              conv at g21 => rhs; whnf
              have g22 := hI.kept 22 (by kernel_rfl)
              conv at g22 => rhs; whnf
              have g23 := hI.kept 23 (by kernel_rfl)
              conv at g23 => rhs; whnf
              have g24 := hI.kept 24 (by kernel_rfl)
              conv at g24 => rhs; whnf
              have g25 := hI.kept 25 (by kernel_rfl)
              conv at g25 => rhs; whnf
              have g26 := hI.kept 26 (by kernel_rfl)
              conv at g26 => rhs; whnf
              have g27 := hI.kept 27 (by kernel_rfl)
              conv at g27 => rhs; whnf
              have g60 : act.tmps[60]?.getD undef = undef := hI.kept 60 (by kernel_rfl)
              have g61 : act.tmps[61]?.getD undef = undef := hI.kept 61 (by kernel_rfl)
              have g62 : act.tmps[62]?.getD undef = undef := hI.kept 62 (by kernel_rfl)
              have g63 : act.tmps[63]?.getD undef = undef := hI.kept 63 (by kernel_rfl)
              have hsz : act.tmps.size = 64 := hI.size.trans (by kernel_rfl)
              have hd := hI.defers
              clear hI hall
              obtain ⟨tt, dd⟩ := act
              simp only at g0 g1 g2 g3 g4 g5 g6 g7 g8 g9 g10 g13 g14 g15 g16 g17 g18 g19 g20 g21 g22 g23 g24 g25 g26 g27 g28 g60 g61 g62 g63 hsz hd
              subst hd
              have hl : tt = #[tt[0]?.getD undef, tt[1]?.getD undef, tt[2]?.getD undef, tt[3]?.getD undef, tt[4]?.getD undef, tt[5]?.getD undef, tt[6]?.getD undef, tt[7]?.getD undef, tt[8]?.getD undef, tt[9]?.getD undef, tt[10]?.getD undef, tt[11]?.getD undef, tt[12]?.getD undef, tt[13]?.getD undef, tt[14]?.getD undef, tt[15]?.getD undef, tt[16]?.getD undef, tt[17]?.getD undef, tt[18]?.getD undef, tt[19]?.getD undef, tt[20]?.getD undef, tt[21]?.getD undef, tt[22]?.getD undef, tt[23]?.getD undef, tt[24]?.getD undef, tt[25]?.getD undef, tt[26]?.getD undef, tt[27]?.getD undef, tt[28]?.getD undef, tt[29]?.getD undef, tt[30]?.getD undef, tt[31]?.getD undef, tt[32]?.getD undef, tt[33]?.getD undef, tt[34]?.getD undef, tt[35]?.getD undef, tt[36]?.getD undef, tt[37]?.getD undef, tt[38]?.getD undef, tt[39]?.getD undef, tt[40]?.getD undef, tt[41]?.getD undef, tt[42]?.getD undef, tt[43]?.getD undef, tt[44]?.getD undef, tt[45]?.getD undef, tt[46]?.getD undef, tt[47]?.getD undef, tt[48]?.getD undef, tt[49]?.getD undef, tt[50]?.getD undef, tt[51]?.getD undef, tt[52]?.getD undef, tt[53]?.getD undef, tt[54]?.getD undef, tt[55]?.getD undef, tt[56]?.getD undef, tt[57]?.getD undef, tt[58]?.getD undef, tt[59]?.getD undef, tt[60]?.getD undef, tt[61]?.getD undef, tt[62]?.getD undef, tt[63]?.getD undef] := (arr_lit hsz).trans rfl
              rw [g0, g1, g2, g3, g4, g5, g6, g7, g8, g9, g10, g13, g14, g15, g16, g17, g18, g19, g20, g21, g22, g23, g24, g25, g26, g27, g28, g60, g61, g62, g63] at hl
              clear g0 g1 g2 g3 g4 g5 g6 g7 g8 g9 g10 g13 g14 g15 g16 g17 g18 g19 g20 g21 g22 g23 g24 g25 g26 g27 g28 g60 g61 g62 g63 hsz
              generalize tt[11]?.getD undef = y11 at hl
              generalize tt[12]?.getD undef = y12 at hl
              generalize tt[29]?.getD undef = y29 at hl
              generalize tt[30]?.getD undef = y30 at hl
              generalize tt[31]?.getD undef = y31 at hl
              generalize tt[32]?.getD undef = y32 at hl
              generalize tt[33]?.getD undef = y33 at hl
              generalize tt[34]?.getD undef = y34 at hl
              generalize tt[35]?.getD undef = y35 at hl
              generalize tt[36]?.getD undef = y36 at hl
              generalize tt[37]?.getD undef = y37 at hl
              generalize tt[38]?.getD undef = y38 at hl
              generalize tt[39]?.getD undef = y39 at hl
              generalize tt[40]?.getD undef = y40 at hl
              generalize tt[41]?.getD undef = y41 at hl
              generalize tt[42]?.getD undef = y42 at hl
              generalize tt[43]?.getD undef = y43 at hl
              generalize tt[44]?.getD undef = y44 at hl
              generalize tt[45]?.getD undef = y45 at hl
              generalize tt[46]?.getD undef = y46 at hl
              generalize tt[47]?.getD undef = y47 at hl
              generalize tt[48]?.getD undef = y48 at hl
              generalize tt[49]?.getD undef = y49 at hl
              generalize tt[50]?.getD undef = y50 at hl
              generalize tt[51]?.getD undef = y51 at hl
              generalize tt[52]?.getD undef = y52 at hl
              generalize tt[53]?.getD undef = y53 at hl
              generalize tt[54]?.getD undef = y54 at hl
              generalize tt[55]?.getD undef = y55 at hl
              generalize tt[56]?.getD undef = y56 at hl
              generalize tt[57]?.getD undef = y57 at hl
              generalize tt[58]?.getD undef = y58 at hl
              generalize tt[59]?.getD undef = y59 at hl
              subst hl
              have H10 : Hid (canon .f32 r10 = fop .quo .f32 (rchAt xs k) (canon .f32 st)) := Lib.hid (by rw [HRC.out]; exact h10)
              clear h10 hc0 hc1
              obtain ⟨w4, hw4⟩ : ∃ w4, w4 = wz.drewN nn := ⟨_, rfl⟩
              rw [← hw4]
              have HW4 := Lib.hid hw4
              have hc2 : w4.cell? ⟨b, off + k * 3 + 2, none⟩ = some (.bool z) := by rw [hw4]; exact HC2.out
              clear hw4
              go_wp2_with fail
              refine (s_l07Weight b (off + k * 3) z _ hc2).mono ?_
              rintro e w5 ⟨rfl, hw⟩
              have HW5 : Hid (w5 = wz.drewN nn) := Lib.hid (by rw [hw, HW4.out])
              clear hw hc2
              go_wp2_with fail
              go_loopw [11, 12] (fun v i wr => ∃ j r n : Nat, j ≤ P ∧ i = .int .i64 j ∧ v = .float .f32 r ∧ Hid (canon .f32 r = pwK (wgtV z) (fop .quo .f32 (rchAt xs k) (canon .f32 st)) j) ∧ wr = w5.drewN n) (fun _ i _ => P - (intOf i).toNat)
              case atStart => exact ⟨0, wgtV z, 0, Nat.zero_le _, rfl, rfl, Lib.hid (wgtV_canon z), rfl⟩
              case round =>
                obtain ⟨j, r, n, hj, rfl, rfl, HR, rfl⟩ := hrel
                have HP2 : Hid (pwK (wgtV z) (fop .quo .f32 (rchAt xs k) (canon .f32 st)) (j + 1) = fop .mul .f32 (pwK (wgtV z) (fop .quo .f32 (rchAt xs k) (canon .f32 st)) j) (fop .quo .f32 (rchAt xs k) (canon .f32 st))) := rfl
                by_cases hltj : j < P
                · go_wp2
                  go_roundw
                  case rel => exact ⟨j + 1, _, _, by omega, by go_num, rfl, Lib.hid (by rw [HP2.out]; exact canonF HR.out H10.out), by first | rfl | (simp only [World.drewN_drewN]; rfl)⟩
                  case measure => simp [intOf]; omega
                · have hkk : j = P := by omega
                  subst hkk
                  go_wp2
                  go_roundw
                  case rel => exact ⟨k + 1, _, _, by omega, by go_num, rfl, Lib.hid (by rw [HSG.out]; exact canonF HS.out (by rw [HDM.out]; exact HR.out)), by rw [HW5.out]; first | rfl | (simp only [World.drewN_drewN]; rfl)⟩
                  case measure => simp [intOf]; omega
          · have hkk : k = xs.length := by omega
            subst hkk
            have hv : canon .f32 s = dmgV xs st P := HS.out
            go_wp2_with fail
            refine (s_l03NumberC _ (dmgV xs st P) _ hv).mono ?_
            rintro e w' ⟨r', n3, rfl, hr', rfl⟩
            have HR := Lib.hid hr'; clear hr' hv
            go_wp2
            go_ret2
            exact ⟨_, by rw [dmgO_yes HC.out]; rfl, by rw [HR.out, dmgR_yes HC.out], by repeat (first | exact BZ.out | refine below_draws ?_ _)⟩
      · rw [decide_eq_false hp]
        have HN : Hid (dmgC xs st p = false) := Lib.hid (by unfold dmgC; rw [V1.out, V2.out, decide_eq_false hp]; first | rfl | simp)
        go_wp2
        go_ret2
        exact ⟨_, by rw [dmgO_no HN.out]; rfl, by rw [dmgR_no HN.out]; exact canon_zero, BZ.out⟩
end Go.Proofs.Ytpchkedgjikpfab
