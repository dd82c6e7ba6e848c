/- The longest cycle: both sides. No statement is proved here. -/
import Derived.Test.YtpchkedgjikpfabRch
namespace Go.Proofs.Ytpchkedgjikpfab
open Go Go.RowKit
/-- the first cycle with the greatest range -/
def lngK (xs : List (Nat × Nat × Bool)) : Nat → Nat
  | 0 => 0
  | k + 1 => if gtr32 (rchAt xs k) (rchAt xs (lngK xs k)) then k else lngK xs k
theorem lngK_lt (xs : List (Nat × Nat × Bool)) : ∀ k, 0 < k → lngK xs k < k := by
  intro k; induction k with
  | zero => intro h; omega
  | succ k ih =>
    intro _
    simp only [lngK]
    split
    · omega
    · by_cases h0 : k = 0
      · subst h0; simp [lngK]
      · have := ih (by omega); omega
theorem lngK_in {xs : List (Nat × Nat × Bool)} {k n : Nat} (hk : k ≤ n) (hn : 0 < n) : lngK xs k < n := by
  by_cases h0 : k = 0
  · subst h0; exact hn
  · have := lngK_lt xs k (by omega); omega
def lngC (xs : List (Nat × Nat × Bool)) : Bool := areC xs && decide (0 < xs.length)
def lngO (xs : List (Nat × Nat × Bool)) : Bool := lngC xs && fin .f32 (rchAt xs (lngK xs xs.length))
def lngI (xs : List (Nat × Nat × Bool)) : Int := if lngO xs then (lngK xs xs.length : Nat) else 0
def lngR (xs : List (Nat × Nat × Bool)) : Nat := if lngO xs then rchAt xs (lngK xs xs.length) else 0
theorem lngO_a {xs : List (Nat × Nat × Bool)} (h : areC xs = false) : lngO xs = false := by unfold lngO lngC; rw [h]; rfl
theorem lngO_z {xs : List (Nat × Nat × Bool)} (h : xs.length = 0) : lngO xs = false := by unfold lngO lngC; rw [h]; simp
theorem lngO_yes {xs : List (Nat × Nat × Bool)} (h : areC xs = true) (h0 : 0 < xs.length) : lngO xs = fin .f32 (rchAt xs (lngK xs xs.length)) := by unfold lngO lngC; rw [h, decide_eq_true h0]; rfl
theorem lngI_no {xs : List (Nat × Nat × Bool)} (h : lngO xs = false) : lngI xs = 0 := by unfold lngI; rw [h]; rfl
theorem lngR_no {xs : List (Nat × Nat × Bool)} (h : lngO xs = false) : lngR xs = 0 := by unfold lngR; rw [h]; rfl
theorem lngI_yes {xs : List (Nat × Nat × Bool)} (h : lngO xs = true) : lngI xs = (lngK xs xs.length : Nat) := by unfold lngI; rw [h]; rfl
theorem lngR_yes {xs : List (Nat × Nat × Bool)} (h : lngO xs = true) : lngR xs = rchAt xs (lngK xs xs.length) := by unfold lngR; rw [h]; rfl
set_option maxHeartbeats 8000000 in
set_option maxRecDepth 100000 in
theorem i_leastOf (A : Option Addr) (cap : Nat) (xs : List (Nat × Nat × Bool)) (w : World) (h : FlC w A xs) (hn : xs.length ≤ 1048576) (h0 : 0 < xs.length) :
    Calls Try.prog 69 #[.slice A xs.length cap, .func (.func 70) #[] #[]] w fun e w' => e = .returned (.int .i64 (lngK xs xs.length : Nat)) ∧ Below w.heap.size w w' := by
  have HF := Lib.hid h; clear h
  go_enter Try.func69, Try.ntmps69
  go_wp2
  go_loopw [5, 10] (fun s i wr => ∃ k : Nat, k ≤ xs.length ∧ i = .int .i64 k ∧ s = .int .i64 (lngK xs k : Nat) ∧ Hid (Below w.heap.size w wr)) (fun _ i _ => xs.length - (intOf i).toNat)
  case atStart => exact ⟨0, Nat.zero_le _, rfl, rfl, Lib.hid (Below.refl _ _)⟩
  case round =>
    obtain ⟨k, hk, rfl, rfl, HB⟩ := hrel
    have hq := lngK_in (xs := xs) hk h0
    by_cases hlt : k < xs.length
    · obtain ⟨b, off, rfl, hb, hc0, hc1, hc2⟩ := (HF.out.below HB.out).at_ hlt
      have HS : Hid (lngK xs (k + 1) = if gtr32 (rchV (loN xs k) (hiN xs k)) (rchV (loN xs (lngK xs k)) (hiN xs (lngK xs k))) then k else lngK xs k) := rfl
      generalize lngK xs k = q at HS hq ⊢
      have HC : Hid (∀ W, Below w.heap.size w W → W.cell? ⟨b, off + q * 3, none⟩ = some (.float .f32 (loN xs q)) ∧ W.cell? ⟨b, off + q * 3 + 1, none⟩ = some (.float .f32 (hiN xs q)) ∧ W.cell? ⟨b, off + q * 3 + 2, none⟩ = some (.bool (whB xs q))) := Lib.hid (fun W hW => (HF.out.below hW).same hq)
      generalize loN xs k = x at hc0 HS
      generalize hiN xs k = y at hc1 HS
      generalize whB xs k = z at hc2
      generalize loN xs q = x' at HC HS
      generalize hiN xs q = y' at HC HS
      generalize whB xs q = z' at HC
      obtain ⟨w2, hw2⟩ : ∃ w2, w2 = wr.alloc (.cells #[.float .f32 x, .float .f32 y, .bool z] 70) := ⟨_, rfl⟩
      have K2 : Hid (BlkL w2 wr.heap.size [.float .f32 x, .float .f32 y, .bool z]) := Lib.hid (by rw [hw2]; exact blkL_at wr #[.float .f32 x, .float .f32 y, .bool z] _ rfl)
      have B2 : Hid (Below w.heap.size w w2) := Lib.hid (by rw [hw2]; exact HB.out.alloc HB.out.size _)
      clear hb
      go_wp2_with fail
      rw [← hw2]
      clear hw2 hc0 hc1 hc2
      refine wp_region_inv4 (fun iq wv v => match iq with
        | 0 => v = .func (.func 70) #[] #[]
        | 1 => v = .agg #[.float .f32 x, .float .f32 y, .bool z]
        | 2 => v = .slice (some ⟨b, off, none⟩) xs.length cap
        | 3 => v = .int .i64 q
        | 4 => v = .pointer (some ⟨b, off + q * 3, none⟩)
        | 5 => v = .agg #[.float .f32 x', .float .f32 y', .bool z']
        | 6 => v = .bool (gtr32 (rchV x y) (rchV x' y'))
        | _ => False) (fun _ ww => Below w2.heap.size w2 ww) (fun w w' => Below w.heap.size w w') ?hmono (by kernel_rfl) (by kernel_rfl) ((Below.refl _ _).drew) ?hop ?hend
      case hmono =>
        intro i wa wb v hR hV
        rcases i with _ | _ | _ | _ | _ | _ | _ | i
        · exact hV
        · exact hV
        · exact hV
        · exact hV
        · exact hV
        · exact hV
        · exact hV
        · exact hV
      case hop =>
        intro q o hq listed act w3 hI hnot hcl hall
        have hB := hI.cls
        obtain ⟨a0, a1, a2⟩ := (K2.out.below hB).three
        obtain ⟨c0, c1, c2⟩ := HC.out _ (below_of B2.out B2.out.size hB)
        rcases q with _ | _ | _ | _ | _ | _ | _ | q
        · simp at hq; subst hq
          have g1 : act.tmps[1]?.getD undef = .func (.func 70) #[] #[] := hI.kept 1 (by kernel_rfl)
          clear hI hall hnot hcl
          refine .inl ⟨wanted_none rfl, ?_⟩
          unfold Oper.wp
          go_simp
          all_goals first | exact ⟨_, rfl, Below.refl _ _, rfl, hB⟩ | exact ⟨Below.refl _ _, hB⟩ | exact Below.refl _ _
        · simp at hq; subst hq
          have g7 : act.tmps[7]?.getD undef = .pointer (some ⟨wr.heap.size, 0, none⟩) := hI.kept 7 (by kernel_rfl)
          clear hI hall hnot hcl
          refine .inl ⟨wanted_none rfl, ?_⟩
          unfold Oper.wp
          go_simp
          all_goals first | exact ⟨_, rfl, Below.refl _ _, rfl, hB⟩ | exact ⟨Below.refl _ _, hB⟩ | exact Below.refl _ _
        · simp at hq; subst hq
          have g0 : act.tmps[0]?.getD undef = .slice (some ⟨b, off, none⟩) xs.length cap := hI.kept 0 (by kernel_rfl)
          clear hI hall hnot hcl
          refine .inl ⟨wanted_none rfl, ?_⟩
          unfold Oper.wp
          go_simp
          all_goals first | exact ⟨_, rfl, Below.refl _ _, rfl, hB⟩ | exact ⟨Below.refl _ _, hB⟩ | exact Below.refl _ _
        · simp at hq; subst hq
          have g5 : act.tmps[5]?.getD undef = .int .i64 q := hI.kept 5 (by kernel_rfl)
          clear hI hall hnot hcl
          refine .inl ⟨wanted_none rfl, ?_⟩
          unfold Oper.wp
          go_simp
          all_goals first | exact ⟨_, rfl, Below.refl _ _, rfl, hB⟩ | exact ⟨Below.refl _ _, hB⟩ | exact Below.refl _ _
        · simp at hq; subst hq
          have g17 : act.tmps[17]?.getD undef = .slice (some ⟨b, off, none⟩) xs.length cap := hI.has 2 17 rfl (hall ⟨2, .data⟩ (by simp) rfl)
          have g18 : act.tmps[18]?.getD undef = .int .i64 q := hI.has 3 18 rfl (hall ⟨3, .data⟩ (by simp) rfl)
          clear hI hall hnot hcl
          refine .inl ⟨wanted_none rfl, ?_⟩
          unfold Oper.wp
          go_simp
          all_goals first | exact ⟨_, rfl, Below.refl _ _, rfl, hB⟩ | exact ⟨Below.refl _ _, hB⟩ | exact Below.refl _ _
        · simp at hq; subst hq
          have g19 : act.tmps[19]?.getD undef = .pointer (some ⟨b, off + q * 3, none⟩) := hI.has 4 19 rfl (hall ⟨4, .data⟩ (by simp) rfl)
          clear hI hall hnot hcl
          refine .inl ⟨wanted_none rfl, ?_⟩
          unfold Oper.wp
          go_simp
          all_goals first | exact ⟨_, rfl, Below.refl _ _, rfl, hB⟩ | exact ⟨Below.refl _ _, hB⟩ | exact Below.refl _ _
        · simp at hq; subst hq
          have g15 : act.tmps[15]?.getD undef = .func (.func 70) #[] #[] := hI.has 0 15 rfl (hall ⟨0, .data⟩ (by simp) rfl)
          have g16 : act.tmps[16]?.getD undef = .agg #[.float .f32 x, .float .f32 y, .bool z] := hI.has 1 16 rfl (hall ⟨1, .data⟩ (by simp) rfl)
          have g20 : act.tmps[20]?.getD undef = .agg #[.float .f32 x', .float .f32 y', .bool z'] := hI.has 5 20 rfl (hall ⟨5, .data⟩ (by simp) rfl)
          clear hI hall hnot hcl
          refine .inl ⟨wanted_none rfl, ?_⟩
          unfold Oper.wp
          go_simp
          refine (i_reachesFurther _ _ _ _ _ _ _).mono ?_
          rintro e w4 ⟨rfl, b4⟩
          exact ⟨_, rfl, b4, rfl, below_of hB hB.size b4⟩
        · simp at hq
      case hend =>
        intro listed act w3 hI hall
        have hB := hI.cls
        obtain ⟨a0, a1, a2⟩ := (K2.out.below hB).three
        obtain ⟨c0, c1, c2⟩ := HC.out _ (below_of B2.out B2.out.size hB)
        have g21 : act.tmps[21]?.getD undef = .bool (gtr32 (rchV x y) (rchV x' y')) := hI.has 6 21 rfl (hall 6 (by decide))
        have g5 : act.tmps[5]?.getD undef = .int .i64 q := hI.kept 5 (by kernel_rfl)
        have g6 : act.tmps[6]?.getD undef = .int .i64 k := hI.kept 6 (by kernel_rfl)
        have g10 : act.tmps[10]?.getD undef = .int .i64 k := hI.kept 10 (by kernel_rfl)
        have g0 := hI.kept 0 (by kernel_rfl)
        conv at g0 => rhs; whnf
        have g1 := hI.kept 1 (by kernel_rfl)
        conv at g1 => rhs; whnf
        have g2 : act.tmps[2]?.getD undef = undef := hI.kept 2 (by kernel_rfl)
        have g3 : act.tmps[3]?.getD undef = undef := hI.kept 3 (by kernel_rfl)
        have g4 := hI.kept 4 (by kernel_rfl)
        conv at g4 => rhs; whnf
        have g8 := hI.kept 8 (by kernel_rfl)
        conv at g8 => rhs; whnf
        have g9 := hI.kept 9 (by kernel_rfl)
        conv at g9 => rhs; whnf
        have g24 : act.tmps[24]?.getD undef = undef := hI.kept 24 (by kernel_rfl)
        have hsz : act.tmps.size = 25 := hI.size.trans (by kernel_rfl)
        have hd := hI.defers
        have B3 : Hid (Below w.heap.size w w3) := Lib.hid (below_of B2.out B2.out.size hB)
        clear hI hall hB a0 a1 a2 c0 c1 c2
        obtain ⟨tt, dd⟩ := act
        simp only at g0 g1 g2 g3 g4 g5 g6 g8 g9 g10 g21 g24 hsz hd
        subst hd
        have hl : tt = #[tt[0]?.getD undef, tt[1]?.getD undef, tt[2]?.getD undef, tt[3]?.getD undef, tt[4]?.getD undef, tt[5]?.getD undef, tt[6]?.getD undef, tt[7]?.getD undef, tt[8]?.getD undef, tt[9]?.getD undef, tt[10]?.getD undef, tt[11]?.getD undef, tt[12]?.getD undef, tt[13]?.getD undef, tt[14]?.getD undef, tt[15]?.getD undef, tt[16]?.getD undef, tt[17]?.getD undef, tt[18]?.getD undef, tt[19]?.getD undef, tt[20]?.getD undef, tt[21]?.getD undef, tt[22]?.getD undef, tt[23]?.getD undef, tt[24]?.getD undef] := (arr_lit hsz).trans rfl
        rw [g0, g1, g2, g3, g4, g5, g6, g8, g9, g10, g21, g24] at hl
        clear g0 g1 g2 g3 g4 g5 g6 g8 g9 g10 g21 g24 hsz
        generalize tt[7]?.getD undef = y7 at hl
        generalize tt[11]?.getD undef = y11 at hl
        generalize tt[12]?.getD undef = y12 at hl
        generalize tt[13]?.getD undef = y13 at hl
        generalize tt[14]?.getD undef = y14 at hl
        generalize tt[15]?.getD undef = y15 at hl
        generalize tt[16]?.getD undef = y16 at hl
        generalize tt[17]?.getD undef = y17 at hl
        generalize tt[18]?.getD undef = y18 at hl
        generalize tt[19]?.getD undef = y19 at hl
        generalize tt[20]?.getD undef = y20 at hl
        generalize tt[22]?.getD undef = y22 at hl
        generalize tt[23]?.getD undef = y23 at hl
        subst hl
        cases hg : gtr32 (rchV x y) (rchV x' y')
        · have HN : Hid (lngK xs (k + 1) = q) := Lib.hid (by rw [HS.out, if_neg (by rw [hg]; decide)])
          clear hg
          go_wp2
          go_roundw
          case rel => exact ⟨k + 1, by omega, by go_num, by rw [HN.out], B3⟩
          case measure => simp [intOf]; omega
        · have HN : Hid (lngK xs (k + 1) = k) := Lib.hid (by rw [HS.out, if_pos (by rw [hg])])
          clear hg
          go_wp2
          go_roundw
          case rel => exact ⟨k + 1, by omega, by go_num, by rw [HN.out], B3⟩
          case measure => simp [intOf]; omega
    · have hkk : k = xs.length := by omega
      subst hkk
      go_wp2
      go_ret
      exact ⟨rfl, HB.out⟩
set_option maxHeartbeats 4000000 in
theorem i_LongestCycle (A : Option Addr) (cap : Nat) (xs : List (Nat × Nat × Bool)) (w : World) (h : FlC w A xs) (hn : xs.length ≤ 1048576) :
    Calls Try.prog 28 #[.slice A xs.length cap] w fun e w' => ∃ r, e = .returned (.tuple #[.int .i64 (lngI xs), .float .f32 r, .bool (lngO xs)]) ∧ canon .f32 r = lngR xs ∧ Below w.heap.size w w' := by
  have HF := Lib.hid h; clear h
  go_enter Try.func28, Try.ntmps28
  go_wp2_with fail
  refine (i_AreCycles A cap xs _ HF.out hn).mono ?_
  rintro e w1 ⟨rfl, b1⟩
  have B1 := Lib.hid b1; clear b1
  cases v : areC xs
  · have HN := Lib.hid (lngO_a v); clear v
    go_wp2
    refine bodyPost_ret (results_tmp3 rfl _ _ _) rfl ?_
    exact ⟨_, by rw [HN.out, lngI_no HN.out]; rfl, by rw [lngR_no HN.out]; exact canon_zero, B1.out⟩
  · by_cases h0 : xs.length = 0
    · have HN := Lib.hid (lngO_z h0); clear v
      go_wp2
      refine bodyPost_ret (results_tmp3 rfl _ _ _) rfl ?_
      exact ⟨_, by rw [HN.out, lngI_no HN.out]; rfl, by rw [lngR_no HN.out]; exact canon_zero, B1.out⟩
    · have h1 : 0 < xs.length := by omega
      have HO := Lib.hid (lngO_yes v h1); clear v
      have e0 : ((xs.length : Int) == 0) = false := by rw [beq_eq_false_iff_ne]; omega
      go_wp2_with fail
      refine (i_leastOf A cap xs _ (HF.out.below B1.out) hn h1).mono ?_
      rintro e w2 ⟨rfl, b2⟩
      have B2 : Hid (Below w.heap.size w w2) := Lib.hid (below_of B1.out B1.out.size b2)
      clear b2 e0
      have hq := lngK_in (xs := xs) (Nat.le_refl xs.length) h1
      have HY := Lib.hid (fun h => lngI_yes (xs := xs) h)
      have HR := Lib.hid (fun h => lngR_yes (xs := xs) h)
      have HRC : Hid (rchAt xs (lngK xs xs.length) = rchV (loN xs (lngK xs xs.length)) (hiN xs (lngK xs xs.length))) := rfl
      generalize lngK xs xs.length = q at hq HO HY HR HRC ⊢
      obtain ⟨b, off, rfl, -, hc0, hc1, hc2⟩ := (HF.out.below B2.out).at_ hq
      generalize loN xs q = x at hc0 HRC
      generalize hiN xs q = y at hc1 HRC
      generalize whB xs q = z at hc2
      go_wp2_with fail
      refine (i_reach x y z _).mono ?_
      rintro e w3 ⟨r, rfl, hr, b3⟩
      have B3 : Hid (Below w.heap.size w w3) := Lib.hid (below_of B2.out B2.out.size b3)
      have HRR : Hid (canon .f32 r = rchAt xs q) := Lib.hid (by rw [HRC.out, hr])
      clear b3 hr hc0 hc1 hc2
      go_wp2_with fail
      refine (i_notFinite _ _).mono ?_
      rintro e w' ⟨n, rfl, rfl⟩
      cases hf : fin .f32 r
      · have HN : Hid (lngO xs = false) := Lib.hid (by rw [HO.out, ← HRR.out, fin_canon, hf])
        clear hf
        go_wp2
        refine bodyPost_ret (results_tmp3 rfl _ _ _) rfl ?_
        exact ⟨_, by rw [HN.out, lngI_no HN.out]; rfl, by rw [lngR_no HN.out]; exact canon_zero, below_draws B3.out _⟩
      · have HN : Hid (lngO xs = true) := Lib.hid (by rw [HO.out, ← HRR.out, fin_canon, hf])
        clear hf
        go_wp2
        refine bodyPost_ret (results_tmp3 rfl _ _ _) rfl ?_
        exact ⟨_, by rw [HN.out, HY.out HN.out]; rfl, by rw [HR.out HN.out]; exact HRR.out, below_draws B3.out _⟩
set_option maxHeartbeats 16000000 in
set_option maxRecDepth 100000 in
theorem s_LongestCycle (A : Option Addr) (cap : Nat) (xs : List (Nat × Nat × Bool)) (w0 : World) (h : FlC w0 A xs) (hn : xs.length ≤ 1048576) :
    Calls Try.prog 27 #[.slice A xs.length cap] w0 fun e w' => ∃ r, e = .returned (.tuple #[.int .i64 (lngI xs), .float .f32 r, .bool (lngO xs)]) ∧ canon .f32 r = lngR xs ∧ Below w0.heap.size w0 w' := by
  have HF0 := Lib.hid h; clear h
  go_enter Try.func27, Try.ntmps27
  go_wp2_with fail
  refine (s_l07Are A cap xs _ HF0.out hn).mono ?_
  rintro e w ⟨rfl, n1, hw⟩
  have HW0 : Hid (∀ W, Below w.heap.size w W → Below w0.heap.size w0 W) := Lib.hid (fun W hW => below_of (by rw [hw]; exact below_draws (Below.refl _ _) _) (by rw [hw]; exact Nat.le_refl _) hW)
  have HF : Hid (FlC w A xs) := Lib.hid (by rw [hw]; exact HF0.out.draws _)
  clear hw HF0
  cases v : areC xs
  · have HN := Lib.hid (lngO_a v); clear v
    go_wp2
    refine bodyPost_ret (results_tmp3 rfl _ _ _) rfl ?_
    exact ⟨_, by rw [HN.out, lngI_no HN.out]; rfl, by rw [lngR_no HN.out]; exact canon_zero, HW0.out _ (Below.refl _ _)⟩
  · by_cases h0 : xs.length = 0
    · have HN := Lib.hid (lngO_z h0); clear v
      go_wp2
      refine bodyPost_ret (results_tmp3 rfl _ _ _) rfl ?_
      exact ⟨_, by rw [HN.out, lngI_no HN.out]; rfl, by rw [lngR_no HN.out]; exact canon_zero, HW0.out _ (Below.refl _ _)⟩
    · have h1 : 0 < xs.length := by omega
      have HO := Lib.hid (lngO_yes v h1); clear v
      have e0 : ((xs.length : Int) == 0) = false := by rw [beq_eq_false_iff_ne]; omega
      obtain ⟨b, off, rfl, -, hc0, hc1, -⟩ := HF.out.at_ h1
      rw [Nat.zero_mul, Nat.add_zero] at hc0 hc1
      have HX0 : Hid (rchAt xs 0 = rchV (loN xs 0) (hiN xs 0)) := rfl
      generalize loN xs 0 = x at hc0 HX0
      generalize hiN xs 0 = y at hc1 HX0
      have hdd : ∀ nn j, ∃ mm, (w.drewN nn).drewN j = w.drewN mm := fun nn j => ⟨nn + j, World.drewN_drewN ..⟩
      go_wp2_with fail
      clear e0 h0
      refine wp_region_inv3 (fun iq v => match iq with
        | 0 => v = .slice (some ⟨b, off, none⟩) xs.length cap
        | 1 => v = .pointer (some ⟨b, off, none⟩)
        | 2 => v = .pointer (some ⟨b, off + 1, none⟩)
        | 3 => v = .float .f32 y
        | 4 => v = .slice (some ⟨b, off, none⟩) xs.length cap
        | 5 => v = .pointer (some ⟨b, off, none⟩)
        | 6 => v = .pointer (some ⟨b, off, none⟩)
        | 7 => v = .float .f32 x
        | 8 => ∃ r, v = .float .f32 r ∧ canon .f32 r = fop .sub .f32 (canon .f32 y) (canon .f32 x)
        | 9 => ∃ r, v = .float .f32 r ∧ canon .f32 r = fop .sub .f32 (canon .f32 y) (canon .f32 x)
        | _ => False) (fun _ ww => ∃ nn, ww = w.drewN nn) (by kernel_rfl) (by kernel_rfl) ⟨1, rfl⟩ ?hop ?hend
      case hop =>
        intro q o hq listed act w3 hI hnot hcl hall
        obtain ⟨nn, rfl⟩ := hI.cls
        rcases q with _ | _ | _ | _ | _ | _ | _ | _ | _ | _ | q
        · simp at hq; subst hq
          have g0 : act.tmps[0]?.getD undef = .slice (some ⟨b, off, none⟩) xs.length cap := hI.kept 0 (by kernel_rfl)
          clear hI hall hnot hcl
          refine .inl ⟨wanted_none rfl, ?_⟩
          unfold Oper.wp
          go_simp
          all_goals exact ⟨_, rfl, rfl, ⟨_, rfl⟩⟩
        · simp at hq; subst hq
          have g17 : act.tmps[17]?.getD undef = .slice (some ⟨b, off, none⟩) xs.length cap := hI.has 0 17 rfl (hall ⟨0, .data⟩ (by simp) rfl)
          clear hI hall hnot hcl
          refine .inl ⟨wanted_none rfl, ?_⟩
          unfold Oper.wp
          go_simp
          all_goals exact ⟨_, rfl, rfl, ⟨_, rfl⟩⟩
        · simp at hq; subst hq
          have g18 : act.tmps[18]?.getD undef = .pointer (some ⟨b, off, none⟩) := hI.has 1 18 rfl (hall ⟨1, .data⟩ (by simp) rfl)
          clear hI hall hnot hcl
          refine .inl ⟨wanted_none rfl, ?_⟩
          unfold Oper.wp
          go_simp
          all_goals exact ⟨_, rfl, rfl, ⟨_, rfl⟩⟩
        · simp at hq; subst hq
          have g19 : act.tmps[19]?.getD undef = .pointer (some ⟨b, off + 1, none⟩) := hI.has 2 19 rfl (hall ⟨2, .data⟩ (by simp) rfl)
          clear hI hall hnot hcl
          refine .inl ⟨wanted_none rfl, ?_⟩
          unfold Oper.wp
          go_simp
          all_goals exact ⟨_, rfl, rfl, ⟨_, rfl⟩⟩
        · simp at hq; subst hq
          have g0 : act.tmps[0]?.getD undef = .slice (some ⟨b, off, none⟩) xs.length cap := hI.kept 0 (by kernel_rfl)
          clear hI hall hnot hcl
          refine .inl ⟨wanted_none rfl, ?_⟩
          unfold Oper.wp
          go_simp
          all_goals exact ⟨_, rfl, rfl, ⟨_, rfl⟩⟩
        · simp at hq; subst hq
          have g21 : act.tmps[21]?.getD undef = .slice (some ⟨b, off, none⟩) xs.length cap := hI.has 4 21 rfl (hall ⟨4, .data⟩ (by simp) rfl)
          clear hI hall hnot hcl
          refine .inl ⟨wanted_none rfl, ?_⟩
          unfold Oper.wp
          go_simp
          all_goals exact ⟨_, rfl, rfl, ⟨_, rfl⟩⟩
        · simp at hq; subst hq
          have g22 : act.tmps[22]?.getD undef = .pointer (some ⟨b, off, none⟩) := hI.has 5 22 rfl (hall ⟨5, .data⟩ (by simp) rfl)
          clear hI hall hnot hcl
          refine .inl ⟨wanted_none rfl, ?_⟩
          unfold Oper.wp
          go_simp
          all_goals exact ⟨_, rfl, rfl, ⟨_, rfl⟩⟩
        · simp at hq; subst hq
          have g23 : act.tmps[23]?.getD undef = .pointer (some ⟨b, off, none⟩) := hI.has 6 23 rfl (hall ⟨6, .data⟩ (by simp) rfl)
          clear hI hall hnot hcl
          refine .inl ⟨wanted_none rfl, ?_⟩
          unfold Oper.wp
          go_simp
          all_goals exact ⟨_, rfl, rfl, ⟨_, rfl⟩⟩
        · simp at hq; subst hq
          have g20 : act.tmps[20]?.getD undef = .float .f32 y := hI.has 3 20 rfl (hall ⟨3, .data⟩ (by simp) rfl)
          have g24 : act.tmps[24]?.getD undef = .float .f32 x := hI.has 7 24 rfl (hall ⟨7, .data⟩ (by simp) rfl)
          clear hI hall hnot hcl
          refine .inl ⟨wanted_none rfl, ?_⟩
          unfold Oper.wp
          go_simp
          exact ⟨_, rfl, ⟨_, rfl, canonF rfl rfl⟩, by first | exact ⟨_, rfl⟩ | exact hdd _ _⟩
        · simp at hq; subst hq
          obtain ⟨r8, g25, h8a⟩ := hI.has 8 25 rfl (hall ⟨8, .data⟩ (by simp) rfl)
          clear hI hall hnot hcl
          refine .inl ⟨wanted_none rfl, ?_⟩
          unfold Oper.wp
          go_simp
          exact ⟨_, rfl, ⟨_, rfl, h8a⟩, ⟨_, rfl⟩⟩
        · simp at hq
      case hend =>
        intro listed act w3 hI hall
        obtain ⟨nn, rfl⟩ := hI.cls
        obtain ⟨r6, g6, h6⟩ := hI.has 9 6 rfl (hall 9 (by decide))
        have g0 := hI.kept 0 (by kernel_rfl)
        conv at g0 => rhs; whnf
        have g1 : act.tmps[1]?.getD undef = undef := hI.kept 1 (by kernel_rfl)
        have g2 := hI.kept 2 (by kernel_rfl)
        conv at g2 => rhs; whnf
        have g3 := hI.kept 3 (by kernel_rfl)
        conv at g3 => rhs; whnf
        have g4 := hI.kept 4 (by kernel_rfl)
        conv at g4 => rhs; whnf
        have g5 := hI.kept 5 (by kernel_rfl)
        conv at g5 => rhs; whnf
        have g7 : act.tmps[7]?.getD undef = undef := hI.kept 7 (by kernel_rfl)
        have g8 : act.tmps[8]?.getD undef = undef := hI.kept 8 (by kernel_rfl)
        have g9 := hI.kept 9 (by kernel_rfl)
        conv at g9 => rhs; whnf
        have g10 := hI.kept 10 (by kernel_rfl)
        conv at g10 => rhs; whnf
        have g11 := hI.kept 11 (by kernel_rfl)
        conv at g11 => rhs; whnf
        have g12 := hI.kept 12 (by kernel_rfl)
        conv at g12 => rhs; whnf
        have g13 := hI.kept 13 (by kernel_rfl)
        conv at g13 => rhs; whnf
        have g14 := hI.kept 14 (by kernel_rfl)
        conv at g14 => rhs; whnf
        have g15 := hI.kept 15 (by kernel_rfl)
        conv at g15 => rhs; whnf
        have g16 := hI.kept 16 (by kernel_rfl)
        conv at g16 => rhs; whnf
        have g26 : act.tmps[26]?.getD undef = undef := hI.kept 26 (by kernel_rfl)
        have g27 : act.tmps[27]?.getD undef = undef := hI.kept 27 (by kernel_rfl)
        have g28 : act.tmps[28]?.getD undef = undef := hI.kept 28 (by kernel_rfl)
        have g29 : act.tmps[29]?.getD undef = undef := hI.kept 29 (by kernel_rfl)
        have g30 : act.tmps[30]?.getD undef = undef := hI.kept 30 (by kernel_rfl)
        have g31 : act.tmps[31]?.getD undef = undef := hI.kept 31 (by kernel_rfl)
        have g32 : act.tmps[32]?.getD undef = undef := hI.kept 32 (by kernel_rfl)
        have g33 : act.tmps[33]?.getD undef = undef := hI.kept 33 (by kernel_rfl)
        have g34 : act.tmps[34]?.getD undef = undef := hI.kept 34 (by kernel_rfl)
        have g35 : act.tmps[35]?.getD undef = undef := hI.kept 35 (by kernel_rfl)
        have g36 : act.tmps[36]?.getD undef = undef := hI.kept 36 (by kernel_rfl)
        have g37 : act.tmps[37]?.getD undef = undef := hI.kept 37 (by kernel_rfl)
        have g38 : act.tmps[38]?.getD undef = undef := hI.kept 38 (by kernel_rfl)
        have g39 : act.tmps[39]?.getD undef = undef := hI.kept 39 (by kernel_rfl)
        have g40 : act.tmps[40]?.getD undef = undef := hI.kept 40 (by kernel_rfl)
        have g41 : act.tmps[41]?.getD undef = undef := hI.kept 41 (by kernel_rfl)
        have g42 : act.tmps[42]?.getD undef = undef := hI.kept 42 (by kernel_rfl)
        have g43 : act.tmps[43]?.getD undef = undef := hI.kept 43 (by kernel_rfl)
        have g44 : act.tmps[44]?.getD undef = undef := hI.kept 44 (by kernel_rfl)
        have g45 : act.tmps[45]?.getD undef = undef := hI.kept 45 (by kernel_rfl)
        have g46 : act.tmps[46]?.getD undef = undef := hI.kept 46 (by kernel_rfl)
        have g47 : act.tmps[47]?.getD undef = undef := hI.kept 47 (by kernel_rfl)
        have g48 : act.tmps[48]?.getD undef = undef := hI.kept 48 (by kernel_rfl)
        have g49 : act.tmps[49]?.getD undef = undef := hI.kept 49 (by kernel_rfl)
        have g50 : act.tmps[50]?.getD undef = undef := hI.kept 50 (by kernel_rfl)
        have g51 : act.tmps[51]?.getD undef = undef := hI.kept 51 (by kernel_rfl)
        have g52 : act.tmps[52]?.getD undef = undef := hI.kept 52 (by kernel_rfl)
        have hsz : act.tmps.size = 53 := hI.size.trans (by kernel_rfl)
        have hd := hI.defers
        clear hI hall
        obtain ⟨tt, dd⟩ := act
        simp only at g0 g1 g2 g3 g4 g5 g6 g7 g8 g9 g10 g11 g12 g13 g14 g15 g16 g26 g27 g28 g29 g30 g31 g32 g33 g34 g35 g36 g37 g38 g39 g40 g41 g42 g43 g44 g45 g46 g47 g48 g49 g50 g51 g52 hsz hd
        subst hd
        have hl : tt = #[tt[0]?.getD undef, tt[1]?.getD undef, tt[2]?.getD undef, tt[3]?.getD undef, tt[4]?.getD undef, tt[5]?.getD undef, tt[6]?.getD undef, tt[7]?.getD undef, tt[8]?.getD undef, tt[9]?.getD undef, tt[10]?.getD undef, tt[11]?.getD undef, tt[12]?.getD undef, tt[13]?.getD undef, tt[14]?.getD undef, tt[15]?.getD undef, tt[16]?.getD undef, tt[17]?.getD undef, tt[18]?.getD undef, tt[19]?.getD undef, tt[20]?.getD undef, tt[21]?.getD undef, tt[22]?.getD undef, tt[23]?.getD undef, tt[24]?.getD undef, tt[25]?.getD undef, tt[26]?.getD undef, tt[27]?.getD undef, tt[28]?.getD undef, tt[29]?.getD undef, tt[30]?.getD undef, tt[31]?.getD undef, tt[32]?.getD undef, tt[33]?.getD undef, tt[34]?.getD undef, tt[35]?.getD undef, tt[36]?.getD undef, tt[37]?.getD undef, tt[38]?.getD undef, tt[39]?.getD undef, tt[40]?.getD undef, tt[41]?.getD undef, tt[42]?.getD undef, tt[43]?.getD undef, tt[44]?.getD undef, tt[45]?.getD undef, tt[46]?.getD undef, tt[47]?.getD undef, tt[48]?.getD undef, tt[49]?.getD undef, tt[50]?.getD undef, tt[51]?.getD undef, tt[52]?.getD undef] := (arr_lit hsz).trans rfl
        rw [g0, g1, g2, g3, g4, g5, g6, g7, g8, g9, g10, g11, g12, g13, g14, g15, g16, g26, g27, g28, g29, g30, g31, g32, g33, g34, g35, g36, g37, g38, g39, g40, g41, g42, g43, g44, g45, g46, g47, g48, g49, g50, g51, g52] at hl
        clear g0 g1 g2 g3 g4 g5 g6 g7 g8 g9 g10 g11 g12 g13 g14 g15 g16 g26 g27 g28 g29 g30 g31 g32 g33 g34 g35 g36 g37 g38 g39 g40 g41 g42 g43 g44 g45 g46 g47 g48 g49 g50 g51 g52 hsz
        generalize tt[17]?.getD undef = y17 at hl
        generalize tt[18]?.getD undef = y18 at hl
        generalize tt[19]?.getD undef = y19 at hl
        generalize tt[20]?.getD undef = y20 at hl
        generalize tt[21]?.getD undef = y21 at hl
        generalize tt[22]?.getD undef = y22 at hl
        generalize tt[23]?.getD undef = y23 at hl
        generalize tt[24]?.getD undef = y24 at hl
        generalize tt[25]?.getD undef = y25 at hl
        subst hl
        have H6 : Hid (canon .f32 r6 = rchAt xs 0) := Lib.hid (by rw [HX0.out]; exact h6)
        clear h6 hc0 hc1
        obtain ⟨wz, hwz⟩ : ∃ wz, wz = w.drewN nn := ⟨_, rfl⟩
        rw [← hwz]
        have HWZ := Lib.hid hwz
        have HFZ : Hid (FlC wz (some ⟨b, off, none⟩) xs) := Lib.hid (by rw [hwz]; exact HF.out.draws _)
        clear hwz
        go_wp2_with fail
        have hst : ∀ m, ∃ nn, { (wz.drewN m) with drawn := (wz.drewN m).drawn + 1 } = wz.drewN nn := fun m => ⟨m + 1, rfl⟩
        have hdd : ∀ nn j, ∃ mm, (wz.drewN nn).drewN j = wz.drewN mm := fun nn j => ⟨nn + j, World.drewN_drewN ..⟩
        go_loopw [5, 6, 28] (fun s t i wr => ∃ k n m : Nat, k ≤ xs.length ∧ i = .int .i64 k ∧ s = .int .i64 (lngK xs k : Nat) ∧ t = .float .f32 m ∧ Hid (canon .f32 m = rchAt xs (lngK xs k)) ∧ wr = wz.drewN n) (fun _ _ i _ => xs.length - (intOf i).toNat)
        case atStart => exact ⟨0, 0, r6, Nat.zero_le _, rfl, rfl, rfl, H6, rfl⟩
        case round =>
          obtain ⟨k, n, m, hk, rfl, rfl, rfl, HM, rfl⟩ := hrel
          by_cases hlt : k < xs.length
          · obtain ⟨hc0, hc1, -⟩ := HFZ.out.same hlt
            have HS : Hid (lngK xs (k + 1) = if gtr32 (rchV (loN xs k) (hiN xs k)) (rchAt xs (lngK xs k)) then k else lngK xs k) := rfl
            have HXY : Hid (rchAt xs k = rchV (loN xs k) (hiN xs k)) := rfl
            generalize lngK xs k = q at HS HM ⊢
            generalize loN xs k = x at hc0 HS HXY
            generalize hiN xs k = y at hc1 HS HXY
            go_wp2_with fail
            refine wp_region_inv3 (fun iq v => match iq with
              | 0 => v = .slice (some ⟨b, off, none⟩) xs.length cap
              | 1 => v = .int .i64 k
              | 2 => v = .pointer (some ⟨b, off + k * 3, none⟩)
              | 3 => v = .pointer (some ⟨b, off + k * 3 + 1, none⟩)
              | 4 => v = .float .f32 y
              | 5 => v = .slice (some ⟨b, off, none⟩) xs.length cap
              | 6 => v = .int .i64 k
              | 7 => v = .pointer (some ⟨b, off + k * 3, none⟩)
              | 8 => v = .pointer (some ⟨b, off + k * 3, none⟩)
              | 9 => v = .float .f32 x
              | 10 => ∃ r, v = .float .f32 r ∧ canon .f32 r = fop .sub .f32 (canon .f32 y) (canon .f32 x)
              | 11 => ∃ r, v = .float .f32 r ∧ canon .f32 r = fop .sub .f32 (canon .f32 y) (canon .f32 x)
              | _ => False) (fun _ ww => ∃ nn, ww = wz.drewN nn) (by kernel_rfl) (by kernel_rfl) (hst _) ?hop ?hend
            case hop =>
              intro q o hq listed act w3 hI hnot hcl hall
              obtain ⟨nn, rfl⟩ := hI.cls
              rcases q with _ | _ | _ | _ | _ | _ | _ | _ | _ | _ | _ | _ | q
              · simp at hq; subst hq
                have g0 : act.tmps[0]?.getD undef = .slice (some ⟨b, off, none⟩) xs.length cap := hI.kept 0 (by kernel_rfl)
                clear hI hall hnot hcl
                refine .inl ⟨wanted_none rfl, ?_⟩
                unfold Oper.wp
                go_simp
                all_goals exact ⟨_, rfl, rfl, ⟨_, rfl⟩⟩
              · simp at hq; subst hq
                have g7 : act.tmps[7]?.getD undef = .int .i64 k := hI.kept 7 (by kernel_rfl)
                clear hI hall hnot hcl
                refine .inl ⟨wanted_none rfl, ?_⟩
                unfold Oper.wp
                go_simp
                all_goals exact ⟨_, rfl, rfl, ⟨_, rfl⟩⟩
              · simp at hq; subst hq
                have g31 : act.tmps[31]?.getD undef = .slice (some ⟨b, off, none⟩) xs.length cap := hI.has 0 31 rfl (hall ⟨0, .data⟩ (by simp) rfl)
                have g32 : act.tmps[32]?.getD undef = .int .i64 k := hI.has 1 32 rfl (hall ⟨1, .data⟩ (by simp) rfl)
                clear hI hall hnot hcl
                refine .inl ⟨wanted_none rfl, ?_⟩
                unfold Oper.wp
                go_simp
                all_goals exact ⟨_, rfl, rfl, ⟨_, rfl⟩⟩
              · simp at hq; subst hq
                have g33 : act.tmps[33]?.getD undef = .pointer (some ⟨b, off + k * 3, none⟩) := hI.has 2 33 rfl (hall ⟨2, .data⟩ (by simp) rfl)
                clear hI hall hnot hcl
                refine .inl ⟨wanted_none rfl, ?_⟩
                unfold Oper.wp
                go_simp
                all_goals exact ⟨_, rfl, rfl, ⟨_, rfl⟩⟩
              · simp at hq; subst hq
                have g34 : act.tmps[34]?.getD undef = .pointer (some ⟨b, off + k * 3 + 1, none⟩) := hI.has 3 34 rfl (hall ⟨3, .data⟩ (by simp) rfl)
                clear hI hall hnot hcl
                refine .inl ⟨wanted_none rfl, ?_⟩
                unfold Oper.wp
                go_simp
                all_goals exact ⟨_, rfl, rfl, ⟨_, rfl⟩⟩
              · simp at hq; subst hq
                have g0 : act.tmps[0]?.getD undef = .slice (some ⟨b, off, none⟩) xs.length cap := hI.kept 0 (by kernel_rfl)
                clear hI hall hnot hcl
                refine .inl ⟨wanted_none rfl, ?_⟩
                unfold Oper.wp
                go_simp
                all_goals exact ⟨_, rfl, rfl, ⟨_, rfl⟩⟩
              · simp at hq; subst hq
                have g7 : act.tmps[7]?.getD undef = .int .i64 k := hI.kept 7 (by kernel_rfl)
                clear hI hall hnot hcl
                refine .inl ⟨wanted_none rfl, ?_⟩
                unfold Oper.wp
                go_simp
                all_goals exact ⟨_, rfl, rfl, ⟨_, rfl⟩⟩
              · simp at hq; subst hq
                have g36 : act.tmps[36]?.getD undef = .slice (some ⟨b, off, none⟩) xs.length cap := hI.has 5 36 rfl (hall ⟨5, .data⟩ (by simp) rfl)
                have g37 : act.tmps[37]?.getD undef = .int .i64 k := hI.has 6 37 rfl (hall ⟨6, .data⟩ (by simp) rfl)
                clear hI hall hnot hcl
                refine .inl ⟨wanted_none rfl, ?_⟩
                unfold Oper.wp
                go_simp
                all_goals exact ⟨_, rfl, rfl, ⟨_, rfl⟩⟩
              · simp at hq; subst hq
                have g38 : act.tmps[38]?.getD undef = .pointer (some ⟨b, off + k * 3, none⟩) := hI.has 7 38 rfl (hall ⟨7, .data⟩ (by simp) rfl)
                clear hI hall hnot hcl
                refine .inl ⟨wanted_none rfl, ?_⟩
                unfold Oper.wp
                go_simp
                all_goals exact ⟨_, rfl, rfl, ⟨_, rfl⟩⟩
              · simp at hq; subst hq
                have g39 : act.tmps[39]?.getD undef = .pointer (some ⟨b, off + k * 3, none⟩) := hI.has 8 39 rfl (hall ⟨8, .data⟩ (by simp) rfl)
                clear hI hall hnot hcl
                refine .inl ⟨wanted_none rfl, ?_⟩
                unfold Oper.wp
                go_simp
                all_goals exact ⟨_, rfl, rfl, ⟨_, rfl⟩⟩
              · simp at hq; subst hq
                have g35 : act.tmps[35]?.getD undef = .float .f32 y := hI.has 4 35 rfl (hall ⟨4, .data⟩ (by simp) rfl)
                have g40 : act.tmps[40]?.getD undef = .float .f32 x := hI.has 9 40 rfl (hall ⟨9, .data⟩ (by simp) rfl)
                clear hI hall hnot hcl
                refine .inl ⟨wanted_none rfl, ?_⟩
                unfold Oper.wp
                go_simp
                exact ⟨_, rfl, ⟨_, rfl, canonF rfl rfl⟩, by first | exact ⟨_, rfl⟩ | exact hdd _ _⟩
              · simp at hq; subst hq
                obtain ⟨r10, g41, h10a⟩ := hI.has 10 41 rfl (hall ⟨10, .data⟩ (by simp) rfl)
                clear hI hall hnot hcl
                refine .inl ⟨wanted_none rfl, ?_⟩
                unfold Oper.wp
                go_simp
                exact ⟨_, rfl, ⟨_, rfl, h10a⟩, ⟨_, rfl⟩⟩
              · simp at hq
            case hend =>
              intro listed act w3 hI hall
              obtain ⟨nn, rfl⟩ := hI.cls
              obtain ⟨r8, g8, h8⟩ := hI.has 11 8 rfl (hall 11 (by decide))
              have g5 : act.tmps[5]?.getD undef = .int .i64 q := hI.kept 5 (by kernel_rfl)
              have g6 : act.tmps[6]?.getD undef = .float .f32 m := hI.kept 6 (by kernel_rfl)
              have g7 : act.tmps[7]?.getD undef = .int .i64 k := hI.kept 7 (by kernel_rfl)
              have g28 : act.tmps[28]?.getD undef = .int .i64 k := hI.kept 28 (by kernel_rfl)
              have g0 := hI.kept 0 (by kernel_rfl)
              conv at g0 => rhs; whnf
              have g1 : act.tmps[1]?.getD undef = undef := hI.kept 1 (by kernel_rfl)
              have g2 := hI.kept 2 (by kernel_rfl)
              conv at g2 => rhs; whnf
              have g3 := hI.kept 3 (by kernel_rfl)
              conv at g3 => rhs; whnf
              have g4 := hI.kept 4 (by kernel_rfl)
              conv at g4 => rhs; whnf
              have g9 := hI.kept 9 (by kernel_rfl)
              conv at g9 => rhs; whnf
              have g10 := hI.kept 10 (by kernel_rfl)
              conv at g10 => rhs; whnf
              have g11 := hI.kept 11 (by kernel_rfl)
              conv at g11 => rhs; whnf
              have g12 := hI.kept 12 (by kernel_rfl)
              conv at g12 => rhs; whnf
              have g13 := hI.kept 13 (by kernel_rfl)
              conv at g13 => rhs; whnf
              have g14 := hI.kept 14 (by kernel_rfl)
              conv at g14 => rhs; whnf
              have g15 := hI.kept 15 (by kernel_rfl)
              conv at g15 => rhs; whnf
              have g16 := hI.kept 16 (by kernel_rfl)
              conv at g16 => rhs; whnf
              have g17 := hI.kept 17 (by kernel_rfl)
              conv at g17 => rhs; whnf
              have g18 := hI.kept 18 (by kernel_rfl)
              conv at g18 => rhs; whnf
              have g19 := hI.kept 19 (by kernel_rfl)
              conv at g19 => rhs; whnf
              have g20 := hI.kept 20 (by kernel_rfl)
              conv at g20 => rhs; whnf
              have g21 := hI.kept 21 (by kernel_rfl)
              conv at g21 => rhs; whnf
              have g22 := hI.kept 22 (by kernel_rfl)
              conv at g22 => rhs; whnf
              have g23 := hI.kept 23 (by kernel_rfl)
              conv at g23 => rhs; whnf
              have g24 := hI.kept 24 (by kernel_rfl)
              conv at g24 => rhs; whnf
              have g25 := hI.kept 25 (by kernel_rfl)
              conv at g25 => rhs; whnf
              have g26 := hI.kept 26 (by kernel_rfl)
              conv at g26 => rhs; whnf
              have g27 := hI.kept 27 (by kernel_rfl)
              conv at g27 => rhs; whnf
              have g48 : act.tmps[48]?.getD undef = undef := hI.kept 48 (by kernel_rfl)
              have g49 : act.tmps[49]?.getD undef = undef := hI.kept 49 (by kernel_rfl)
              have g50 : act.tmps[50]?.getD undef = undef := hI.kept 50 (by kernel_rfl)
              have g51 : act.tmps[51]?.getD undef = undef := hI.kept 51 (by kernel_rfl)
              have g52 : act.tmps[52]?.getD undef = undef := hI.kept 52 (by kernel_rfl)
              have hsz : act.tmps.size = 53 := hI.size.trans (by kernel_rfl)
              have hd := hI.defers
              clear hI hall
              obtain ⟨tt, dd⟩ := act
              simp only at g0 g1 g2 g3 g4 g5 g6 g7 g8 g9 g10 g11 g12 g13 g14 g15 g16 g17 g18 g19 g20 g21 g22 g23 g24 g25 g26 g27 g28 g48 g49 g50 g51 g52 hsz hd
              subst hd
              have hl : tt = #[tt[0]?.getD undef, tt[1]?.getD undef, tt[2]?.getD undef, tt[3]?.getD undef, tt[4]?.getD undef, tt[5]?.getD undef, tt[6]?.getD undef, tt[7]?.getD undef, tt[8]?.getD undef, tt[9]?.getD undef, tt[10]?.getD undef, tt[11]?.getD undef, tt[12]?.getD undef, tt[13]?.getD undef, tt[14]?.getD undef, tt[15]?.getD undef, tt[16]?.getD undef, tt[17]?.getD undef, tt[18]?.getD undef, tt[19]?.getD undef, tt[20]?.getD undef, tt[21]?.getD undef, tt[22]?.getD undef, tt[23]?.getD undef, tt[24]?.getD undef, tt[25]?.getD undef, tt[26]?.getD undef, tt[27]?.getD undef, tt[28]?.getD undef, tt[29]?.getD undef, tt[30]?.getD undef, tt[31]?.getD undef, tt[32]?.getD undef, tt[33]?.getD undef, tt[34]?.getD undef, tt[35]?.getD undef, tt[36]?.getD undef, tt[37]?.getD undef, tt[38]?.getD undef, tt[39]?.getD undef, tt[40]?.getD undef, tt[41]?.getD undef, tt[42]?.getD undef, tt[43]?.getD undef, tt[44]?.getD undef, tt[45]?.getD undef, tt[46]?.getD undef, tt[47]?.getD undef, tt[48]?.getD undef, tt[49]?.getD undef, tt[50]?.getD undef, tt[51]?.getD undef, tt[52]?.getD undef] := (arr_lit hsz).trans rfl
              rw [g0, g1, g2, g3, g4, g5, g6, g7, g8, g9, g10, g11, g12, g13, g14, g15, g16, g17, g18, g19, g20, g21, g22, g23, g24, g25, g26, g27, g28, g48, g49, g50, g51, g52] at hl
              clear g0 g1 g2 g3 g4 g5 g6 g7 g8 g9 g10 g11 g12 g13 g14 g15 g16 g17 g18 g19 g20 g21 g22 g23 g24 g25 g26 g27 g28 g48 g49 g50 g51 g52 hsz
              generalize tt[29]?.getD undef = y29 at hl
              generalize tt[30]?.getD undef = y30 at hl
              generalize tt[31]?.getD undef = y31 at hl
              generalize tt[32]?.getD undef = y32 at hl
              generalize tt[33]?.getD undef = y33 at hl
              generalize tt[34]?.getD undef = y34 at hl
              generalize tt[35]?.getD undef = y35 at hl
              generalize tt[36]?.getD undef = y36 at hl
              generalize tt[37]?.getD undef = y37 at hl
              generalize tt[38]?.getD undef = y38 at hl
              generalize tt[39]?.getD undef = y39 at hl
              generalize tt[40]?.getD undef = y40 at hl
              generalize tt[41]?.getD undef = y41 at hl
              generalize tt[42]?.getD undef = y42 at hl
              generalize tt[43]?.getD undef = y43 at hl
              generalize tt[44]?.getD undef = y44 at hl
              generalize tt[45]?.getD undef = y45 at hl
              generalize tt[46]?.getD undef = y46 at hl
              generalize tt[47]?.getD undef = y47 at hl
              subst hl
              have hg0 : (FloatKind.f32.format.order r8 m == some .gt) = gtr32 (rchV x y) (rchAt xs q) := by unfold gtr32; rw [← HM.out, show rchV x y = canon .f32 r8 from h8.symm, order_canon]
              have H8 := Lib.hid h8
              clear hc0 hc1 h8
              cases hg : gtr32 (rchV x y) (rchAt xs q)
              · rw [hg] at hg0
                have HN : Hid (lngK xs (k + 1) = q) := Lib.hid (by rw [HS.out, if_neg (by rw [hg]; decide)])
                clear hg
                go_wp2
                go_roundw
                case rel => exact ⟨k + 1, nn, m, by omega, by go_num, by rw [HN.out], rfl, Lib.hid (by rw [HN.out]; exact HM.out), rfl⟩
                case measure => simp [intOf]; omega
              · rw [hg] at hg0
                have HN : Hid (lngK xs (k + 1) = k) := Lib.hid (by rw [HS.out, if_pos (by rw [hg])])
                clear hg
                go_wp2
                go_roundw
                case rel => exact ⟨k + 1, nn, r8, by omega, by go_num, by rw [HN.out], rfl, Lib.hid (by rw [HN.out, HXY.out]; exact H8.out), rfl⟩
                case measure => simp [intOf]; omega
          · have hkk : k = xs.length := by omega
            subst hkk
            have HY := Lib.hid (fun h => lngI_yes (xs := xs) h)
            have HR := Lib.hid (fun h => lngR_yes (xs := xs) h)
            generalize lngK xs xs.length = q at HO HY HR HM ⊢
            go_wp2_with fail
            refine (s_l01Finite _ _).mono ?_
            rintro e w' ⟨n2, rfl, rfl⟩
            cases hf : fin .f32 m
            · have HN : Hid (lngO xs = false) := Lib.hid (by rw [HO.out, ← HM.out, fin_canon, hf])
              clear hf
              go_wp2
              refine bodyPost_ret (results_tmp3 rfl _ _ _) rfl ?_
              exact ⟨_, by rw [HN.out, lngI_no HN.out]; rfl, by rw [lngR_no HN.out]; exact canon_zero, HW0.out _ (by rw [HWZ.out]; repeat (first | exact Below.refl _ _ | refine below_draws ?_ _))⟩
            · have HN : Hid (lngO xs = true) := Lib.hid (by rw [HO.out, ← HM.out, fin_canon, hf])
              clear hf
              go_wp2
              refine bodyPost_ret (results_tmp3 rfl _ _ _) rfl ?_
              exact ⟨_, by rw [HN.out, HY.out HN.out]; rfl, by rw [HR.out HN.out]; exact HM.out, HW0.out _ (by rw [HWZ.out]; repeat (first | exact Below.refl _ _ | refine below_draws ?_ _))⟩
end Go.Proofs.Ytpchkedgjikpfab
