/- How many cycles have which range: both sides. No statement is proved here. -/
import Derived.Test.YtpchkedgjikpfabCntM
import Derived.Test.YtpchkedgjikpfabSoC
import Derived.Test.YtpchkedgjikpfabMarkI
namespace Go.Proofs.Ytpchkedgjikpfab
open Go Go.RowKit
theorem OwnI.start {w : World} (n : Nat) (E : TypeId) : OwnI (w.alloc (.cells (madeCells #[.int .i64 0] n) E)) w.heap.size (List.replicate n 0) := by
  refine ⟨by simp, fun j hj => ⟨?_, ?_⟩⟩
  · rw [List.length_replicate] at hj
    rw [World.cell?_alloc_at (w := w) (hn := rfl)]
    simp [madeCells, hj, Nat.mod_one, List.getD]
  · rw [World.frozen?_alloc_at (w := w) (hn := rfl)]
theorem OwnI.put {w : World} {B : Nat} {ys : List Int} (h : OwnI w B ys) {j : Nat} (hj : j < ys.length) (v : Int) : OwnI (w.setCell ⟨B, j, none⟩ (.int .i64 v)) B (ys.set j v) := by
  refine ⟨by simpa [World.setCell] using h.1, fun k hk => ⟨?_, ?_⟩⟩
  · rw [List.length_set] at hk
    by_cases e : k = j
    · subst e
      rw [World.cell?_setCell_same (h := (h.2 k hk).1)]
      simp [List.getD, hk]
    · rw [World.cell?_setCell_other (h := by intro hh; simp only [Addr.mk.injEq] at hh; omega), (h.2 k hk).1]
      simp [List.getD, List.getElem?_set_ne (Ne.symm e)]
  · rw [List.length_set] at hk
    rw [World.frozen?_setCell]; exact (h.2 k hk).2
theorem getD_setI {ys : List Int} {i j : Nat} {v : Int} (h : i < ys.length) : (ys.set i v).getD j 0 = if i = j then v else ys.getD j 0 := by
  rw [List.getD_eq_getElem?_getD, List.getD_eq_getElem?_getD, List.getElem?_set]
  split
  · rename_i h2; subst h2; rfl
  · rfl
def hlvV (z : Bool) : Int := if z then 2 else 1
/-- a count more -/
def ctStep (ys : List Int) (q : Nat) (h : Int) (n : Nat) : List Int := if wholeF q < n then ys.set (wholeF q) (ys.getD (wholeF q) 0 + h) else ys
def ctQ (xs : List (Nat × Nat × Bool)) (wd k : Nat) : Nat := fop .quo .f32 (rchAt xs k) (canon .f32 wd)
def ctK (xs : List (Nat × Nat × Bool)) (wd n : Nat) : Nat → List Int
  | 0 => List.replicate n 0
  | k + 1 => ctStep (ctK xs wd n k) (ctQ xs wd k) (hlvV (whB xs k)) n
theorem ctStep_len (ys : List Int) (q : Nat) (h : Int) (n : Nat) : (ctStep ys q h n).length = ys.length := by unfold ctStep; split <;> simp
theorem ctK_len (xs : List (Nat × Nat × Bool)) (wd n : Nat) : ∀ k, (ctK xs wd n k).length = n := by
  intro k; induction k with
  | zero => simp [ctK]
  | succ k ih => simp only [ctK]; rw [ctStep_len, ih]
theorem ctK_bd (xs : List (Nat × Nat × Bool)) (wd n : Nat) : ∀ k j, 0 ≤ (ctK xs wd n k).getD j 0 ∧ (ctK xs wd n k).getD j 0 ≤ 2 * k := by
  intro k; induction k with
  | zero =>
    intro j
    simp only [ctK, List.getD_eq_getElem?_getD, List.getElem?_replicate]
    split <;> simp
  | succ k ih =>
    intro j
    have h1 := ih j
    have h2 := ih (wholeF (ctQ xs wd k))
    have h3 : 1 ≤ hlvV (whB xs k) ∧ hlvV (whB xs k) ≤ 2 := by unfold hlvV; split <;> omega
    simp only [ctK, ctStep]
    split
    · rename_i hw
      rw [getD_setI (by rw [ctK_len]; exact hw)]
      split <;> omega
    · omega
theorem ctK_in {xs : List (Nat × Nat × Bool)} {wd n k : Nat} (h : wholeF (ctQ xs wd k) < n) : ctK xs wd n (k + 1) = (ctK xs wd n k).set (wholeF (ctQ xs wd k)) ((ctK xs wd n k).getD (wholeF (ctQ xs wd k)) 0 + hlvV (whB xs k)) := by simp only [ctK, ctStep, if_pos h]
theorem ctK_out {xs : List (Nat × Nat × Bool)} {wd n k : Nat} (h : ¬ wholeF (ctQ xs wd k) < n) : ctK xs wd n (k + 1) = ctK xs wd n k := by simp only [ctK, ctStep, if_neg h]
def ctO (xs : List (Nat × Nat × Bool)) (wd : Nat) (p : Int) : Bool := areC xs && (posi wd && decide (1 ≤ p ∧ p ≤ 32))
def ctL (xs : List (Nat × Nat × Bool)) (wd : Nat) (p : Int) : List Int := if ctO xs wd p then ctK xs wd p.toNat xs.length else []
theorem ctL_no {xs : List (Nat × Nat × Bool)} {wd : Nat} {p : Int} (h : ctO xs wd p = false) : ctL xs wd p = [] := by unfold ctL; rw [h]; rfl
theorem ctL_yes {xs : List (Nat × Nat × Bool)} {wd N : Nat} (h : ctO xs wd N = true) : ctL xs wd N = ctK xs wd N xs.length := by unfold ctL; rw [h]; rfl
theorem ctL_few (xs : List (Nat × Nat × Bool)) (wd : Nat) (p : Int) : (ctL xs wd p).length ≤ 1048576 := by
  cases h : ctO xs wd p
  · rw [ctL_no h]; simp
  · have h2 := h
    unfold ctO at h2
    simp only [Bool.and_eq_true] at h2
    have h3 := of_decide_eq_true h2.2.2
    unfold ctL
    rw [h, if_pos rfl, ctK_len]
    omega
theorem ctQ_up {xs : List (Nat × Nat × Bool)} {wd k : Nat} (h : areC xs = true) (hk : k < xs.length) (hw : posi wd = true) : upD (FloatKind.f32.decode (ctQ xs wd k)) := by
  unfold ctQ
  have h1 : posi (canon .f32 wd) = true := by
    have hf : fin .f32 wd = true := by unfold posi at hw; simp only [Bool.and_eq_true] at hw; exact hw.1
    rw [canon_of_not (isn_of_fin hf)]; exact hw
  exact quo_upD (rch_up (areC_at h hk)) h1
theorem i_halvesV (x y : Nat) (z : Bool) (w : World) :
    Calls Try.prog 67 #[.agg #[.float .f32 x, .float .f32 y, .bool z]] w fun e w' => e = .returned (.int .i64 (hlvV z)) ∧ Below w.heap.size w w' := i_halves x y z w
theorem i_isBinCount (c : Int) (w : World) :
    Calls Try.prog 65 #[.int .i64 c] w fun e w' => e = .returned (.bool (decide (1 ≤ c ∧ c ≤ 32))) ∧ w' = w := by
  by_cases h : 1 ≤ c
  · go_enter Try.func65, Try.ntmps65
    go_wp2
    go_ret
    exact ⟨by simp [h], rfl⟩
  · go_enter Try.func65, Try.ntmps65
    go_wp2
    go_ret
    exact ⟨by simp; omega, rfl⟩
set_option maxHeartbeats 16000000 in
set_option maxRecDepth 100000 in
theorem i_CountCycles (A : Option Addr) (cap : Nat) (xs : List (Nat × Nat × Bool)) (wd : Nat) (p : Int) (w : World) (h : FlC w A xs) (hn : xs.length ≤ 1048576) :
    Calls Try.prog 22 #[.slice A xs.length cap, .float .f32 wd, .int .i64 p] w fun e w' => ∃ A' c g, e = .returned (.tuple #[.slice A' (ctL xs wd p).length c, .bool (ctO xs wd p)]) ∧ OwnOI w' w.heap.size A' g (ctL xs wd p) ∧ Below w.heap.size w w' := by
  have HF := Lib.hid h; clear h
  go_enter Try.func22, Try.ntmps22
  go_wp2_with fail
  go_step3
  go_wp2_with fail
  refine (i_AreCycles A cap xs _ HF.out hn).mono ?_
  rintro e w1 ⟨rfl, b1⟩
  have B1 := Lib.hid b1; clear b1
  cases v1 : areC xs
  · have HN : Hid (ctO xs wd p = false) := Lib.hid (by unfold ctO; rw [v1]; first | rfl | simp)
    go_wp2
    try rw [Exit.noGoto_ret]
    go_ret2
    exact ⟨none, 0, 0, by rw [HN.out, ctL_no HN.out]; rfl, .inl (ctL_no HN.out), B1.out⟩
  · have V1 := Lib.hid v1; clear v1
    go_wp2_with fail
    refine (i_isPositive _ _).mono ?_
    rintro e w2 ⟨n2, rfl, hw⟩
    have B2 : Hid (Below w.heap.size w w2) := Lib.hid (by rw [hw]; exact below_draws B1.out _)
    clear hw
    cases v2 : posi wd
    · have HN : Hid (ctO xs wd p = false) := Lib.hid (by unfold ctO; rw [V1.out, v2]; first | rfl | simp)
      go_wp2
      try rw [Exit.noGoto_ret]
      go_ret2
      exact ⟨none, 0, 0, by rw [HN.out, ctL_no HN.out]; rfl, .inl (ctL_no HN.out), B2.out⟩
    · have V2 := Lib.hid v2; clear v2
      go_wp2_with fail
      refine (i_isBinCount _ _).mono ?_
      rintro e w3 ⟨rfl, hw⟩
      have B3 : Hid (Below w.heap.size w w3) := Lib.hid (by rw [hw]; exact B2.out)
      clear hw
      by_cases hp : 1 ≤ p ∧ p ≤ 32
      · rw [decide_eq_true hp]
        obtain ⟨N, rfl⟩ : ∃ N : Nat, p = N := ⟨p.toNat, by omega⟩
        have hN : 1 ≤ N ∧ N ≤ 32 := by omega
        have HC : Hid (ctO xs wd (N : Int) = true) := Lib.hid (by unfold ctO; rw [V1.out, V2.out, decide_eq_true hp]; rfl)
        have HF3 : Hid (FlC w3 A xs) := Lib.hid (HF.out.below B3.out)
        have hl64 := areC_len V1.out
        have hmk := make_i64 N w3 (by omega)
        have HST : Hid (OwnI (w3.alloc (.cells (madeCells #[.int .i64 0] N) 2)) w3.heap.size (ctK xs wd N 0)) := Lib.hid (OwnI.start N _)
        have HB0 : Hid (Below w3.heap.size w3 (w3.alloc (.cells (madeCells #[.int .i64 0] N) 2))) := Lib.hid ((Below.refl _ _).alloc (Nat.le_refl _) _)
        clear hp
        go_wp2_with fail
        clear hmk
        go_step3
        go_wp2_with fail
        go_loopw [30] (fun i wr => ∃ k : Nat, k ≤ xs.length ∧ i = .int .i64 k ∧ Hid (OwnI wr w3.heap.size (ctK xs wd N k)) ∧ Hid (Below w3.heap.size w3 wr)) (fun i _ => xs.length - (intOf i).toNat)
        case atStart => exact ⟨0, Nat.zero_le _, rfl, HST, HB0⟩
        case round =>
          obtain ⟨k, hk, rfl, HO, HBW⟩ := hrel
          by_cases hlt : k < xs.length
          · obtain ⟨b, off, rfl, -, hc0, hc1, hc2⟩ := (HF3.out.below HBW.out).at_ hlt
            have HUP := Lib.hid (ctQ_up V1.out hlt V2.out)
            have HIN := Lib.hid (fun h => ctK_in (xs := xs) (wd := wd) (n := N) (k := k) h)
            have HOUT := Lib.hid (fun h => ctK_out (xs := xs) (wd := wd) (n := N) (k := k) h)
            have HQQ : Hid (ctQ xs wd k = fop .quo .f32 (rchV (loN xs k) (hiN xs k)) (canon .f32 wd)) := rfl
            have HBD := Lib.hid (ctK_bd xs wd N k)
            have HLEN := Lib.hid (ctK_len xs wd N k)
            generalize loN xs k = x at hc0 HQQ
            generalize hiN xs k = y at hc1 HQQ
            generalize whB xs k = z at hc2 HIN
            generalize ctQ xs wd k = Q at HUP HIN HOUT HQQ
            generalize ctK xs wd N k = ys at HO HIN HOUT HBD HLEN
            obtain ⟨w4, hw4⟩ : ∃ w4, w4 = wr.alloc (.cells #[.float .f32 x, .float .f32 y, .bool z] 70) := ⟨_, rfl⟩
            have b4 : Below wr.heap.size wr w4 := by rw [hw4]; exact (Below.refl _ _).alloc (Nat.le_refl _) _
            have K4 : Hid (BlkL w4 wr.heap.size [.float .f32 x, .float .f32 y, .bool z]) := Lib.hid (by rw [hw4]; exact blkL_at wr #[.float .f32 x, .float .f32 y, .bool z] _ rfl)
            have HO4 := Lib.hid (HO.out.below b4)
            have HB4 : Hid (Below w3.heap.size w3 w4) := Lib.hid (below_of HBW.out HBW.out.size b4)
            clear b4
            go_wp2_with fail
            rw [← hw4]
            clear hw4 hc0 hc1 hc2
            refine (i_reach x y z _).mono ?_
            rintro e w5 ⟨r5, rfl, hr5, b5⟩
            have K5 := Lib.hid (K4.out.below b5)
            have HO5 := Lib.hid (HO4.out.below b5)
            have HB5 : Hid (Below w3.heap.size w3 w5) := Lib.hid (below_of HB4.out HB4.out.size b5)
            have HR5 : Hid (∀ W : World, fopV .quo .f32 r5 wd W = Q) := Lib.hid (fun W => word_up (by rw [HQQ.out]; exact canonF hr5 rfl) HUP.out)
            clear b5 hr5 K4 HO4
            go_wp2_with fail
            rw [HR5.out]
            obtain ⟨w6, hw6⟩ : ∃ w6, w6 = w5.drewN (fopN .quo .f32 r5 wd) := ⟨_, rfl⟩
            rw [← hw6]
            have K6 : Hid (BlkL w6 wr.heap.size [.float .f32 x, .float .f32 y, .bool z]) := Lib.hid (by rw [hw6]; exact K5.out.draws _)
            have HO6 : Hid (OwnI w6 w3.heap.size ys) := Lib.hid (by rw [hw6]; exact HO5.out)
            have HB6 : Hid (Below w3.heap.size w3 w6) := Lib.hid (by rw [hw6]; exact below_draws HB5.out _)
            clear hw6
            have hv3 : 1 ≤ hlvV z ∧ hlvV z ≤ 2 := by unfold hlvV; split <;> omega
            go_loopw [12] (fun v wr => ∃ bb : Nat, bb < N ∧ v = .int .i64 bb ∧ Hid (bb ≤ wholeF Q) ∧ wr = w6) (fun v _ => N - (intOf v).toNat)
            case atStart => exact ⟨0, by omega, rfl, Lib.hid (Nat.zero_le _), rfl⟩
            case round =>
              obtain ⟨bb, hbb, rfl, HLE, rfl⟩ := hrel
              have HG := (binG_of HUP.out (c := (bb : Int) + 1) (by omega) (by omega)).g
              have e1 : IntKind.i64.wrap ((bb : Int) + 1) = (bb : Int) + 1 := IntWalk.i64_in _ (by omega)
              cases hge : decide ((bb : Int) + 1 ≤ (wholeF Q : Int))
              · have hw0 := of_decide_eq_false hge
                have hle := HLE.out
                have hwb : wholeF Q = bb := by omega
                rw [hge] at HG
                unfold geq32 at HG
                have HIN2 := Lib.hid (HIN.out (by rw [hwb]; exact hbb))
                have hlen := HLEN.out
                obtain ⟨hcell, hfz⟩ := HO6.out.2 bb (by rw [hlen]; exact hbb)
                have hbd := HBD.out bb
                obtain ⟨d0, d1, d2⟩ := K6.out.three
                have hsz : w3.heap.size < wr.heap.size := HO6.out.1
                have HOD : Hid (OwnI wr.drew w3.heap.size ys) := Lib.hid HO6.out
                have HBDR : Hid (Below w3.heap.size w3 wr.drew) := Lib.hid HB6.out.drew
                rw [hwb] at HIN2
                generalize ys.getD bb 0 = v at hcell hbd HIN2
                have e2 : IntKind.i64.wrap (v + hlvV z) = v + hlvV z := IntWalk.i64_in _ (by omega)
                have HHV0 : ∀ W, Hid (Calls Try.prog 67 #[.agg #[.float .f32 x, .float .f32 y, .bool z]] W fun e w' => e = .returned (.int .i64 (hlvV z)) ∧ Below W.heap.size W w') := fun W => Lib.hid (i_halvesV x y z W)
                generalize hlvV z = hv at e2 HIN2 hv3 HHV0
                have HHV : ∀ W, Hid (Calls Try.prog 67 #[.agg #[.float .f32 x, .float .f32 y, .bool z]] W fun e w' => e = .returned (.int .i64 hv) ∧ Below W.heap.size W w') := HHV0
                go_wp2_with fail
                have hC : N ≤ N := Nat.le_refl _
                go_region_with (go_at_call 67; refine (HHV _).out.mono ?_; rintro e w7 ⟨rfl, b7⟩; have hcell7 : w7.cell? ⟨w3.heap.size, bb, none⟩ = some (.int .i64 v) := (b7.cell (p := ⟨w3.heap.size, bb, none⟩) hsz).trans hcell; have hfz7 : w7.frozen? ⟨w3.heap.size, bb, none⟩ = false := (b7.frozen (p := ⟨w3.heap.size, bb, none⟩) hsz).trans hfz; have HO8 : Hid (OwnI (w7.setCell ⟨w3.heap.size, bb, none⟩ (.int .i64 (v + hv))) w3.heap.size (ctK xs wd N (k + 1))) := Lib.hid (by rw [HIN2.out]; exact (HOD.out.below b7).put (by rw [hlen]; exact hbb) _); have HB8 : Hid (Below w3.heap.size w3 (w7.setCell ⟨w3.heap.size, bb, none⟩ (.int .i64 (v + hv)))) := Lib.hid ((below_of HBDR.out HBDR.out.size b7).setCell (p := ⟨w3.heap.size, bb, none⟩) (Nat.le_refl _) _); clear b7)
                all_goals
                  go_wp2
                  go_roundw
                  case rel => exact ⟨k + 1, by omega, by go_num, HO8, HB8⟩
                  case measure => simp [intOf]; omega
              · have hw0 := of_decide_eq_true hge
                rw [hge] at HG
                unfold geq32 at HG
                by_cases hl : bb + 1 = N
                · have HK := Lib.hid (HOUT.out (by omega))
                  have HO7 : Hid (OwnI wr w3.heap.size (ctK xs wd N (k + 1))) := Lib.hid (by rw [HK.out]; exact HO6.out)
                  have e3 : (((bb : Int) + 1) == (N : Int)) = true := by rw [beq_iff_eq]; omega
                  go_wp2
                  go_roundw
                  case rel => exact ⟨k + 1, by omega, by go_num, HO7, HB6⟩
                  case measure => simp [intOf]; omega
                · have e3 : (((bb : Int) + 1) == (N : Int)) = false := by rw [beq_eq_false_iff_ne]; omega
                  have HLE2 : Hid (bb + 1 ≤ wholeF Q) := Lib.hid (by omega)
                  go_wp2
                  go_roundw
                  case rel => exact ⟨bb + 1, by omega, by go_num, HLE2, by first | rfl | trivial⟩
                  case measure => simp [intOf]; omega
          · have hkk : k = xs.length := by omega
            subst hkk
            have HL := Lib.hid (ctL_yes HC.out)
            have HLL : Hid ((ctL xs wd N).length = N) := Lib.hid (by rw [HL.out, ctK_len])
            go_wp2
            try rw [Exit.noGoto_ret]
            go_ret2
            exact ⟨_, N, _, by rw [HC.out, HLL.out]; rfl, .inr ⟨rfl, B3.out.size, by rw [HL.out]; exact HO.out⟩, below_of B3.out B3.out.size HBW.out⟩
      · rw [decide_eq_false hp]
        have HN : Hid (ctO xs wd p = false) := Lib.hid (by unfold ctO; rw [V1.out, V2.out, decide_eq_false hp]; first | rfl | simp)
        go_wp2
        try rw [Exit.noGoto_ret]
        go_ret2
        exact ⟨none, 0, 0, by rw [HN.out, ctL_no HN.out]; rfl, .inl (ctL_no HN.out), B3.out⟩
set_option maxHeartbeats 16000000 in
set_option maxRecDepth 100000 in
theorem s_CountCycles (A : Option Addr) (cap : Nat) (xs : List (Nat × Nat × Bool)) (wd : Nat) (p : Int) (w : World) (h : FlC w A xs) (hn : xs.length ≤ 1048576) :
    Calls Try.prog 21 #[.slice A xs.length cap, .float .f32 wd, .int .i64 p] w fun e w' => ∃ A' c g, e = .returned (.tuple #[.slice A' (ctL xs wd p).length c, .bool (ctO xs wd p)]) ∧ OwnOI w' w.heap.size A' g (ctL xs wd p) ∧ Below w.heap.size w w' := by
  have HF := Lib.hid h; clear h
  go_enter Try.func21, Try.ntmps21
  go_wp2_with fail
  refine (s_l07Are A cap xs _ HF.out hn).mono ?_
  rintro e w1 ⟨rfl, n1, hw⟩
  have B1 : Hid (Below w.heap.size w w1) := Lib.hid (by rw [hw]; exact below_draws (Below.refl _ _) _)
  clear hw
  cases v1 : areC xs
  · have HN : Hid (ctO xs wd p = false) := Lib.hid (by unfold ctO; rw [v1]; first | rfl | simp)
    go_wp2
    try rw [Exit.noGoto_ret]
    go_ret2
    exact ⟨none, 0, 0, by rw [HN.out, ctL_no HN.out]; rfl, .inl (ctL_no HN.out), B1.out⟩
  · have V1 := Lib.hid v1; clear v1
    go_wp2_with fail
    refine (s_l02Above _ _).mono ?_
    rintro e w2 ⟨n2, rfl, hw⟩
    have B2 : Hid (Below w.heap.size w w2) := Lib.hid (by rw [hw]; exact below_draws B1.out _)
    clear hw
    cases v2 : posi wd
    · have HN : Hid (ctO xs wd p = false) := Lib.hid (by unfold ctO; rw [V1.out, v2]; first | rfl | simp)
      go_wp2
      try rw [Exit.noGoto_ret]
      go_ret2
      exact ⟨none, 0, 0, by rw [HN.out, ctL_no HN.out]; rfl, .inl (ctL_no HN.out), B2.out⟩
    · have V2 := Lib.hid v2; clear v2
      go_wp2_with fail
      refine (l00In_any _ _ _ _).mono ?_
      rintro e wz ⟨rfl, hw⟩
      have B3 : Hid (Below w.heap.size w wz) := Lib.hid (by rw [hw]; exact B2.out)
      clear hw
      by_cases hp : 1 ≤ p ∧ p ≤ 32
      · rw [decide_eq_true hp]
        obtain ⟨N, rfl⟩ : ∃ N : Nat, p = N := ⟨p.toNat, by omega⟩
        have hN : 1 ≤ N ∧ N ≤ 32 := by omega
        have HC : Hid (ctO xs wd (N : Int) = true) := Lib.hid (by unfold ctO; rw [V1.out, V2.out, decide_eq_true hp]; rfl)
        have HF3 : Hid (FlC wz A xs) := Lib.hid (HF.out.below B3.out)
        have hl64 := areC_len V1.out
        have hmk := make_i64 N wz (by omega)
        have HST : Hid (OwnI (wz.alloc (.cells (madeCells #[.int .i64 0] N) 2)) wz.heap.size (ctK xs wd N 0)) := Lib.hid (OwnI.start N _)
        have HB0 : Hid (Below wz.heap.size wz (wz.alloc (.cells (madeCells #[.int .i64 0] N) 2))) := Lib.hid ((Below.refl _ _).alloc (Nat.le_refl _) _)
        clear hp
        go_wp2_with fail
        clear hmk
        go_loopw [28] (fun i wr => ∃ k : Nat, k ≤ xs.length ∧ i = .int .i64 k ∧ Hid (OwnI wr wz.heap.size (ctK xs wd N k)) ∧ Hid (Below wz.heap.size wz wr)) (fun i _ => xs.length - (intOf i).toNat)
        case atStart => exact ⟨0, Nat.zero_le _, rfl, HST, HB0⟩
        case round =>
          obtain ⟨k, hk, rfl, HO, HBW⟩ := hrel
          by_cases hlt : k < xs.length
          · obtain ⟨b, off, rfl, hbz, -⟩ := HF3.out.at_ hlt
            obtain ⟨hc0, hc1, hc2⟩ := (HF3.out.below HBW.out).same hlt
            have HUP := Lib.hid (ctQ_up V1.out hlt V2.out)
            have HIN := Lib.hid (fun h => ctK_in (xs := xs) (wd := wd) (n := N) (k := k) h)
            have HOUT := Lib.hid (fun h => ctK_out (xs := xs) (wd := wd) (n := N) (k := k) h)
            have HQQ : Hid (ctQ xs wd k = fop .quo .f32 (rchV (loN xs k) (hiN xs k)) (canon .f32 wd)) := rfl
            have HBD := Lib.hid (ctK_bd xs wd N k)
            have HLEN := Lib.hid (ctK_len xs wd N k)
            generalize loN xs k = x at hc0 HQQ
            generalize hiN xs k = y at hc1 HQQ
            generalize whB xs k = z at hc2 HIN
            generalize ctQ xs wd k = Q at HUP HIN HOUT HQQ
            generalize ctK xs wd N k = ys at HO HIN HOUT HBD HLEN
            have HC2 := Lib.hid hc2; clear hc2
            have hst : ∀ m, ∃ nn, { (wr.drewN m) with drawn := (wr.drewN m).drawn + 1 } = wr.drewN nn := fun m => ⟨m + 1, rfl⟩
            have hdd : ∀ nn j, ∃ mm, (wr.drewN nn).drewN j = wr.drewN mm := fun nn j => ⟨nn + j, World.drewN_drewN ..⟩
            go_wp2_with fail
            refine wp_region_inv3 (fun iq v => match iq with
              | 0 => v = .slice (some ⟨b, off, none⟩) xs.length cap
              | 1 => v = .int .i64 k
              | 2 => v = .pointer (some ⟨b, off + k * 3, none⟩)
              | 3 => v = .pointer (some ⟨b, off + k * 3 + 1, none⟩)
              | 4 => v = .float .f32 y
              | 5 => v = .slice (some ⟨b, off, none⟩) xs.length cap
              | 6 => v = .int .i64 k
              | 7 => v = .pointer (some ⟨b, off + k * 3, none⟩)
              | 8 => v = .pointer (some ⟨b, off + k * 3, none⟩)
              | 9 => v = .float .f32 x
              | 10 => ∃ r, v = .float .f32 r ∧ canon .f32 r = fop .sub .f32 (canon .f32 y) (canon .f32 x)
              | 11 => v = .float .f32 wd
              | 12 => ∃ r, v = .float .f32 r ∧ canon .f32 r = fop .quo .f32 (fop .sub .f32 (canon .f32 y) (canon .f32 x)) (canon .f32 wd)
              | 13 => ∃ r, v = .float .f32 r ∧ canon .f32 r = fop .quo .f32 (fop .sub .f32 (canon .f32 y) (canon .f32 x)) (canon .f32 wd)
              | _ => False) (fun _ ww => ∃ nn, ww = wr.drewN nn) (by kernel_rfl) (by kernel_rfl) ⟨1, rfl⟩ ?hop ?hend
            case hop =>
              intro q o hq listed act w3 hI hnot hcl hall
              obtain ⟨nn, rfl⟩ := hI.cls
              rcases q with _ | _ | _ | _ | _ | _ | _ | _ | _ | _ | _ | _ | _ | _ | q
              · simp at hq; subst hq
                have g0 : act.tmps[0]?.getD undef = .slice (some ⟨b, off, none⟩) xs.length cap := hI.kept 0 (by kernel_rfl)
                clear hI hall hnot hcl
                refine .inl ⟨wanted_none rfl, ?_⟩
                unfold Oper.wp
                go_simp
                all_goals exact ⟨_, rfl, rfl, ⟨_, rfl⟩⟩
              · simp at hq; subst hq
                have g9 : act.tmps[9]?.getD undef = .int .i64 k := hI.kept 9 (by kernel_rfl)
                clear hI hall hnot hcl
                refine .inl ⟨wanted_none rfl, ?_⟩
                unfold Oper.wp
                go_simp
                all_goals exact ⟨_, rfl, rfl, ⟨_, rfl⟩⟩
              · simp at hq; subst hq
                have g31 : act.tmps[31]?.getD undef = .slice (some ⟨b, off, none⟩) xs.length cap := hI.has 0 31 rfl (hall ⟨0, .data⟩ (by simp) rfl)
                have g32 : act.tmps[32]?.getD undef = .int .i64 k := hI.has 1 32 rfl (hall ⟨1, .data⟩ (by simp) rfl)
                clear hI hall hnot hcl
                refine .inl ⟨wanted_none rfl, ?_⟩
                unfold Oper.wp
                go_simp
                all_goals exact ⟨_, rfl, rfl, ⟨_, rfl⟩⟩
              · simp at hq; subst hq
                have g33 : act.tmps[33]?.getD undef = .pointer (some ⟨b, off + k * 3, none⟩) := hI.has 2 33 rfl (hall ⟨2, .data⟩ (by simp) rfl)
                clear hI hall hnot hcl
                refine .inl ⟨wanted_none rfl, ?_⟩
                unfold Oper.wp
                go_simp
                all_goals exact ⟨_, rfl, rfl, ⟨_, rfl⟩⟩
              · simp at hq; subst hq
                have g34 : act.tmps[34]?.getD undef = .pointer (some ⟨b, off + k * 3 + 1, none⟩) := hI.has 3 34 rfl (hall ⟨3, .data⟩ (by simp) rfl)
                clear hI hall hnot hcl
                refine .inl ⟨wanted_none rfl, ?_⟩
                unfold Oper.wp
                go_simp
                all_goals exact ⟨_, rfl, rfl, ⟨_, rfl⟩⟩
              · simp at hq; subst hq
                have g0 : act.tmps[0]?.getD undef = .slice (some ⟨b, off, none⟩) xs.length cap := hI.kept 0 (by kernel_rfl)
                clear hI hall hnot hcl
                refine .inl ⟨wanted_none rfl, ?_⟩
                unfold Oper.wp
                go_simp
                all_goals exact ⟨_, rfl, rfl, ⟨_, rfl⟩⟩
              · simp at hq; subst hq
                have g9 : act.tmps[9]?.getD undef = .int .i64 k := hI.kept 9 (by kernel_rfl)
                clear hI hall hnot hcl
                refine .inl ⟨wanted_none rfl, ?_⟩
                unfold Oper.wp
                go_simp
                all_goals exact ⟨_, rfl, rfl, ⟨_, rfl⟩⟩
              · simp at hq; subst hq
                have g36 : act.tmps[36]?.getD undef = .slice (some ⟨b, off, none⟩) xs.length cap := hI.has 5 36 rfl (hall ⟨5, .data⟩ (by simp) rfl)
                have g37 : act.tmps[37]?.getD undef = .int .i64 k := hI.has 6 37 rfl (hall ⟨6, .data⟩ (by simp) rfl)
                clear hI hall hnot hcl
                refine .inl ⟨wanted_none rfl, ?_⟩
                unfold Oper.wp
                go_simp
                all_goals exact ⟨_, rfl, rfl, ⟨_, rfl⟩⟩
              · simp at hq; subst hq
                have g38 : act.tmps[38]?.getD undef = .pointer (some ⟨b, off + k * 3, none⟩) := hI.has 7 38 rfl (hall ⟨7, .data⟩ (by simp) rfl)
                clear hI hall hnot hcl
                refine .inl ⟨wanted_none rfl, ?_⟩
                unfold Oper.wp
                go_simp
                all_goals exact ⟨_, rfl, rfl, ⟨_, rfl⟩⟩
              · simp at hq; subst hq
                have g39 : act.tmps[39]?.getD undef = .pointer (some ⟨b, off + k * 3, none⟩) := hI.has 8 39 rfl (hall ⟨8, .data⟩ (by simp) rfl)
                clear hI hall hnot hcl
                refine .inl ⟨wanted_none rfl, ?_⟩
                unfold Oper.wp
                go_simp
                all_goals exact ⟨_, rfl, rfl, ⟨_, rfl⟩⟩
              · simp at hq; subst hq
                have g35 : act.tmps[35]?.getD undef = .float .f32 y := hI.has 4 35 rfl (hall ⟨4, .data⟩ (by simp) rfl)
                have g40 : act.tmps[40]?.getD undef = .float .f32 x := hI.has 9 40 rfl (hall ⟨9, .data⟩ (by simp) rfl)
                clear hI hall hnot hcl
                refine .inl ⟨wanted_none rfl, ?_⟩
                unfold Oper.wp
                go_simp
                exact ⟨_, rfl, ⟨_, rfl, canonF rfl rfl⟩, by first | exact ⟨_, rfl⟩ | exact hdd _ _⟩
              · simp at hq; subst hq
                have g1 : act.tmps[1]?.getD undef = .float .f32 wd := hI.kept 1 (by kernel_rfl)
                clear hI hall hnot hcl
                refine .inl ⟨wanted_none rfl, ?_⟩
                unfold Oper.wp
                go_simp
                all_goals exact ⟨_, rfl, rfl, ⟨_, rfl⟩⟩
              · simp at hq; subst hq
                obtain ⟨r10, g41, h10a⟩ := hI.has 10 41 rfl (hall ⟨10, .data⟩ (by simp) rfl)
                have g42 : act.tmps[42]?.getD undef = .float .f32 wd := hI.has 11 42 rfl (hall ⟨11, .data⟩ (by simp) rfl)
                clear hI hall hnot hcl
                refine .inl ⟨wanted_none rfl, ?_⟩
                unfold Oper.wp
                go_simp
                exact ⟨_, rfl, ⟨_, rfl, canonF h10a rfl⟩, by first | exact ⟨_, rfl⟩ | exact hdd _ _⟩
              · simp at hq; subst hq
                obtain ⟨r12, g43, h12a⟩ := hI.has 12 43 rfl (hall ⟨12, .data⟩ (by simp) rfl)
                clear hI hall hnot hcl
                refine .inl ⟨wanted_none rfl, ?_⟩
                unfold Oper.wp
                go_simp
                exact ⟨_, rfl, ⟨_, rfl, h12a⟩, ⟨_, rfl⟩⟩
              · simp at hq
            case hend =>
              intro listed act w3 hI hall
              obtain ⟨nn, rfl⟩ := hI.cls
              obtain ⟨r10, g10, h10⟩ := hI.has 13 10 rfl (hall 13 (by decide))
              have g9 : act.tmps[9]?.getD undef = .int .i64 k := hI.kept 9 (by kernel_rfl)
              have g28 : act.tmps[28]?.getD undef = .int .i64 k := hI.kept 28 (by kernel_rfl)
              have g0 := hI.kept 0 (by kernel_rfl)
              conv at g0 => rhs; whnf
              have g1 := hI.kept 1 (by kernel_rfl)
              conv at g1 => rhs; whnf
              have g2 := hI.kept 2 (by kernel_rfl)
              conv at g2 => rhs; whnf
              have g3 : act.tmps[3]?.getD undef = undef := hI.kept 3 (by kernel_rfl)
              have g4 : act.tmps[4]?.getD undef = undef := hI.kept 4 (by kernel_rfl)
              have g5 : act.tmps[5]?.getD undef = undef := hI.kept 5 (by kernel_rfl)
              have g6 := hI.kept 6 (by kernel_rfl)
              conv at g6 => rhs; whnf
              have g7 := hI.kept 7 (by kernel_rfl)
              conv at g7 => rhs; whnf
              have g8 := hI.kept 8 (by kernel_rfl)
              conv at g8 => rhs; whnf
              have g11 := hI.kept 11 (by kernel_rfl)
              conv at g11 => rhs; whnf
              have g12 := hI.kept 12 (by kernel_rfl)
              conv at g12 => rhs; whnf
              have g13 := hI.kept 13 (by kernel_rfl)
              conv at g13 => rhs; whnf
              have g14 := hI.kept 14 (by kernel_rfl)
              conv at g14 => rhs; whnf
              have g15 := hI.kept 15 (by kernel_rfl)
              conv at g15 => rhs; whnf
              have g16 := hI.kept 16 (by kernel_rfl)
              conv at g16 => rhs; whnf
              have g17 := hI.kept 17 (by kernel_rfl)
              conv at g17 => rhs; whnf
              have g18 := hI.kept 18 (by kernel_rfl)
              conv at g18 => rhs; whnf
              have g19 := hI.kept 19 (by kernel_rfl)
              conv at g19 => rhs; whnf
              have g20 := hI.kept 20 (by kernel_rfl)
              conv at g20 => rhs; whnf
              have g21 := hI.kept 21 (by kernel_rfl)
              conv at g21 => rhs; whnf
              have g22 := hI.kept 22 (by kernel_rfl)
              conv at g22 => rhs; whnf
              have g23 := hI.kept 23 (by kernel_rfl)
              conv at g23 => rhs; whnf
              have g24 := hI.kept 24 (by kernel_rfl)
              conv at g24 => rhs; whnf
              have g25 := hI.kept 25 (by kernel_rfl)
              conv at g25 => rhs; whnf
              have g26 := hI.kept 26 (by kernel_rfl)
              conv at g26 => rhs; whnf
              have g27 := hI.kept 27 (by kernel_rfl)
              conv at g27 => rhs; whnf
              have g69 : act.tmps[69]?.getD undef = undef := hI.kept 69 (by kernel_rfl)
              have hsz : act.tmps.size = 70 := hI.size.trans (by kernel_rfl)
              have hd := hI.defers
              clear hI hall
              obtain ⟨tt, dd⟩ := act
              simp only at g0 g1 g2 g3 g4 g5 g6 g7 g8 g9 g10 g11 g12 g13 g14 g15 g16 g17 g18 g19 g20 g21 g22 g23 g24 g25 g26 g27 g28 g69 hsz hd
              subst hd
              have hl : tt = #[tt[0]?.getD undef, tt[1]?.getD undef, tt[2]?.getD undef, tt[3]?.getD undef, tt[4]?.getD undef, tt[5]?.getD undef, tt[6]?.getD undef, tt[7]?.getD undef, tt[8]?.getD undef, tt[9]?.getD undef, tt[10]?.getD undef, tt[11]?.getD undef, tt[12]?.getD undef, tt[13]?.getD undef, tt[14]?.getD undef, tt[15]?.getD undef, tt[16]?.getD undef, tt[17]?.getD undef, tt[18]?.getD undef, tt[19]?.getD undef, tt[20]?.getD undef, tt[21]?.getD undef, tt[22]?.getD undef, tt[23]?.getD undef, tt[24]?.getD undef, tt[25]?.getD undef, tt[26]?.getD undef, tt[27]?.getD undef, tt[28]?.getD undef, tt[29]?.getD undef, tt[30]?.getD undef, tt[31]?.getD undef, tt[32]?.getD undef, tt[33]?.getD undef, tt[34]?.getD undef, tt[35]?.getD undef, tt[36]?.getD undef, tt[37]?.getD undef, tt[38]?.getD undef, tt[39]?.getD undef, tt[40]?.getD undef, tt[41]?.getD undef, tt[42]?.getD undef, tt[43]?.getD undef, tt[44]?.getD undef, tt[45]?.getD undef, tt[46]?.getD undef, tt[47]?.getD undef, tt[48]?.getD undef, tt[49]?.getD undef, tt[50]?.getD undef, tt[51]?.getD undef, tt[52]?.getD undef, tt[53]?.getD undef, tt[54]?.getD undef, tt[55]?.getD undef, tt[56]?.getD undef, tt[57]?.getD undef, tt[58]?.getD undef, tt[59]?.getD undef, tt[60]?.getD undef, tt[61]?.getD undef, tt[62]?.getD undef, tt[63]?.getD undef, tt[64]?.getD undef, tt[65]?.getD undef, tt[66]?.getD undef, tt[67]?.getD undef, tt[68]?.getD undef, tt[69]?.getD undef] := (arr_lit hsz).trans rfl
              rw [g0, g1, g2, g3, g4, g5, g6, g7, g8, g9, g10, g11, g12, g13, g14, g15, g16, g17, g18, g19, g20, g21, g22, g23, g24, g25, g26, g27, g28, g69] at hl
              clear g0 g1 g2 g3 g4 g5 g6 g7 g8 g9 g10 g11 g12 g13 g14 g15 g16 g17 g18 g19 g20 g21 g22 g23 g24 g25 g26 g27 g28 g69 hsz
              generalize tt[29]?.getD undef = y29 at hl
              generalize tt[30]?.getD undef = y30 at hl
              generalize tt[31]?.getD undef = y31 at hl
              generalize tt[32]?.getD undef = y32 at hl
              generalize tt[33]?.getD undef = y33 at hl
              generalize tt[34]?.getD undef = y34 at hl
              generalize tt[35]?.getD undef = y35 at hl
              generalize tt[36]?.getD undef = y36 at hl
              generalize tt[37]?.getD undef = y37 at hl
              generalize tt[38]?.getD undef = y38 at hl
              generalize tt[39]?.getD undef = y39 at hl
              generalize tt[40]?.getD undef = y40 at hl
              generalize tt[41]?.getD undef = y41 at hl
              generalize tt[42]?.getD undef = y42 at hl
              generalize tt[43]?.getD undef = y43 at hl
              generalize tt[44]?.getD undef = y44 at hl
              generalize tt[45]?.getD undef = y45 at hl
              generalize tt[46]?.getD undef = y46 at hl
              generalize tt[47]?.getD undef = y47 at hl
              generalize tt[48]?.getD undef = y48 at hl
              generalize tt[49]?.getD undef = y49 at hl
              generalize tt[50]?.getD undef = y50 at hl
              generalize tt[51]?.getD undef = y51 at hl
              generalize tt[52]?.getD undef = y52 at hl
              generalize tt[53]?.getD undef = y53 at hl
              generalize tt[54]?.getD undef = y54 at hl
              generalize tt[55]?.getD undef = y55 at hl
              generalize tt[56]?.getD undef = y56 at hl
              generalize tt[57]?.getD undef = y57 at hl
              generalize tt[58]?.getD undef = y58 at hl
              generalize tt[59]?.getD undef = y59 at hl
              generalize tt[60]?.getD undef = y60 at hl
              generalize tt[61]?.getD undef = y61 at hl
              generalize tt[62]?.getD undef = y62 at hl
              generalize tt[63]?.getD undef = y63 at hl
              generalize tt[64]?.getD undef = y64 at hl
              generalize tt[65]?.getD undef = y65 at hl
              generalize tt[66]?.getD undef = y66 at hl
              generalize tt[67]?.getD undef = y67 at hl
              generalize tt[68]?.getD undef = y68 at hl
              subst hl
              have hr10 : r10 = Q := word_up (h10.trans HQQ.out.symm) HUP.out
              subst hr10
              clear h10 hc0 hc1
              obtain ⟨w4, hw4⟩ : ∃ w4, w4 = wr.drewN nn := ⟨_, rfl⟩
              rw [← hw4]
              have HO4 : Hid (OwnI w4 wz.heap.size ys) := Lib.hid (by rw [hw4]; exact HO.out)
              have HB4 : Hid (Below wz.heap.size wz w4) := Lib.hid (by rw [hw4]; exact below_draws HBW.out _)
              have HC4 : Hid (w4.cell? ⟨b, off + k * 3 + 2, none⟩ = some (.bool z)) := Lib.hid (by rw [hw4]; exact HC2.out)
              clear hw4
              have HG := binG_of HUP.out (c := (N : Int)) (by omega) (by omega)
              have hg1 := HG.l
              cases hge : decide ((wholeF r10 : Int) < (N : Int))
              · have hw0 := of_decide_eq_false hge
                rw [hge] at hg1
                unfold lss32 at hg1
                have HK := Lib.hid (HOUT.out (by omega))
                have HO7 : Hid (OwnI w4 wz.heap.size (ctK xs wd N (k + 1))) := Lib.hid (by rw [HK.out]; exact HO4.out)
                clear HG
                go_wp2
                go_roundw
                case rel => exact ⟨k + 1, by omega, by go_num, HO7, HB4⟩
                case measure => simp [intOf]; omega
              · have hw0 := of_decide_eq_true hge
                rw [hge] at hg1
                unfold lss32 at hg1
                have hcv : ∀ W, (convert 30 2 (.float .f32 r10)).run Try.prog W = .ok (.int .i64 (wholeF r10 : Int)) W := fun W => run_convert_float_int W _ _ .f32 .i64 _ _ (by kernel_rfl) (by kernel_rfl) (HG.i (by omega))
                have HIN2 := Lib.hid (HIN.out (by omega))
                clear HG hge
                have hbb : wholeF r10 < N := by omega
                generalize wholeF r10 = q at hcv HIN2 hbb
                have hlen := HLEN.out
                obtain ⟨hcell, hfz⟩ := HO4.out.2 q (by rw [hlen]; exact hbb)
                have hbd := HBD.out q
                have hbn : b ≠ wz.heap.size := by omega
                generalize ys.getD q 0 = v at hcell hbd HIN2
                have e2 : IntKind.i64.wrap (v + 1) = v + 1 := IntWalk.i64_in _ (by omega)
                have e3 : IntKind.i64.wrap (v + 1 + 1) = v + 1 + 1 := IntWalk.i64_in _ (by omega)
                have hz : (w4.setCell ⟨wz.heap.size, q, none⟩ (.int .i64 (v + 1))).cell? ⟨b, off + k * 3 + 2, none⟩ = some (.bool z) := by rw [World.cell?_setCell_other (h := by intro hh; simp only [Addr.mk.injEq] at hh; omega)]; exact HC4.out
                have hs : (w4.setCell ⟨wz.heap.size, q, none⟩ (.int .i64 (v + 1))).cell? ⟨wz.heap.size, q, none⟩ = some (.int .i64 (v + 1)) := World.cell?_setCell_same _ _ _ hcell
                have hf2 : (w4.setCell ⟨wz.heap.size, q, none⟩ (.int .i64 (v + 1))).frozen? ⟨wz.heap.size, q, none⟩ = false := by rw [World.frozen?_setCell]; exact hfz
                have HO5 : Hid (OwnI (w4.setCell ⟨wz.heap.size, q, none⟩ (.int .i64 (v + 1))) wz.heap.size (ys.set q (v + 1))) := Lib.hid (HO4.out.put (by rw [hlen]; exact hbb) _)
                have HB5 : Hid (Below wz.heap.size wz (w4.setCell ⟨wz.heap.size, q, none⟩ (.int .i64 (v + 1)))) := Lib.hid (HB4.out.setCell (p := ⟨wz.heap.size, q, none⟩) (Nat.le_refl _) _)
                have HO6 : Hid (OwnI ((w4.setCell ⟨wz.heap.size, q, none⟩ (.int .i64 (v + 1))).setCell ⟨wz.heap.size, q, none⟩ (.int .i64 (v + 1 + 1))) wz.heap.size (ys.set q (v + 1 + 1))) := Lib.hid (by have := HO5.out.put (j := q) (by rw [List.length_set, hlen]; exact hbb) (v + 1 + 1); rw [List.set_set] at this; exact this)
                have HB6 : Hid (Below wz.heap.size wz ((w4.setCell ⟨wz.heap.size, q, none⟩ (.int .i64 (v + 1))).setCell ⟨wz.heap.size, q, none⟩ (.int .i64 (v + 1 + 1)))) := Lib.hid (HB5.out.setCell (p := ⟨wz.heap.size, q, none⟩) (Nat.le_refl _) _)
                clear hbn
                cases z
                · have HO7 : Hid (OwnI (w4.setCell ⟨wz.heap.size, q, none⟩ (.int .i64 (v + 1))) wz.heap.size (ctK xs wd N (k + 1))) := Lib.hid (by rw [HIN2.out]; exact HO5.out)
                  go_wp2
                  go_roundw
                  case rel => exact ⟨k + 1, by omega, by go_num, HO7, HB5⟩
                  case measure => simp [intOf]; omega
                · have HO7 : Hid (OwnI ((w4.setCell ⟨wz.heap.size, q, none⟩ (.int .i64 (v + 1))).setCell ⟨wz.heap.size, q, none⟩ (.int .i64 (v + 1 + 1))) wz.heap.size (ctK xs wd N (k + 1))) := Lib.hid (by rw [HIN2.out, show v + hlvV true = v + 1 + 1 by unfold hlvV; simp only [if_true]; omega]; exact HO6.out)
                  go_wp2
                  go_roundw
                  case rel => exact ⟨k + 1, by omega, by go_num, HO7, HB6⟩
                  case measure => simp [intOf]; omega
          · have hkk : k = xs.length := by omega
            subst hkk
            have HL := Lib.hid (ctL_yes HC.out)
            have HLL : Hid ((ctL xs wd N).length = N) := Lib.hid (by rw [HL.out, ctK_len])
            go_wp2
            try rw [Exit.noGoto_ret]
            go_ret2
            exact ⟨_, N, _, by rw [HC.out, HLL.out]; rfl, .inr ⟨rfl, B3.out.size, by rw [HL.out]; exact HO.out⟩, below_of B3.out B3.out.size HBW.out⟩
      · rw [decide_eq_false hp]
        have HN : Hid (ctO xs wd p = false) := Lib.hid (by unfold ctO; rw [V1.out, V2.out, decide_eq_false hp]; first | rfl | simp)
        go_wp2
        try rw [Exit.noGoto_ret]
        go_ret2
        exact ⟨none, 0, 0, by rw [HN.out, ctL_no HN.out]; rfl, .inl (ctL_no HN.out), B3.out⟩
end Go.Proofs.Ytpchkedgjikpfab
