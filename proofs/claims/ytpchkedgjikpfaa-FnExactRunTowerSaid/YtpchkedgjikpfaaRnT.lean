/- Runs of towers: both sides. No statement is proved here. -/
import Derived.Test.YtpchkedgjikpfaaTowF
import Derived.Test.YtpchkedgjikpfaaApp
namespace Go.Proofs.Ytpchkedgjikpfaa
open Go Go.RowKit
theorem OwnO.mono {w : World} {B0 B1 b : Nat} {A : Option Addr} {xs : List Nat} (h : OwnO w B0 A b xs) (hb : B1 ≤ B0) : OwnO w B1 A b xs := by
  rcases h with h | ⟨h1, h2, h3⟩
  · exact .inl h
  · exact .inr ⟨h1, Nat.le_trans hb h2, h3⟩
/-- the place and the speed behind k ticks -/
def runK (m d s p v t : Nat) (fs : List Nat) : Nat → Nat × Nat
  | 0 => (canon .f32 p, canon .f32 v)
  | k + 1 => (stpP m d s (runK m d s p v t fs k).1 (runK m d s p v t fs k).2 (fs.getD k 0) t, stpS m d s (runK m d s p v t fs k).1 (runK m d s p v t fs k).2 (fs.getD k 0) t)
def runG (m d s p v t : Nat) (fs : List Nat) (k : Nat) : Bool := fin .f32 (fs.getD k 0) && (fin .f32 (runK m d s p v t fs (k + 1)).1 && fin .f32 (runK m d s p v t fs (k + 1)).2)
def runC (m d s p v t : Nat) (fs : List Nat) : Bool := movV m d s p v t && decide (fs.length ≤ 64)
def runO (m d s p v t : Nat) (fs : List Nat) : Bool := runC m d s p v t fs && alls (runG m d s p v t fs) fs.length
def runL (m d s p v t : Nat) (fs : List Nat) : List Nat := if runO m d s p v t fs then (List.range fs.length).map (fun k => (runK m d s p v t fs (k + 1)).1) else []
section
variable {m d s p v t : Nat} {fs : List Nat}
theorem runO_c (h : runC m d s p v t fs = false) : runO m d s p v t fs = false := by unfold runO; rw [h]; rfl
theorem runO_a {k : Nat} (h : alls (runG m d s p v t fs) k = false) (hk : k ≤ fs.length) : runO m d s p v t fs = false := by unfold runO; rw [alls_no h hk, Bool.and_false]
theorem runO_yes (h : runC m d s p v t fs = true) (h2 : alls (runG m d s p v t fs) fs.length = true) : runO m d s p v t fs = true := by unfold runO; rw [h, h2]; rfl
theorem runL_no (h : runO m d s p v t fs = false) : runL m d s p v t fs = [] := by unfold runL; rw [h]; rfl
theorem runL_yes (h : runO m d s p v t fs = true) : runL m d s p v t fs = (List.range fs.length).map (fun k => (runK m d s p v t fs (k + 1)).1) := by unfold runL; rw [h]; rfl
theorem runG_fin {k : Nat} (h : runG m d s p v t fs k = true) : fin .f32 (runK m d s p v t fs (k + 1)).1 = true := by unfold runG at h; simp only [Bool.and_eq_true] at h; exact h.2.1
theorem runL_few (m d s p v t : Nat) (fs : List Nat) (h : fs.length ≤ 1048576) : (runL m d s p v t fs).length ≤ 1048576 := by
  cases ho : runO m d s p v t fs
  · rw [runL_no ho]; simp
  · rw [runL_yes ho]; simpa using h
end
theorem stpS_canon (m d s p v f t : Nat) : stpS m d s (canon .f32 p) (canon .f32 v) f t = stpS m d s p v f t := by unfold stpS; simp only [canon_canon]
theorem stpP_canon (m d s p v f t : Nat) : stpP m d s (canon .f32 p) (canon .f32 v) f t = stpP m d s p v f t := by unfold stpP; rw [stpS_canon, canon_canon]
theorem stpO_parts {m d s p v f t : Nat} (h : stpO m d s p v f t = true) : stpR1 m d s p v f t = stpP m d s p v f t ∧ stpR2 m d s p v f t = stpS m d s p v f t ∧ fin .f32 (stpP m d s p v f t) = true ∧ fin .f32 (stpS m d s p v f t) = true := by
  unfold stpO at h
  simp only [Bool.and_eq_true] at h
  obtain ⟨h1, h2, h3⟩ := h
  refine ⟨?_, ?_, h2, h3⟩
  · unfold stpR1 both1; rw [h1, h2, h3]; rfl
  · unfold stpR2 both2; rw [h1, h2, h3]; rfl
set_option maxHeartbeats 16000000 in
set_option maxRecDepth 100000 in
theorem i_RunTower (A : Option Addr) (ca : Nat) (fs : List Nat) (m d s p v t : Nat) (w : World) (h : Fl w A fs) (hn : fs.length ≤ 1048576) :
    Calls Try.prog 27 #[.agg #[.float .f32 m, .float .f32 d, .float .f32 s], .float .f32 p, .float .f32 v, .slice A fs.length ca, .float .f32 t] w fun e w' => ∃ A' c g, e = .returned (.tuple #[.slice A' (runL m d s p v t fs).length c, .bool (runO m d s p v t fs)]) ∧ OwnO w' w.heap.size A' g (runL m d s p v t fs) ∧ Below w.heap.size w w' := by
  have HF := Lib.hid h; clear h
  obtain ⟨i0, hi, hz0, hz1, hz2⟩ := info_parts f32_info
  have HI := Lib.hid hi
  have HZ0 := Lib.hid hz0
  have HZ1 := Lib.hid hz1
  have HZ2 := Lib.hid hz2
  clear hi hz0 hz1 hz2
  have HB : ∀ o1, Hid (Below w.heap.size w (w.alloc o1)) := fun _ => Lib.hid ((Below.refl _ _).alloc (Nat.le_refl _) _)
  have K0 : ∀ t, Hid (BlkL (w.alloc (.cells #[.float .f32 m, .float .f32 d, .float .f32 s] t)) w.heap.size [.float .f32 m, .float .f32 d, .float .f32 s]) := fun _ => Lib.hid (blkL_at w #[.float .f32 m, .float .f32 d, .float .f32 s] _ rfl)
  have k0 := fun t => ((K0 t).out.2 0 _ rfl).1
  have k1 := fun t => ((K0 t).out.2 1 _ rfl).1
  have k2 := fun t => ((K0 t).out.2 2 _ rfl).1
  go_enter Try.func27, Try.ntmps27
  go_wp2_with fail
  refine (i_canMove m d s p v t _).mono ?_
  rintro e w1 ⟨rfl, b1⟩
  have B1 : Hid (Below w.heap.size w w1) := Lib.hid (below_of (HB _).out (HB _).out.size b1)
  have K1 : Hid (BlkL w1 w.heap.size [.float .f32 m, .float .f32 d, .float .f32 s]) := Lib.hid ((K0 _).out.below b1)
  clear b1 k0 k1 k2
  cases v1 : movV m d s p v t
  · have HN : Hid (runO m d s p v t fs = false) := Lib.hid (runO_c (by unfold runC; rw [v1]; first | rfl | simp))
    go_wp2
    go_ret2
    exact ⟨none, 0, 0, by rw [HN.out, runL_no HN.out]; rfl, .inl (runL_no HN.out), B1.out⟩
  · have V1 := Lib.hid v1; clear v1
    by_cases hl : fs.length ≤ 64
    · have HC : Hid (runC m d s p v t fs = true) := Lib.hid (by unfold runC; rw [V1.out, decide_eq_true hl]; rfl)
      have HF1 : Hid (Fl w1 A fs) := Lib.hid (HF.out.below B1.out)
      have hmk := run_make (P := Try.prog) w1 38 22 i0 (.float .f32 0) (by kernel_rfl) HI.out HZ0.out .i64 .i64 0 fs.length (by omega) (by omega) (by rw [HZ2.out]; omega) (by omega)
      rw [HZ1.out] at hmk
      have hmk' : (Instr.makeSlice 38 (.int .i64 0) (.int .i64 fs.length)).run Try.prog w1 = .ok (.slice (some ⟨w1.heap.size, 0, none⟩) 0 fs.length) (w1.alloc (.cells (madeCells #[.float .f32 0] fs.length) 22)) := by
        rw [hmk]; simp [Value.cells]
      clear hmk
      have HST : Hid (Gr (w1.alloc (.cells (madeCells #[.float .f32 0] fs.length) 22)) w1.heap.size (.slice (some ⟨w1.heap.size, 0, none⟩) 0 fs.length) []) := Lib.hid (Gr.made _ _ _ _ (Nat.le_refl _) (by unfold maxLen; omega) (by simp [madeCells]))
      have HB0 : Hid (Below w1.heap.size w1 (w1.alloc (.cells (madeCells #[.float .f32 0] fs.length) 22))) := Lib.hid ((Below.refl _ _).alloc (Nat.le_refl _) _)
      go_wp2_with fail
      clear hmk'
      go_loopw [1, 2, 12, 32] (fun sp sv vv i wr => ∃ (k : Nat) (ys : List Nat) (r q : Nat), k ≤ fs.length ∧ i = .int .i64 k ∧ sp = .float .f32 r ∧ sv = .float .f32 q ∧ Hid (canon .f32 r = (runK m d s p v t fs k).1) ∧ Hid (canon .f32 q = (runK m d s p v t fs k).2) ∧ Hid (movV m d s r q t = true) ∧ Hid (Gr wr w1.heap.size vv ys) ∧ Hid (ys.length = k) ∧ Hid (alls (runG m d s p v t fs) k = true) ∧ Hid (∀ j, j < k → canon .f32 (ys.getD j 0) = (runK m d s p v t fs (j + 1)).1) ∧ Hid (Below w1.heap.size w1 wr)) (fun _ _ _ i _ => fs.length - (intOf i).toNat)
      case atStart => exact ⟨0, [], p, v, Nat.zero_le _, rfl, rfl, rfl, rfl, rfl, V1, HST, rfl, rfl, Lib.hid (fun j hj => absurd hj (Nat.not_lt_zero j)), HB0⟩
      case round =>
        obtain ⟨k, ys, r, q, hk, rfl, rfl, rfl, HR, HS, HM, HGR, HL0, HP, HQ, HBW⟩ := hrel
        by_cases hlt : k < fs.length
        · obtain ⟨b, off, rfl, -, hc⟩ := (HF1.out.below HBW.out).at_ hlt
          obtain ⟨k0, k1, k2⟩ := (K1.out.below HBW.out).three
          have HP1 : Hid ((runK m d s p v t fs (k + 1)).1 = stpP m d s r q (fs.getD k 0) t) := Lib.hid (by show stpP m d s (runK m d s p v t fs k).1 (runK m d s p v t fs k).2 _ t = _; rw [← HR.out, ← HS.out, stpP_canon])
          have HS1 : Hid ((runK m d s p v t fs (k + 1)).2 = stpS m d s r q (fs.getD k 0) t) := Lib.hid (by show stpS m d s (runK m d s p v t fs k).1 (runK m d s p v t fs k).2 _ t = _; rw [← HR.out, ← HS.out, stpS_canon])
          have HGK : Hid (runG m d s p v t fs k = stpO m d s r q (fs.getD k 0) t) := Lib.hid (by unfold runG stpO stpC; rw [HP1.out, HS1.out, HM.out, Bool.true_and])
          generalize fs.getD k 0 = f at hc HP1 HS1 HGK
          go_wp2_with fail
          refine (i_StepTower m d s r q f t _).mono ?_
          rintro e w2 ⟨r1, q1, rfl, hr1, hq1, b1⟩
          have HG2 := Lib.hid (HGR.out.below b1)
          have HB2 : Hid (Below w1.heap.size w1 w2) := Lib.hid (below_of HBW.out HBW.out.size b1)
          clear b1 hc k0 k1 k2
          cases hg : stpO m d s r q f t
          · have HN2 : Hid (runO m d s p v t fs = false) := Lib.hid (runO_a (k := k + 1) (by simp only [alls]; rw [HGK.out, hg, Bool.and_false]) (by omega))
            clear hg hr1 hq1
            go_wp2
            go_ret2
            exact ⟨none, 0, 0, by rw [HN2.out, runL_no HN2.out]; rfl, .inl (runL_no HN2.out), below_of B1.out B1.out.size HB2.out⟩
          · have HN : Hid (alls (runG m d s p v t fs) (k + 1) = true) := Lib.hid (by simp only [alls]; rw [HGK.out, hg, HP.out]; rfl)
            have hpt := stpO_parts hg
            have HR1 : Hid (canon .f32 r1 = (runK m d s p v t fs (k + 1)).1) := Lib.hid (by rw [hr1, hpt.1, HP1.out])
            have HQ1 : Hid (canon .f32 q1 = (runK m d s p v t fs (k + 1)).2) := Lib.hid (by rw [hq1, hpt.2.1, HS1.out])
            have HM1 : Hid (movV m d s r1 q1 t = true) := Lib.hid (by
              have h1 := HM.out
              unfold movV at h1 ⊢
              rw [← fin_canon .f32 r1, ← fin_canon .f32 q1, hr1, hq1, hpt.1, hpt.2.1, hpt.2.2.1, hpt.2.2.2]
              simp only [Bool.and_eq_true] at h1 ⊢
              exact ⟨h1.1, trivial, trivial, h1.2.2.2⟩)
            clear hg hr1 hq1 hpt
            have hown := HG2.out
            unfold Gr at hown
            go_wp2_with (first
              | (at_builtin; refine wpList_append_own _ rfl _ _ 38 rfl w1.heap.size 22 i0 (.float .f32 0) 1 4 Try.underlying38 HI.out HZ0.out HZ1.out HZ2.out rfl (by decide) _ _ _ rfl (hown.alloc _) ⟨_, 0, none⟩ 1 1 [.float .f32 r1] rfl rfl ?c1 ?c2 ?c3 ?c4 ?c5 ?_)
              | fail)
            case c1 =>
              intro j u hj
              match j, hj with
              | 0, hj => simp at hj; subst hj; simp [Addr.add]
            case c2 => intro u hu; simp at hu; subst hu; rfl
            case c3 => have := HL0.out; unfold maxLen; omega
            case c4 => have := HL0.out; omega
            case c5 => have := HB2.out.size; simp; omega
            · intro v' w9 hown' hgrow _
              obtain ⟨g2, b2⟩ := Gr.next HG2.out HB2.out (Nat.le_refl _) hown' hgrow
              have HG9 := Lib.hid g2
              have HB9 := Lib.hid b2
              have HQ2 : Hid (∀ j, j < k + 1 → canon .f32 ((ys ++ [r1]).getD j 0) = (runK m d s p v t fs (j + 1)).1) := Lib.hid (fun j hj => by
                rw [getD_snoc _ _ _ (by rw [HL0.out]; exact hj), HL0.out]
                split
                · rename_i e; rw [HR1.out, e]
                · exact HQ.out j (by omega))
              have HL2 : Hid ((ys ++ [r1]).length = k + 1) := Lib.hid (by simp [HL0.out])
              clear g2 b2 hown hown' hgrow
              go_wp2
              go_roundw
              case rel => exact ⟨k + 1, ys ++ [r1], r1, q1, by omega, by go_num, by first | rfl | trivial, by first | rfl | trivial, HR1, HQ1, HM1, HG9, HL2, HN, HQ2, HB9⟩
              case measure => simp [intOf]; omega
        · have hkk : k = fs.length := by omega
          have HY : Hid (runO m d s p v t fs = true) := Lib.hid (runO_yes HC.out (by rw [← hkk]; exact HP.out))
          have HYS : Hid (ys = runL m d s p v t fs) := Lib.hid (by rw [runL_yes HY.out, ← hkk]; exact list_exact HL0.out HQ.out (fun j hj => runG_fin (alls_at HP.out j hj)))
          obtain ⟨A', cap', b', rfl, ho⟩ := HGR.out.own
          have HO := Lib.hid (OwnO.mono ho B1.out.size)
          clear ho
          go_wp2
          go_ret2
          exact ⟨A', cap', b', by rw [HY.out, ← HYS.out]; rfl, by rw [← HYS.out]; exact HO.out, below_of B1.out B1.out.size HBW.out⟩
    · have HN : Hid (runO m d s p v t fs = false) := Lib.hid (runO_c (by unfold runC; rw [decide_eq_false hl]; first | rfl | simp))
      go_wp2
      go_ret2
      exact ⟨none, 0, 0, by rw [HN.out, runL_no HN.out]; rfl, .inl (runL_no HN.out), B1.out⟩
set_option maxHeartbeats 16000000 in
set_option maxRecDepth 100000 in
theorem s_RunTower (A : Option Addr) (ca : Nat) (fs : List Nat) (m d s p v t : Nat) (w : World) (h : Fl w A fs) (hn : fs.length ≤ 1048576) :
    Calls Try.prog 25 #[.agg #[.float .f32 m, .float .f32 d, .float .f32 s], .float .f32 p, .float .f32 v, .slice A fs.length ca, .float .f32 t] w fun e w' => ∃ A' c g, e = .returned (.tuple #[.slice A' (runL m d s p v t fs).length c, .bool (runO m d s p v t fs)]) ∧ OwnO w' w.heap.size A' g (runL m d s p v t fs) ∧ Below w.heap.size w w' := by
  have HF := Lib.hid h; clear h
  obtain ⟨i0, hi, hz0, hz1, hz2⟩ := info_parts f32_info
  have HI := Lib.hid hi
  have HZ0 := Lib.hid hz0
  have HZ1 := Lib.hid hz1
  have HZ2 := Lib.hid hz2
  clear hi hz0 hz1 hz2
  have HB : ∀ o1, Hid (Below w.heap.size w (w.alloc o1)) := fun _ => Lib.hid ((Below.refl _ _).alloc (Nat.le_refl _) _)
  have K0 : ∀ t, Hid (BlkL (w.alloc (.cells #[.float .f32 m, .float .f32 d, .float .f32 s] t)) w.heap.size [.float .f32 m, .float .f32 d, .float .f32 s]) := fun _ => Lib.hid (blkL_at w #[.float .f32 m, .float .f32 d, .float .f32 s] _ rfl)
  go_enter Try.func25, Try.ntmps25
  go_wp2_with fail
  refine (s_l07Tower m d s _ _ (K0 _).out).mono ?_
  rintro e wa ⟨n0, rfl, hw⟩
  have Bwa : Hid (Below w.heap.size w wa) := Lib.hid (by rw [hw]; exact below_draws (HB _).out _)
  have Kwa : Hid (BlkL wa w.heap.size [.float .f32 m, .float .f32 d, .float .f32 s]) := Lib.hid (by rw [hw]; exact BlkL.draws (K0 _).out _)
  clear hw
  cases h0 : towV m d s
  · have HN : Hid (runO m d s p v t fs = false) := Lib.hid (runO_c (by unfold runC movV; rw [h0]; first | rfl | simp))
    go_wp2
    go_ret2
    exact ⟨none, 0, 0, by rw [HN.out, runL_no HN.out]; rfl, .inl (runL_no HN.out), Bwa.out⟩
  · skip
    go_wp2_with fail
    refine (s_l01Finite _ _).mono ?_
    rintro e wb ⟨n0, rfl, hw⟩
    have Bwb : Hid (Below w.heap.size w wb) := Lib.hid (by rw [hw]; exact below_draws Bwa.out _)
    have Kwb : Hid (BlkL wb w.heap.size [.float .f32 m, .float .f32 d, .float .f32 s]) := Lib.hid (by rw [hw]; exact BlkL.draws Kwa.out _)
    clear hw
    cases h1 : fin .f32 p
    · have HN : Hid (runO m d s p v t fs = false) := Lib.hid (runO_c (by unfold runC movV; rw [h0, h1]; first | rfl | simp))
      go_wp2
      go_ret2
      exact ⟨none, 0, 0, by rw [HN.out, runL_no HN.out]; rfl, .inl (runL_no HN.out), Bwb.out⟩
    · skip
      go_wp2_with fail
      refine (s_l01Finite _ _).mono ?_
      rintro e wc ⟨n0, rfl, hw⟩
      have Bwc : Hid (Below w.heap.size w wc) := Lib.hid (by rw [hw]; exact below_draws Bwb.out _)
      have Kwc : Hid (BlkL wc w.heap.size [.float .f32 m, .float .f32 d, .float .f32 s]) := Lib.hid (by rw [hw]; exact BlkL.draws Kwb.out _)
      clear hw
      cases h2 : fin .f32 v
      · have HN : Hid (runO m d s p v t fs = false) := Lib.hid (runO_c (by unfold runC movV; rw [h0, h1, h2]; first | rfl | simp))
        go_wp2
        go_ret2
        exact ⟨none, 0, 0, by rw [HN.out, runL_no HN.out]; rfl, .inl (runL_no HN.out), Bwc.out⟩
      · skip
        go_wp2_with fail
        refine (s_l02Above _ _).mono ?_
        rintro e wd ⟨n0, rfl, hw⟩
        have Bwd : Hid (Below w.heap.size w wd) := Lib.hid (by rw [hw]; exact below_draws Bwc.out _)
        have Kwd : Hid (BlkL wd w.heap.size [.float .f32 m, .float .f32 d, .float .f32 s]) := Lib.hid (by rw [hw]; exact BlkL.draws Kwc.out _)
        clear hw
        cases h3 : posi t
        · have HN : Hid (runO m d s p v t fs = false) := Lib.hid (runO_c (by unfold runC movV; rw [h0, h1, h2, h3]; first | rfl | simp))
          go_wp2
          go_ret2
          exact ⟨none, 0, 0, by rw [HN.out, runL_no HN.out]; rfl, .inl (runL_no HN.out), Bwd.out⟩
        · skip
          have V1 : Hid (movV m d s p v t = true) := Lib.hid (by unfold movV; rw [h0, h1, h2, h3]; rfl)
          clear h0 h1 h2 h3
          by_cases hl : fs.length ≤ 64
          · have HC : Hid (runC m d s p v t fs = true) := Lib.hid (by unfold runC; rw [V1.out, decide_eq_true hl]; rfl)
            have HF1 : Hid (Fl wd A fs) := Lib.hid (HF.out.below Bwd.out)
            have HST : Hid (Gr (wd.alloc (.cells #[] 22)) wd.heap.size (.slice (some ⟨wd.heap.size, 0, none⟩) 0 0) []) := Lib.hid (Gr.made _ _ 0 #[] (Nat.le_refl _) (by unfold maxLen; omega) rfl)
            have HB0 : Hid (Below wd.heap.size wd (wd.alloc (.cells #[] 22))) := Lib.hid ((Below.refl _ _).alloc (Nat.le_refl _) _)
            go_wp2_with fail
            go_loopw [1, 2, 12, 39] (fun sp sv vv i wr => ∃ (k : Nat) (ys : List Nat) (r q : Nat), k ≤ fs.length ∧ i = .int .i64 k ∧ sp = .float .f32 r ∧ sv = .float .f32 q ∧ Hid (canon .f32 r = (runK m d s p v t fs k).1) ∧ Hid (canon .f32 q = (runK m d s p v t fs k).2) ∧ Hid (Gr wr wd.heap.size vv ys) ∧ Hid (ys.length = k) ∧ Hid (alls (runG m d s p v t fs) k = true) ∧ Hid (∀ j, j < k → canon .f32 (ys.getD j 0) = (runK m d s p v t fs (j + 1)).1) ∧ Hid (Below wd.heap.size wd wr)) (fun _ _ _ i _ => fs.length - (intOf i).toNat)
            case atStart => exact ⟨0, [], p, v, Nat.zero_le _, rfl, rfl, rfl, rfl, rfl, HST, rfl, rfl, Lib.hid (fun j hj => absurd hj (Nat.not_lt_zero j)), HB0⟩
            case round =>
              obtain ⟨k, ys, r, q, hk, rfl, rfl, rfl, HR, HS, HGR, HL0, HP, HQ, HBW⟩ := hrel
              by_cases hlt : k < fs.length
              · obtain ⟨b, off, rfl, -, hc⟩ := (HF1.out.below HBW.out).at_ hlt
                have HP1 : Hid ((runK m d s p v t fs (k + 1)).1 = stpP m d s r q (fs.getD k 0) t) := Lib.hid (by show stpP m d s (runK m d s p v t fs k).1 (runK m d s p v t fs k).2 _ t = _; rw [← HR.out, ← HS.out, stpP_canon])
                have HS1 : Hid ((runK m d s p v t fs (k + 1)).2 = stpS m d s r q (fs.getD k 0) t) := Lib.hid (by show stpS m d s (runK m d s p v t fs k).1 (runK m d s p v t fs k).2 _ t = _; rw [← HR.out, ← HS.out, stpS_canon])
                have HGK : Hid (runG m d s p v t fs k = (fin .f32 (fs.getD k 0) && (fin .f32 (runK m d s p v t fs (k + 1)).1 && fin .f32 (runK m d s p v t fs (k + 1)).2))) := rfl
                have HNO : Hid (runG m d s p v t fs k = false → runO m d s p v t fs = false) := Lib.hid (fun h => runO_a (k := k + 1) (by simp only [alls]; rw [h, Bool.and_false]) (by omega))
                have HFW : ∀ W, Hid (Below wr.heap.size wr W → Fl W (some ⟨b, off, none⟩) fs) := fun W => Lib.hid (fun hW => HF1.out.below (below_of HBW.out HBW.out.size hW))
                generalize fs.getD k 0 = f at hc HP1 HS1 HGK
                go_wp2_with fail
                refine (s_l01Finite _ _).mono ?_
                rintro e w2 ⟨n2, rfl, hw⟩
                have b1 : Below wr.heap.size wr w2 := by rw [hw]; exact below_draws (Below.refl _ _) _
                have HG2 := Lib.hid (HGR.out.below b1)
                have HB2 : Hid (Below wd.heap.size wd w2) := Lib.hid (below_of HBW.out HBW.out.size b1)
                have hc2 : w2.cell? ⟨b, off + k, none⟩ = some (.float .f32 f) := by rw [hw]; exact hc
                clear b1 hw hc
                cases hf : fin .f32 f
                · have HN2 : Hid (runO m d s p v t fs = false) := Lib.hid (HNO.out (by rw [HGK.out, hf]; rfl))
                  clear hf
                  go_wp2
                  go_ret2
                  exact ⟨none, 0, 0, by rw [HN2.out, runL_no HN2.out]; rfl, .inl (runL_no HN2.out), below_of Bwd.out Bwd.out.size HB2.out⟩
                · have HFF := Lib.hid hf; clear hf
                  go_wp2_with fail
                  refine (s_l07Step m d s r q f t _ _ (Kwd.out.below HB2.out)).mono ?_
                  rintro e w3 ⟨r1, q1, n3, rfl, hr1, hq1, hw⟩
                  have b1 : Below w2.heap.size w2 w3 := by rw [hw]; exact below_draws (Below.refl _ _) _
                  have HG3 := Lib.hid (HG2.out.below b1)
                  have HB3 : Hid (Below wd.heap.size wd w3) := Lib.hid (below_of HB2.out HB2.out.size b1)
                  have HR1 : Hid (canon .f32 r1 = (runK m d s p v t fs (k + 1)).1) := Lib.hid (by rw [hr1, HP1.out])
                  have HQ1 : Hid (canon .f32 q1 = (runK m d s p v t fs (k + 1)).2) := Lib.hid (by rw [hq1, HS1.out])
                  clear b1 hw hc2 hr1 hq1
                  go_wp2_with fail
                  refine (s_l01Finite _ _).mono ?_
                  rintro e w4 ⟨n4, rfl, hw⟩
                  have b1 : Below w3.heap.size w3 w4 := by rw [hw]; exact below_draws (Below.refl _ _) _
                  have HG4 := Lib.hid (HG3.out.below b1)
                  have HB4 : Hid (Below wd.heap.size wd w4) := Lib.hid (below_of HB3.out HB3.out.size b1)
                  clear b1 hw
                  cases hf1 : fin .f32 r1
                  · have HN2 : Hid (runO m d s p v t fs = false) := Lib.hid (HNO.out (by rw [HGK.out, HFF.out, ← HR1.out, fin_canon, hf1]; rfl))
                    clear hf1
                    go_wp2
                    go_ret2
                    exact ⟨none, 0, 0, by rw [HN2.out, runL_no HN2.out]; rfl, .inl (runL_no HN2.out), below_of Bwd.out Bwd.out.size HB4.out⟩
                  · have HF3 := Lib.hid hf1; clear hf1
                    go_wp2_with fail
                    refine (s_l01Finite _ _).mono ?_
                    rintro e w5 ⟨n5, rfl, hw⟩
                    have b1 : Below w4.heap.size w4 w5 := by rw [hw]; exact below_draws (Below.refl _ _) _
                    have HG5 := Lib.hid (HG4.out.below b1)
                    have HB5 : Hid (Below wd.heap.size wd w5) := Lib.hid (below_of HB4.out HB4.out.size b1)
                    clear b1 hw
                    cases hf2 : fin .f32 q1
                    · have HN2 : Hid (runO m d s p v t fs = false) := Lib.hid (HNO.out (by rw [HGK.out, HFF.out, ← HR1.out, ← HQ1.out, fin_canon, fin_canon, HF3.out, hf2]; rfl))
                      clear hf2
                      go_wp2
                      go_ret2
                      exact ⟨none, 0, 0, by rw [HN2.out, runL_no HN2.out]; rfl, .inl (runL_no HN2.out), below_of Bwd.out Bwd.out.size HB5.out⟩
                    · have HN : Hid (alls (runG m d s p v t fs) (k + 1) = true) := Lib.hid (by simp only [alls]; rw [HGK.out, HFF.out, ← HR1.out, ← HQ1.out, fin_canon, fin_canon, HF3.out, hf2, HP.out]; rfl)
                      clear hf2
                      have hown := HG5.out
                      unfold Gr at hown
                      go_wp2_with (first
                        | (at_builtin; refine wpList_append_own _ rfl _ _ 38 rfl wd.heap.size 22 i0 (.float .f32 0) 1 4 Try.underlying38 HI.out HZ0.out HZ1.out HZ2.out rfl (by decide) _ _ _ rfl (hown.alloc _) ⟨_, 0, none⟩ 1 1 [.float .f32 r1] rfl rfl ?c1 ?c2 ?c3 ?c4 ?c5 ?_)
                        | fail)
                      case c1 =>
                        intro j u hj
                        match j, hj with
                        | 0, hj => simp at hj; subst hj; simp [Addr.add]
                      case c2 => intro u hu; simp at hu; subst hu; rfl
                      case c3 => have := HL0.out; unfold maxLen; omega
                      case c4 => have := HL0.out; omega
                      case c5 => have := HB5.out.size; simp; omega
                      · intro v' w9 hown' hgrow _
                        obtain ⟨g2, b2⟩ := Gr.next HG5.out HB5.out (Nat.le_refl _) hown' hgrow
                        have HG9 := Lib.hid g2
                        have HB9 := Lib.hid b2
                        have HQ2 : Hid (∀ j, j < k + 1 → canon .f32 ((ys ++ [r1]).getD j 0) = (runK m d s p v t fs (j + 1)).1) := Lib.hid (fun j hj => by
                          rw [getD_snoc _ _ _ (by rw [HL0.out]; exact hj), HL0.out]
                          split
                          · rename_i e; rw [HR1.out, e]
                          · exact HQ.out j (by omega))
                        have HL2 : Hid ((ys ++ [r1]).length = k + 1) := Lib.hid (by simp [HL0.out])
                        clear g2 b2 hown hown' hgrow
                        go_wp2
                        go_roundw
                        case rel => exact ⟨k + 1, ys ++ [r1], r1, q1, by omega, by go_num, by first | rfl | trivial, by first | rfl | trivial, HR1, HQ1,  HG9, HL2, HN, HQ2, HB9⟩
                        case measure => simp [intOf]; omega
              · have hkk : k = fs.length := by omega
                have HY : Hid (runO m d s p v t fs = true) := Lib.hid (runO_yes HC.out (by rw [← hkk]; exact HP.out))
                have HYS : Hid (ys = runL m d s p v t fs) := Lib.hid (by rw [runL_yes HY.out, ← hkk]; exact list_exact HL0.out HQ.out (fun j hj => runG_fin (alls_at HP.out j hj)))
                obtain ⟨A', cap', b', rfl, ho⟩ := HGR.out.own
                have HO := Lib.hid (OwnO.mono ho Bwd.out.size)
                clear ho
                go_wp2
                go_ret2
                exact ⟨A', cap', b', by rw [HY.out, ← HYS.out]; rfl, by rw [← HYS.out]; exact HO.out, below_of Bwd.out Bwd.out.size HBW.out⟩
          · have HN : Hid (runO m d s p v t fs = false) := Lib.hid (runO_c (by unfold runC; rw [decide_eq_false hl]; first | rfl | simp))
            go_wp2
            go_ret2
            exact ⟨none, 0, 0, by rw [HN.out, runL_no HN.out]; rfl, .inl (runL_no HN.out), Bwd.out⟩
end Go.Proofs.Ytpchkedgjikpfaa
