/- Gusts by a seed: both sides. No statement is proved here. -/
import Derived.Test.YteligfbbofgonabWin
import Derived.Test.YteligfbbofgonabApp
namespace Go.Proofs.Yteligfbbofgonab
open Go Go.RowKit
def nxS (s : Int) : Int := (1103515245 * s + 12345) % 2147483648
def seedK (s : Int) : Nat → Int
  | 0 => s
  | k + 1 => nxS (seedK s k)
theorem nxS_bd (s : Int) : 0 ≤ nxS s ∧ nxS s < 2147483648 := by unfold nxS; omega
theorem seedK_bd {s : Int} (h0 : 0 ≤ s) (h1 : s < 2147483648) (k : Nat) : 0 ≤ seedK s k ∧ seedK s k < 2147483648 := by
  cases k with
  | zero => exact ⟨h0, h1⟩
  | succ k => exact nxS_bd _
def uV (s : Int) : Nat := fop .quo .f32 (canon .f32 (floatOfInt .f32 (s / 65536 - 16384))) (canon .f32 1182793728)
def gxK (ro ke : Nat) (sd : Int) : Nat → Nat
  | 0 => 0
  | k + 1 => fop .add .f32 (fop .mul .f32 (canon .f32 ke) (gxK ro ke sd k)) (fop .mul .f32 (canon .f32 ro) (uV (seedK sd (k + 1))))
def gwV (m ro ke : Nat) (sd : Int) (k : Nat) : Nat := fop .mul .f32 m (fop .add .f32 (canon .f32 1065353216) (gxK ro ke sd (k + 1)))
def gwA (m ro ke : Nat) (sd : Int) (k : Nat) : Nat := if (FloatKind.f32.format.order (gwV m ro ke sd k) 0 == some .gt) then gwV m ro ke sd k else 0
def gusP (d h s k z : Nat) (c : Int) (ro ke : Nat) (sd : Int) : Bool := airV d h s k && (amount z && (fin .f32 (spdV h s k z) && (decide (1 ≤ c ∧ c ≤ 256) && (amount ro && (within ke 0 1065353216 && decide (0 ≤ sd ∧ sd ≤ 2147483647))))))
def gusA (h s k z : Nat) (c : Int) (ro ke : Nat) (sd : Int) : Bool := alls (fun q => fin .f32 (gwA (spdV h s k z) ro ke sd q)) c.toNat
def gusO (d h s k z : Nat) (c : Int) (ro ke : Nat) (sd : Int) : Bool := gusP d h s k z c ro ke sd && gusA h s k z c ro ke sd
def gusL (d h s k z : Nat) (c : Int) (ro ke : Nat) (sd : Int) : List Nat := if gusO d h s k z c ro ke sd then (List.range c.toNat).map (gwA (spdV h s k z) ro ke sd) else []
def gusS (d h s k z : Nat) (c : Int) (ro ke : Nat) (sd : Int) : Int := if gusO d h s k z c ro ke sd then seedK sd c.toNat else 0
theorem gusL_no {d h s k z : Nat} {c : Int} {ro ke : Nat} {sd : Int} (h' : gusO d h s k z c ro ke sd = false) : gusL d h s k z c ro ke sd = [] ∧ gusS d h s k z c ro ke sd = 0 := by unfold gusL gusS; rw [h']; exact ⟨rfl, rfl⟩
theorem gusO_p {d h s k z : Nat} {c : Int} {ro ke : Nat} {sd : Int} (h' : gusP d h s k z c ro ke sd = false) : gusO d h s k z c ro ke sd = false := by unfold gusO; rw [h']; rfl
theorem gusO_a {d h s k z : Nat} {c : Int} {ro ke : Nat} {sd : Int} (h' : gusA h s k z c ro ke sd = false) : gusO d h s k z c ro ke sd = false := by unfold gusO; rw [h']; simp
theorem gusL_few (d h s k z : Nat) (c : Int) (ro ke : Nat) (sd : Int) : (gusL d h s k z c ro ke sd).length ≤ 1048576 := by
  unfold gusL
  split
  · rename_i ho
    unfold gusO gusP at ho
    simp only [Bool.and_eq_true, decide_eq_true_eq] at ho
    simp; omega
  · simp
theorem canon_gwA (m ro ke : Nat) (sd : Int) (q : Nat) : canon .f32 (gwA m ro ke sd q) = gwA m ro ke sd q := by
  unfold gwA; split
  · exact canon_fop ..
  · exact canon_zero
theorem i_mulE (a b : Nat) (w : World) :
    Calls Try.prog 97 #[.float .f32 a, .float .f32 b] w fun e w' => ∃ r n, e = .returned (.float .f32 r) ∧ canon .f32 r = fop .mul .f32 (canon .f32 a) (canon .f32 b) ∧ w' = w.drewN n :=
  (i_mulNumbers a b w).mono fun _ _ ⟨he, hw⟩ => ⟨_, _, he, canon_fopV .., hw⟩
theorem i_nextSeed (s : Int) (w : World) (h0 : 0 ≤ s) (h1 : s < 2147483648) :
    Calls Try.prog 96 #[.int .i64 s] w fun e w' => ∃ r n, e = .returned (.tuple #[.int .i64 (nxS s), .float .f32 r]) ∧ canon .f32 r = uV (nxS s) ∧ w' = w.drewN n := by
  go_enter Try.func96, Try.ntmps96
  go_wp2
  go_ret2
  exact ⟨_, _, rfl, canonF rfl rfl, rfl⟩
theorem s_l04Next (s : Int) (w : World) (h0 : 0 ≤ s) (h1 : s < 2147483648) :
    Calls Try.prog 94 #[.int .i64 s] w fun e w' => e = .returned (.int .i64 (nxS s)) ∧ w' = w := by
  go_enter Try.func94, Try.ntmps94
  go_wp2
  go_ret
  exact ⟨rfl, rfl⟩
theorem s_l04Seed (s : Int) (w : World) :
    Calls Try.prog 92 #[.int .i64 s] w fun e w' => e = .returned (.bool (decide (0 ≤ s ∧ s ≤ 2147483647))) ∧ w' = w := by
  go_enter Try.func92, Try.ntmps92
  go_wp2_with fail
  refine (l00In_any _ _ _ _).mono ?_
  rintro e w' ⟨rfl, rfl⟩
  go_wp2
  go_ret
  exact ⟨by show Ending.returned (.bool (decide (0 ≤ s) && decide (s ≤ 2147483647))) = _; rw [Bool.decide_and], rfl⟩
set_option maxHeartbeats 16000000 in
set_option maxRecDepth 100000 in
theorem i_GustsOf (d h s k z : Nat) (c : Int) (ro ke : Nat) (sd : Int) (w : World) (_hc : (Lit.int .i64 c).wf = true) (_hs : (Lit.int .i64 sd).wf = true) :
    Calls Try.prog 46 #[.agg #[.float .f32 d, .float .f32 h, .float .f32 s, .float .f32 k], .float .f32 z, .int .i64 c, .float .f32 ro, .float .f32 ke, .int .i64 sd] w fun e w' => ∃ A' cp b, e = .returned (.tuple #[.slice A' (gusL d h s k z c ro ke sd).length cp, .int .i64 (gusS d h s k z c ro ke sd), .bool (gusO d h s k z c ro ke sd)]) ∧ OwnO w' w.heap.size A' b (gusL d h s k z c ro ke sd) ∧ Below w.heap.size w w' := by
  have HB : ∀ o1, Hid (Below w.heap.size w (w.alloc o1)) := fun _ => Lib.hid ((Below.refl _ _).alloc (Nat.le_refl _) _)
  obtain ⟨i0, hi, hz0, hz1, hz2⟩ := info_parts f32_info
  go_enter Try.func46, Try.ntmps46
  go_wp2_with fail
  refine (i_SpeedAtHeight d h s k z _).mono ?_
  rintro e w1 ⟨rm, rfl, hm, b1⟩
  have HM := Lib.hid hm
  have B1 : Hid (Below w.heap.size w w1) := Lib.hid (below_of (HB _).out (HB _).out.size b1)
  clear hm b1
  cases so : spdO d h s k z
  · have HN : Hid (gusO d h s k z c ro ke sd = false) := Lib.hid (gusO_p (by unfold spdO at so; unfold gusP; cases q1 : airV d h s k <;> cases q2 : amount z <;> cases q3 : fin .f32 (spdV h s k z) <;> simp_all))
    clear so
    go_wp2
    refine bodyPost_ret (results_tmp3 rfl _ _ _) rfl ?_
    exact ⟨none, 0, 0, by rw [HN.out, (gusL_no HN.out).1, (gusL_no HN.out).2]; rfl, .inl (gusL_no HN.out).1, B1.out⟩
  · have SO := Lib.hid so
    have hsp : airV d h s k = true ∧ amount z = true ∧ fin .f32 (spdV h s k z) = true := by unfold spdO at so; simp only [Bool.and_eq_true] at so; exact ⟨so.1, so.2.1, so.2.2⟩
    have HS := Lib.hid hsp
    have HMM : Hid (canon .f32 rm = spdV h s k z) := Lib.hid (by rw [HM.out]; unfold spdR; rw [hsp.1, hsp.2.1]; exact onlyN_fin hsp.2.2)
    clear so hsp
    by_cases hc1 : 1 ≤ c
    · by_cases hc2 : c ≤ 256
      · go_wp2_with fail
        refine (i_notAmount _ _).mono ?_
        rintro e w2 ⟨n2, rfl, hw⟩
        have B2 : Hid (Below w.heap.size w w2) := Lib.hid (by rw [hw]; exact below_draws B1.out _)
        clear hw
        cases pr : amount ro
        · have HN : Hid (gusO d h s k z c ro ke sd = false) := Lib.hid (gusO_p (by unfold gusP; rw [pr]; simp))
          clear pr
          go_wp2
          refine bodyPost_ret (results_tmp3 rfl _ _ _) rfl ?_
          exact ⟨none, 0, 0, by rw [HN.out, (gusL_no HN.out).1, (gusL_no HN.out).2]; rfl, .inl (gusL_no HN.out).1, B2.out⟩
        · have PRO := Lib.hid pr; clear pr
          go_wp2_with fail
          refine (i_isWithin _ _ _ _).mono ?_
          rintro e w' ⟨rfl, hw⟩
          rw [hw]
          clear hw w'
          cases pk : within ke 0 1065353216
          · have HN : Hid (gusO d h s k z c ro ke sd = false) := Lib.hid (gusO_p (by unfold gusP; rw [pk]; simp))
            clear pk
            go_wp2
            refine bodyPost_ret (results_tmp3 rfl _ _ _) rfl ?_
            exact ⟨none, 0, 0, by rw [HN.out, (gusL_no HN.out).1, (gusL_no HN.out).2]; rfl, .inl (gusL_no HN.out).1, B2.out⟩
          · have PKE := Lib.hid pk; clear pk
            by_cases hs1 : 0 ≤ sd
            · by_cases hs2 : sd < 2147483648
              · obtain ⟨C, rfl⟩ : ∃ C : Nat, c = C := ⟨c.toNat, by omega⟩
                have HP : Hid (gusP d h s k z C ro ke sd = true) := Lib.hid (by unfold gusP; rw [HS.out.1, HS.out.2.1, HS.out.2.2, PRO.out, PKE.out, decide_eq_true (show 1 ≤ (C : Int) ∧ (C : Int) ≤ 256 by omega), decide_eq_true (show 0 ≤ sd ∧ sd ≤ 2147483647 by omega)]; rfl)
                have hmk := run_make (P := Try.prog) w2 22 32 i0 (.float .f32 0) (by kernel_rfl) hi hz0 .i64 .i64 0 C (by omega) (by omega) (by rw [hz2]; omega) (by omega)
                rw [hz1] at hmk
                have hmk' : (Instr.makeSlice 22 (.int .i64 0) (.int .i64 C)).run Try.prog w2 = .ok (.slice (some ⟨w2.heap.size, 0, none⟩) 0 C) (w2.alloc (.cells (madeCells #[.float .f32 0] C) 32)) := by
                  rw [hmk]; simp [Value.cells]
                clear hmk
                have HST : Hid (Gr (w2.alloc (.cells (madeCells #[.float .f32 0] C) 32)) w.heap.size (.slice (some ⟨w2.heap.size, 0, none⟩) 0 C) []) := Lib.hid (Gr.made _ _ _ _ B2.out.size (by unfold maxLen; omega) (by simp [madeCells]))
                have HB0 : Hid (Below w.heap.size w (w2.alloc (.cells (madeCells #[.float .f32 0] C) 32))) := Lib.hid (B2.out.alloc B2.out.size _)
                go_wp2_with fail
                clear hmk'
                go_loopw [5, 17, 18, 57] (fun sv v xv i wr => ∃ (q : Nat) (ys : List Nat) (xr : Nat), q ≤ C ∧ i = .int .i64 q ∧ sv = .int .i64 (seedK sd q) ∧ xv = .float .f32 xr ∧ Hid (canon .f32 xr = gxK ro ke sd q) ∧ Hid (Gr wr w.heap.size v ys) ∧ Hid (ys.length = q) ∧ Hid (alls (fun q => fin .f32 (gwA (spdV h s k z) ro ke sd q)) q = true) ∧ Hid (∀ j, j < q → canon .f32 (ys.getD j 0) = gwA (spdV h s k z) ro ke sd j) ∧ Hid (Below w.heap.size w wr)) (fun _ _ _ i _ => C - (intOf i).toNat)
                case atStart => exact ⟨0, [], 0, Nat.zero_le _, rfl, rfl, rfl, canon_zero, HST, rfl, rfl, Lib.hid (fun j hj => absurd hj (Nat.not_lt_zero j)), HB0⟩
                case round =>
                  obtain ⟨q, ys, xr, hq, rfl, rfl, rfl, HX, HG, HL, HA, HQ, HBW⟩ := hrel
                  by_cases hlt : q < C
                  · obtain ⟨sb0, sb1⟩ := seedK_bd hs1 hs2 q
                    go_wp2_with fail
                    refine (i_nextSeed _ _ sb0 sb1).mono ?_
                    rintro e w3 ⟨ru, n3, rfl, hu, hw3⟩
                    have HU : Hid (canon .f32 ru = uV (seedK sd (q + 1))) := Lib.hid hu
                    have b3 : Below wr.heap.size wr w3 := by rw [hw3]; exact below_draws (Below.refl _ _) _
                    have HG3 := Lib.hid (HG.out.below b3)
                    have HB3 : Hid (Below w.heap.size w w3) := Lib.hid (below_of HBW.out HBW.out.size b3)
                    clear hu hw3 b3 sb0 sb1
                    go_wp2_with fail
                    refine (i_mulE _ _ _).mono ?_
                    rintro e w4 ⟨r1, n4, rfl, h1, hw4⟩
                    have H1 : Hid (canon .f32 r1 = fop .mul .f32 (canon .f32 ke) (gxK ro ke sd q)) := Lib.hid (by rw [h1, HX.out])
                    have b4 : Below w3.heap.size w3 w4 := by rw [hw4]; exact below_draws (Below.refl _ _) _
                    have HG4 := Lib.hid (HG3.out.below b4)
                    have HB4 : Hid (Below w.heap.size w w4) := Lib.hid (below_of HB3.out HB3.out.size b4)
                    clear h1 hw4 b4
                    go_wp2_with fail
                    refine (i_mulE _ _ _).mono ?_
                    rintro e w5 ⟨r2, n5, rfl, h2, hw5⟩
                    have H2 : Hid (canon .f32 r2 = fop .mul .f32 (canon .f32 ro) (uV (seedK sd (q + 1)))) := Lib.hid (by rw [h2, HU.out])
                    have b5 : Below w4.heap.size w4 w5 := by rw [hw5]; exact below_draws (Below.refl _ _) _
                    have HG5 := Lib.hid (HG4.out.below b5)
                    have HB5 : Hid (Below w.heap.size w w5) := Lib.hid (below_of HB4.out HB4.out.size b5)
                    clear h2 hw5 b5
                    have HXN : Hid (∀ W1, canon .f32 (fopV .add .f32 r1 r2 W1) = gxK ro ke sd (q + 1)) := Lib.hid (fun W1 => canonF H1.out H2.out)
                    have HWV : Hid (∀ W1 W2 W3, canon .f32 (fopV .mul .f32 rm (fopV .add .f32 1065353216 (fopV .add .f32 r1 r2 W1) W2) W3) = gwV (spdV h s k z) ro ke sd q) := Lib.hid (fun W1 W2 W3 => canonF HMM.out (canonF rfl (HXN.out W1)))
                    have hord : ∀ W1 W2 W3, FloatKind.f32.format.order (fopV .mul .f32 rm (fopV .add .f32 1065353216 (fopV .add .f32 r1 r2 W1) W2) W3) 0 = FloatKind.f32.format.order (gwV (spdV h s k z) ro ke sd q) 0 := fun W1 W2 W3 => by rw [← order_canon, HWV.out, canon_zero]
                    cases hg : (FloatKind.f32.format.order (gwV (spdV h s k z) ro ke sd q) 0 == some .gt)
                    · have HGA : Hid (gwA (spdV h s k z) ro ke sd q = 0) := Lib.hid (by unfold gwA; rw [hg]; rfl)
                      go_wp2_with fail
                      clear hord hg
                      refine (i_notFinite _ _).mono ?_
                      rintro e w6 ⟨n6, rfl, hw6⟩
                      have b6 : Below w5.heap.size w5 w6 := by rw [hw6]; exact below_of (below_draws (Below.refl _ _) _) (Nat.le_refl _) (below_draws (Below.refl _ _) _)
                      have HG6 := Lib.hid (HG5.out.below b6)
                      have HB6 : Hid (Below w.heap.size w w6) := Lib.hid (below_of HB5.out HB5.out.size b6)
                      clear hw6 b6
                      rw [fin_zero]
                      have HN : Hid (alls (fun q => fin .f32 (gwA (spdV h s k z) ro ke sd q)) (q + 1) = true) := Lib.hid (by simp only [alls, HA.out, Bool.true_and]; rw [HGA.out]; exact fin_zero)
                      have hown := HG6.out
                      unfold Gr at hown
                      go_wp2_with (first
                        | (at_builtin; refine wpList_append_own _ rfl _ _ 22 rfl w.heap.size 32 i0 (.float .f32 0) 1 4 Try.underlying22 hi hz0 hz1 hz2 rfl (by decide) _ _ _ rfl (hown.alloc _) ⟨_, 0, none⟩ 1 1 [.float .f32 0] rfl rfl ?c1 ?c2 ?c3 ?c4 ?c5 ?_)
                        | fail)
                      case c1 =>
                        intro j u hj
                        match j, hj with
                        | 0, hj => simp at hj; subst hj; simp [Addr.add]
                      case c2 => intro u hu; simp at hu; subst hu; rfl
                      case c3 => have := HL.out; unfold maxLen; omega
                      case c4 => have := HL.out; omega
                      case c5 => have := HB6.out.size; simp; omega
                      · intro v' w7 hown' hgrow _
                        obtain ⟨g2, b2⟩ := Gr.next HG6.out HB6.out (Nat.le_refl _) hown' hgrow
                        have HG7 := Lib.hid g2
                        have HB7 := Lib.hid b2
                        have HQ2 : Hid (∀ j, j < q + 1 → canon .f32 ((ys ++ [0]).getD j 0) = gwA (spdV h s k z) ro ke sd j) := Lib.hid (fun j hj => by
                          rw [getD_snoc _ _ _ (by rw [HL.out]; exact hj), HL.out]
                          split
                          · rename_i e; subst e; rw [HGA.out]; exact canon_zero
                          · exact HQ.out j (by omega))
                        have HL2 : Hid ((ys ++ [0]).length = q + 1) := Lib.hid (by simp [HL.out])
                        clear g2 b2 hown hown' hgrow
                        go_wp2
                        go_roundw
                        case rel => exact ⟨q + 1, _, _, by omega, by go_num, rfl, rfl, Lib.hid (HXN.out _), HG7, HL2, HN, HQ2, HB7⟩
                        case measure => simp [intOf]; omega
                    · have HGA : Hid (gwA (spdV h s k z) ro ke sd q = gwV (spdV h s k z) ro ke sd q) := Lib.hid (by unfold gwA; rw [hg]; rfl)
                      go_wp2_with fail
                      clear hord hg
                      obtain ⟨rv, hrv⟩ : ∃ rv, rv = fopV .mul .f32 rm (fopV .add .f32 1065353216 (fopV .add .f32 r1 r2 w5) (w5.drewN (fopN .add .f32 r1 r2))) (w5.drewN (fopN .add .f32 r1 r2 + fopN .add .f32 1065353216 (fopV .add .f32 r1 r2 w5))) := ⟨_, rfl⟩
                      rw [← hrv]
                      have HRV : Hid (canon .f32 rv = gwV (spdV h s k z) ro ke sd q) := Lib.hid (by rw [hrv]; exact HWV.out _ _ _)
                      clear hrv
                      refine (i_notFinite _ _).mono ?_
                      rintro e w6 ⟨n6, rfl, hw6⟩
                      have b6 : Below w5.heap.size w5 w6 := by rw [hw6]; exact below_of (below_draws (Below.refl _ _) _) (Nat.le_refl _) (below_draws (Below.refl _ _) _)
                      have HG6 := Lib.hid (HG5.out.below b6)
                      have HB6 : Hid (Below w.heap.size w w6) := Lib.hid (below_of HB5.out HB5.out.size b6)
                      clear hw6 b6
                      cases pf : fin .f32 rv
                      · have HN2 : Hid (gusO d h s k z C ro ke sd = false) := Lib.hid (gusO_a (alls_no (k := q + 1) (by simp only [alls]; rw [HGA.out, ← HRV.out, fin_canon, pf, Bool.and_false]) (by omega)))
                        clear pf
                        go_wp2
                        refine bodyPost_ret (results_tmp3 rfl _ _ _) rfl ?_
                        exact ⟨none, 0, 0, by rw [HN2.out, (gusL_no HN2.out).1, (gusL_no HN2.out).2]; rfl, .inl (gusL_no HN2.out).1, HB6.out⟩
                      · have HN : Hid (alls (fun q => fin .f32 (gwA (spdV h s k z) ro ke sd q)) (q + 1) = true) := Lib.hid (by simp only [alls, HA.out, Bool.true_and]; rw [HGA.out, ← HRV.out, fin_canon, pf])
                        clear pf
                        have hown := HG6.out
                        unfold Gr at hown
                        go_wp2_with (first
                          | (at_builtin; refine wpList_append_own _ rfl _ _ 22 rfl w.heap.size 32 i0 (.float .f32 0) 1 4 Try.underlying22 hi hz0 hz1 hz2 rfl (by decide) _ _ _ rfl (hown.alloc _) ⟨_, 0, none⟩ 1 1 [.float .f32 rv] rfl rfl ?c1 ?c2 ?c3 ?c4 ?c5 ?_)
                          | fail)
                        case c1 =>
                          intro j u hj
                          match j, hj with
                          | 0, hj => simp at hj; subst hj; simp [Addr.add]
                        case c2 => intro u hu; simp at hu; subst hu; rfl
                        case c3 => have := HL.out; unfold maxLen; omega
                        case c4 => have := HL.out; omega
                        case c5 => have := HB6.out.size; simp; omega
                        · intro v' w7 hown' hgrow _
                          obtain ⟨g2, b2⟩ := Gr.next HG6.out HB6.out (Nat.le_refl _) hown' hgrow
                          have HG7 := Lib.hid g2
                          have HB7 := Lib.hid b2
                          have HQ2 : Hid (∀ j, j < q + 1 → canon .f32 ((ys ++ [rv]).getD j 0) = gwA (spdV h s k z) ro ke sd j) := Lib.hid (fun j hj => by
                            rw [getD_snoc _ _ _ (by rw [HL.out]; exact hj), HL.out]
                            split
                            · rename_i e; subst e; rw [HRV.out, HGA.out]
                            · exact HQ.out j (by omega))
                          have HL2 : Hid ((ys ++ [rv]).length = q + 1) := Lib.hid (by simp [HL.out])
                          clear g2 b2 hown hown' hgrow
                          go_wp2
                          go_roundw
                          case rel => exact ⟨q + 1, _, _, by omega, by go_num, rfl, rfl, Lib.hid (HXN.out _), HG7, HL2, HN, HQ2, HB7⟩
                          case measure => simp [intOf]; omega
                  · have hqq : q = C := by omega
                    subst hqq
                    have HY : Hid (gusO d h s k z q ro ke sd = true) := Lib.hid (by unfold gusO gusA; rw [HP.out]; exact HA.out)
                    have HYS : Hid (ys = gusL d h s k z q ro ke sd) := Lib.hid (by
                      unfold gusL; rw [HY.out]
                      exact list_exact HL.out HQ.out (fun j hj => alls_at HA.out j hj))
                    obtain ⟨A', cap', b', rfl, ho⟩ := HG.out.own
                    have HO := Lib.hid ho
                    clear ho
                    go_wp2
                    refine bodyPost_ret (results_tmp3 rfl _ _ _) rfl ?_
                    exact ⟨A', cap', b', by rw [HY.out, ← HYS.out]; unfold gusS; rw [HY.out]; rfl, by rw [← HYS.out]; exact HO.out, HBW.out⟩
              · have HN : Hid (gusO d h s k z c ro ke sd = false) := Lib.hid (gusO_p (by unfold gusP; rw [decide_eq_false (show ¬ (0 ≤ sd ∧ sd ≤ 2147483647) by omega)]; simp))
                go_wp2
                refine bodyPost_ret (results_tmp3 rfl _ _ _) rfl ?_
                exact ⟨none, 0, 0, by rw [HN.out, (gusL_no HN.out).1, (gusL_no HN.out).2]; rfl, .inl (gusL_no HN.out).1, B2.out⟩
            · have HN : Hid (gusO d h s k z c ro ke sd = false) := Lib.hid (gusO_p (by unfold gusP; rw [decide_eq_false (show ¬ (0 ≤ sd ∧ sd ≤ 2147483647) by omega)]; simp))
              go_wp2
              refine bodyPost_ret (results_tmp3 rfl _ _ _) rfl ?_
              exact ⟨none, 0, 0, by rw [HN.out, (gusL_no HN.out).1, (gusL_no HN.out).2]; rfl, .inl (gusL_no HN.out).1, B2.out⟩
      · have HN : Hid (gusO d h s k z c ro ke sd = false) := Lib.hid (gusO_p (by unfold gusP; rw [decide_eq_false (show ¬ (1 ≤ c ∧ c ≤ 256) by omega)]; simp))
        go_wp2
        refine bodyPost_ret (results_tmp3 rfl _ _ _) rfl ?_
        exact ⟨none, 0, 0, by rw [HN.out, (gusL_no HN.out).1, (gusL_no HN.out).2]; rfl, .inl (gusL_no HN.out).1, B1.out⟩
    · have HN : Hid (gusO d h s k z c ro ke sd = false) := Lib.hid (gusO_p (by unfold gusP; rw [decide_eq_false (show ¬ (1 ≤ c ∧ c ≤ 256) by omega)]; simp))
      go_wp2
      refine bodyPost_ret (results_tmp3 rfl _ _ _) rfl ?_
      exact ⟨none, 0, 0, by rw [HN.out, (gusL_no HN.out).1, (gusL_no HN.out).2]; rfl, .inl (gusL_no HN.out).1, B1.out⟩
set_option maxHeartbeats 16000000 in
set_option maxRecDepth 100000 in
theorem s_GustsOf (d h s k z : Nat) (c : Int) (ro ke : Nat) (sd : Int) (w : World) (_hc : (Lit.int .i64 c).wf = true) (_hs : (Lit.int .i64 sd).wf = true) :
    Calls Try.prog 44 #[.agg #[.float .f32 d, .float .f32 h, .float .f32 s, .float .f32 k], .float .f32 z, .int .i64 c, .float .f32 ro, .float .f32 ke, .int .i64 sd] w fun e w' => ∃ A' cp b, e = .returned (.tuple #[.slice A' (gusL d h s k z c ro ke sd).length cp, .int .i64 (gusS d h s k z c ro ke sd), .bool (gusO d h s k z c ro ke sd)]) ∧ OwnO w' w.heap.size A' b (gusL d h s k z c ro ke sd) ∧ Below w.heap.size w w' := by
  obtain ⟨i0, hi, hz0, hz1, hz2⟩ := info_parts f32_info
  obtain ⟨w0, hw0⟩ : ∃ w0, w0 = w.alloc (.cells #[.float .f32 d, .float .f32 h, .float .f32 s, .float .f32 k] 59) := ⟨_, rfl⟩
  have B0 : Hid (Below w.heap.size w w0) := Lib.hid (by rw [hw0]; exact (Below.refl _ _).alloc (Nat.le_refl _) _)
  have K0 : Hid (BlkL w0 w.heap.size [.float .f32 d, .float .f32 h, .float .f32 s, .float .f32 k]) := Lib.hid (by rw [hw0]; exact blkL_at w #[.float .f32 d, .float .f32 h, .float .f32 s, .float .f32 k] _ rfl)
  go_enter Try.func44, Try.ntmps44
  go_wp2_with fail
  rw [← hw0]
  clear hw0
  refine (s_l04Is d h s k _ _ K0.out).mono ?_
  rintro e w1 ⟨n1, rfl, hw⟩
  have B1 : Hid (Below w.heap.size w w1) := Lib.hid (by rw [hw]; exact below_draws B0.out _)
  have K1 : Hid (BlkL w1 w.heap.size [.float .f32 d, .float .f32 h, .float .f32 s, .float .f32 k]) := Lib.hid (by rw [hw]; exact K0.out.draws _)
  clear hw
  cases pa : airV d h s k
  · have HN : Hid (gusO d h s k z c ro ke sd = false) := Lib.hid (gusO_p (by unfold gusP; rw [pa]; rfl))
    clear pa
    go_wp2
    refine bodyPost_ret (results_tmp3 rfl _ _ _) rfl ?_
    exact ⟨none, 0, 0, by rw [HN.out, (gusL_no HN.out).1, (gusL_no HN.out).2]; rfl, .inl (gusL_no HN.out).1, B1.out⟩
  · have PAI := Lib.hid pa; clear pa
    go_wp2_with fail
    refine (s_l02Least _ _).mono ?_
    rintro e w2 ⟨n2, rfl, hw⟩
    have B2 : Hid (Below w.heap.size w w2) := Lib.hid (by rw [hw]; exact below_draws B1.out _)
    have K2 : Hid (BlkL w2 w.heap.size [.float .f32 d, .float .f32 h, .float .f32 s, .float .f32 k]) := Lib.hid (by rw [hw]; exact K1.out.draws _)
    clear hw
    cases pz : amount z
    · have HN : Hid (gusO d h s k z c ro ke sd = false) := Lib.hid (gusO_p (by unfold gusP; rw [pz]; simp))
      clear pz
      go_wp2
      refine bodyPost_ret (results_tmp3 rfl _ _ _) rfl ?_
      exact ⟨none, 0, 0, by rw [HN.out, (gusL_no HN.out).1, (gusL_no HN.out).2]; rfl, .inl (gusL_no HN.out).1, B2.out⟩
    · have PZ := Lib.hid pz; clear pz
      go_wp2_with fail
      refine (l00In_any _ _ _ _).mono ?_
      rintro e w' ⟨rfl, hw⟩
      rw [hw]
      clear hw w'
      by_cases hc : 1 ≤ c ∧ c ≤ 256
      · rw [decide_eq_true hc]
        have HCC := Lib.hid hc; clear hc
        go_wp2_with fail
        refine (s_l02Least _ _).mono ?_
        rintro e w3 ⟨n3, rfl, hw⟩
        have B3 : Hid (Below w.heap.size w w3) := Lib.hid (by rw [hw]; exact below_draws B2.out _)
        have K3 : Hid (BlkL w3 w.heap.size [.float .f32 d, .float .f32 h, .float .f32 s, .float .f32 k]) := Lib.hid (by rw [hw]; exact K2.out.draws _)
        clear hw
        cases pr : amount ro
        · have HN : Hid (gusO d h s k z c ro ke sd = false) := Lib.hid (gusO_p (by unfold gusP; rw [pr]; simp))
          clear pr
          go_wp2
          refine bodyPost_ret (results_tmp3 rfl _ _ _) rfl ?_
          exact ⟨none, 0, 0, by rw [HN.out, (gusL_no HN.out).1, (gusL_no HN.out).2]; rfl, .inl (gusL_no HN.out).1, B3.out⟩
        · have PRO := Lib.hid pr; clear pr
          go_wp2_with fail
          refine (s_l04Share _ _).mono ?_
          rintro e w' ⟨rfl, hw⟩
          rw [hw]
          clear hw w'
          cases pk : within ke 0 1065353216
          · have HN : Hid (gusO d h s k z c ro ke sd = false) := Lib.hid (gusO_p (by unfold gusP; rw [pk]; simp))
            clear pk
            go_wp2
            refine bodyPost_ret (results_tmp3 rfl _ _ _) rfl ?_
            exact ⟨none, 0, 0, by rw [HN.out, (gusL_no HN.out).1, (gusL_no HN.out).2]; rfl, .inl (gusL_no HN.out).1, B3.out⟩
          · have PKE := Lib.hid pk; clear pk
            go_wp2_with fail
            refine (s_l04Seed _ _).mono ?_
            rintro e w' ⟨rfl, hw⟩
            rw [hw]
            clear hw w'
            by_cases hs : 0 ≤ sd ∧ sd ≤ 2147483647
            · rw [decide_eq_true hs]
              have hs1 : 0 ≤ sd := hs.1
              have hs2 : sd < 2147483648 := by omega
              have HSS := Lib.hid hs; clear hs
              obtain ⟨C, rfl⟩ : ∃ C : Nat, c = C := ⟨c.toNat, by have := HCC.out; omega⟩
              have hc1 : 1 ≤ C := by have := HCC.out; omega
              have hc2 : C ≤ 256 := by have := HCC.out; omega
              have HP : Hid (fin .f32 (spdV h s k z) = true → gusP d h s k z C ro ke sd = true) := Lib.hid (fun hf => by unfold gusP; rw [PAI.out, PZ.out, hf, PRO.out, PKE.out, decide_eq_true HCC.out, decide_eq_true HSS.out]; rfl)
              have HPN : Hid (fin .f32 (spdV h s k z) = false → gusO d h s k z C ro ke sd = false) := Lib.hid (fun hf => gusO_p (by unfold gusP; rw [hf]; simp))
              have HST : Hid (Gr (w3.alloc (.cells #[] 32)) w.heap.size (.slice (some ⟨w3.heap.size, 0, none⟩) 0 0) []) := Lib.hid (Gr.made _ _ 0 #[] B3.out.size (by unfold maxLen; omega) rfl)
              have B4 : Hid (Below w.heap.size w (w3.alloc (.cells #[] 32))) := Lib.hid (B3.out.alloc B3.out.size _)
              have K4 : Hid (BlkL (w3.alloc (.cells #[] 32)) w.heap.size [.float .f32 d, .float .f32 h, .float .f32 s, .float .f32 k]) := Lib.hid (K3.out.alloc _)
              go_wp2_with fail
              refine (s_l04Speed d h s k z _ _ K4.out).mono ?_
              rintro e w5 ⟨rm, n5, rfl, hm, hw⟩
              have HMM := Lib.hid hm
              have bb : Below (w3.alloc (.cells #[] 32)).heap.size (w3.alloc (.cells #[] 32)) w5 := by rw [hw]; exact below_draws (Below.refl _ _) _
              have HG5 := Lib.hid (HST.out.below bb)
              have B5 : Hid (Below w.heap.size w w5) := Lib.hid (below_of B4.out B4.out.size bb)
              have HFM : Hid (fin .f32 rm = fin .f32 (spdV h s k z)) := Lib.hid (by rw [← hm, fin_canon])
              clear bb hw hm
              go_wp2_with fail
              go_loopw [5, 15, 16, 18] (fun sv v xv i wr => ∃ (q : Nat) (ys : List Nat) (xr : Nat), q ≤ C ∧ (q = 0 ∨ Hid (fin .f32 (spdV h s k z) = true)) ∧ i = .int .i64 q ∧ sv = .int .i64 (seedK sd q) ∧ xv = .float .f32 xr ∧ Hid (canon .f32 xr = gxK ro ke sd q) ∧ Hid (Gr wr w.heap.size v ys) ∧ Hid (ys.length = q) ∧ Hid (alls (fun q => fin .f32 (gwA (spdV h s k z) ro ke sd q)) q = true) ∧ Hid (∀ j, j < q → canon .f32 (ys.getD j 0) = gwA (spdV h s k z) ro ke sd j) ∧ Hid (Below w.heap.size w wr)) (fun _ _ _ i _ => C - (intOf i).toNat)
              case atStart => exact ⟨0, [], 0, Nat.zero_le _, .inl rfl, rfl, rfl, rfl, canon_zero, HG5, rfl, rfl, Lib.hid (fun j hj => absurd hj (Nat.not_lt_zero j)), B5⟩
              case round =>
                obtain ⟨q, ys, xr, hq, hq0, rfl, rfl, rfl, HX, HG, HL, HA, HQ, HBW⟩ := hrel
                have HQ0 := Lib.hid hq0; clear hq0
                by_cases hlt : q < C
                · obtain ⟨sb0, sb1⟩ := seedK_bd hs1 hs2 q
                  obtain ⟨sc0, sc1⟩ := nxS_bd (seedK sd q)
                  go_wp2_with fail
                  refine (s_l04Next _ _ sb0 sb1).mono ?_
                  rintro e w' ⟨rfl, hw⟩
                  rw [hw]
                  clear hw w' sb0 sb1
                  obtain ⟨S, hS⟩ : ∃ S, S = nxS (seedK sd q) := ⟨_, rfl⟩
                  rw [← hS] at sc0 sc1 ⊢
                  have HSE : Hid (S = seedK sd (q + 1)) := Lib.hid hS
                  clear hS
                  have HXN : Hid (∀ W1 W2 W3 W4, canon .f32 (fopV .add .f32 (fopV .mul .f32 ke xr W1) (fopV .mul .f32 ro (fopV .quo .f32 (floatOfInt .f32 (S / 65536 - 16384)) 1182793728 W2) W3) W4) = gxK ro ke sd (q + 1)) := Lib.hid (fun W1 W2 W3 W4 => by
                    refine canonF (canonF rfl HX.out) (canonF rfl ?_)
                    rw [← HSE.out]
                    exact canonF rfl rfl)
                  have HWV : Hid (∀ W1 W2 W3 W4 W5 W6, canon .f32 (fopV .mul .f32 rm (fopV .add .f32 1065353216 (fopV .add .f32 (fopV .mul .f32 ke xr W1) (fopV .mul .f32 ro (fopV .quo .f32 (floatOfInt .f32 (S / 65536 - 16384)) 1182793728 W2) W3) W4) W5) W6) = gwV (spdV h s k z) ro ke sd q) := Lib.hid (fun W1 W2 W3 W4 W5 W6 => canonF HMM.out (canonF rfl (HXN.out W1 W2 W3 W4)))
                  have hord : ∀ W1 W2 W3 W4 W5 W6, FloatKind.f32.format.order (fopV .mul .f32 rm (fopV .add .f32 1065353216 (fopV .add .f32 (fopV .mul .f32 ke xr W1) (fopV .mul .f32 ro (fopV .quo .f32 (floatOfInt .f32 (S / 65536 - 16384)) 1182793728 W2) W3) W4) W5) W6) 0 = FloatKind.f32.format.order (gwV (spdV h s k z) ro ke sd q) 0 := fun W1 W2 W3 W4 W5 W6 => by rw [← order_canon, HWV.out, canon_zero]
                  cases hg : (FloatKind.f32.format.order (gwV (spdV h s k z) ro ke sd q) 0 == some .gt)
                  · have HGA : Hid (gwA (spdV h s k z) ro ke sd q = 0) := Lib.hid (by unfold gwA; rw [hg]; rfl)
                    go_wp2_with fail
                    clear hord hg
                    refine (s_l01Finite _ _).mono ?_
                    rintro e w6 ⟨n6, rfl, hw6⟩
                    have b6 : Below wr.heap.size wr w6 := by rw [hw6]; repeat (first | exact Below.refl _ _ | refine below_draws ?_ _)
                    have HG6 := Lib.hid (HG.out.below b6)
                    have HB6 : Hid (Below w.heap.size w w6) := Lib.hid (below_of HBW.out HBW.out.size b6)
                    clear hw6 b6
                    rw [fin_zero]
                    go_wp2_with fail
                    refine (s_l01Finite _ _).mono ?_
                    rintro e w7 ⟨n7, rfl, hw7⟩
                    have b7 : Below w6.heap.size w6 w7 := by rw [hw7]; exact below_draws (Below.refl _ _) _
                    have HG7 := Lib.hid (HG6.out.below b7)
                    have HB7 : Hid (Below w.heap.size w w7) := Lib.hid (below_of HB6.out HB6.out.size b7)
                    clear hw7 b7
                    cases pm : fin .f32 rm
                    · have HN2 : Hid (gusO d h s k z C ro ke sd = false) := Lib.hid (HPN.out (by rw [← HFM.out, pm]))
                      clear pm
                      go_wp2
                      refine bodyPost_ret (results_tmp3 rfl _ _ _) rfl ?_
                      exact ⟨none, 0, 0, by rw [HN2.out, (gusL_no HN2.out).1, (gusL_no HN2.out).2]; rfl, .inl (gusL_no HN2.out).1, HB7.out⟩
                    · have HPM : Hid (fin .f32 (spdV h s k z) = true) := Lib.hid (by rw [← HFM.out, pm])
                      have HN : Hid (alls (fun q => fin .f32 (gwA (spdV h s k z) ro ke sd q)) (q + 1) = true) := Lib.hid (by simp only [alls, HA.out, Bool.true_and]; rw [HGA.out]; exact fin_zero)
                      clear pm
                      have hown := HG7.out
                      unfold Gr at hown
                      go_wp2_with (first
                        | (at_builtin; refine wpList_append_own _ rfl _ _ 22 rfl w.heap.size 32 i0 (.float .f32 0) 1 4 Try.underlying22 hi hz0 hz1 hz2 rfl (by decide) _ _ _ rfl (hown.alloc _) ⟨_, 0, none⟩ 1 1 [.float .f32 0] rfl rfl ?c1 ?c2 ?c3 ?c4 ?c5 ?_)
                        | fail)
                      case c1 =>
                        intro j u hj
                        match j, hj with
                        | 0, hj => simp at hj; subst hj; simp [Addr.add]
                      case c2 => intro u hu; simp at hu; subst hu; rfl
                      case c3 => have := HL.out; unfold maxLen; omega
                      case c4 => have := HL.out; omega
                      case c5 => have := HB7.out.size; simp; omega
                      · intro v' w8 hown' hgrow _
                        obtain ⟨g2, b2⟩ := Gr.next HG7.out HB7.out (Nat.le_refl _) hown' hgrow
                        have HG8 := Lib.hid g2
                        have HB8 := Lib.hid b2
                        have HQ2 : Hid (∀ j, j < q + 1 → canon .f32 ((ys ++ [0]).getD j 0) = gwA (spdV h s k z) ro ke sd j) := Lib.hid (fun j hj => by
                          rw [getD_snoc _ _ _ (by rw [HL.out]; exact hj), HL.out]
                          split
                          · rename_i e; subst e; rw [HGA.out]; exact canon_zero
                          · exact HQ.out j (by omega))
                        have HL2 : Hid ((ys ++ [0]).length = q + 1) := Lib.hid (by simp [HL.out])
                        clear g2 b2 hown hown' hgrow
                        go_wp2
                        go_roundw
                        case rel => exact ⟨q + 1, _, _, by omega, .inr HPM, by go_num, by rw [← HSE.out], rfl, Lib.hid (HXN.out _ _ _ _), HG8, HL2, HN, HQ2, HB8⟩
                        case measure => simp [intOf]; omega
                  · have HGA : Hid (gwA (spdV h s k z) ro ke sd q = gwV (spdV h s k z) ro ke sd q) := Lib.hid (by unfold gwA; rw [hg]; rfl)
                    go_wp2_with fail
                    clear hord hg
                    obtain ⟨rv, hrv⟩ : ∃ rv, rv = fopV .mul .f32 rm (fopV .add .f32 1065353216 (fopV .add .f32 (fopV .mul .f32 ke xr (wr.drewN (fopN .quo .f32 (floatOfInt .f32 (S / 65536 - 16384)) 1182793728))) (fopV .mul .f32 ro (fopV .quo .f32 (floatOfInt .f32 (S / 65536 - 16384)) 1182793728 wr) (wr.drewN (fopN .quo .f32 (floatOfInt .f32 (S / 65536 - 16384)) 1182793728 + fopN .mul .f32 ke xr))) (wr.drewN (fopN .quo .f32 (floatOfInt .f32 (S / 65536 - 16384)) 1182793728 + fopN .mul .f32 ke xr + fopN .mul .f32 ro (fopV .quo .f32 (floatOfInt .f32 (S / 65536 - 16384)) 1182793728 wr)))) (wr.drewN (fopN .quo .f32 (floatOfInt .f32 (S / 65536 - 16384)) 1182793728 + fopN .mul .f32 ke xr + fopN .mul .f32 ro (fopV .quo .f32 (floatOfInt .f32 (S / 65536 - 16384)) 1182793728 wr) + fopN .add .f32 (fopV .mul .f32 ke xr (wr.drewN (fopN .quo .f32 (floatOfInt .f32 (S / 65536 - 16384)) 1182793728))) (fopV .mul .f32 ro (fopV .quo .f32 (floatOfInt .f32 (S / 65536 - 16384)) 1182793728 wr) (wr.drewN (fopN .quo .f32 (floatOfInt .f32 (S / 65536 - 16384)) 1182793728 + fopN .mul .f32 ke xr)))))) (wr.drewN (fopN .quo .f32 (floatOfInt .f32 (S / 65536 - 16384)) 1182793728 + fopN .mul .f32 ke xr + fopN .mul .f32 ro (fopV .quo .f32 (floatOfInt .f32 (S / 65536 - 16384)) 1182793728 wr) + fopN .add .f32 (fopV .mul .f32 ke xr (wr.drewN (fopN .quo .f32 (floatOfInt .f32 (S / 65536 - 16384)) 1182793728))) (fopV .mul .f32 ro (fopV .quo .f32 (floatOfInt .f32 (S / 65536 - 16384)) 1182793728 wr) (wr.drewN (fopN .quo .f32 (floatOfInt .f32 (S / 65536 - 16384)) 1182793728 + fopN .mul .f32 ke xr))) + fopN .add .f32 1065353216 (fopV .add .f32 (fopV .mul .f32 ke xr (wr.drewN (fopN .quo .f32 (floatOfInt .f32 (S / 65536 - 16384)) 1182793728))) (fopV .mul .f32 ro (fopV .quo .f32 (floatOfInt .f32 (S / 65536 - 16384)) 1182793728 wr) (wr.drewN (fopN .quo .f32 (floatOfInt .f32 (S / 65536 - 16384)) 1182793728 + fopN .mul .f32 ke xr))) (wr.drewN (fopN .quo .f32 (floatOfInt .f32 (S / 65536 - 16384)) 1182793728 + fopN .mul .f32 ke xr + fopN .mul .f32 ro (fopV .quo .f32 (floatOfInt .f32 (S / 65536 - 16384)) 1182793728 wr)))))) := ⟨_, rfl⟩
                    rw [← hrv]
                    have HRV : Hid (canon .f32 rv = gwV (spdV h s k z) ro ke sd q) := Lib.hid (by rw [hrv]; exact HWV.out _ _ _ _ _ _)
                    clear hrv
                    refine (s_l01Finite _ _).mono ?_
                    rintro e w6 ⟨n6, rfl, hw6⟩
                    have b6 : Below wr.heap.size wr w6 := by rw [hw6]; repeat (first | exact Below.refl _ _ | refine below_draws ?_ _)
                    have HG6 := Lib.hid (HG.out.below b6)
                    have HB6 : Hid (Below w.heap.size w w6) := Lib.hid (below_of HBW.out HBW.out.size b6)
                    clear hw6 b6
                    cases pf : fin .f32 rv
                    · have HN2 : Hid (gusO d h s k z C ro ke sd = false) := Lib.hid (gusO_a (alls_no (k := q + 1) (by simp only [alls]; rw [HGA.out, ← HRV.out, fin_canon, pf, Bool.and_false]) (by omega)))
                      clear pf
                      go_wp2
                      refine bodyPost_ret (results_tmp3 rfl _ _ _) rfl ?_
                      exact ⟨none, 0, 0, by rw [HN2.out, (gusL_no HN2.out).1, (gusL_no HN2.out).2]; rfl, .inl (gusL_no HN2.out).1, HB6.out⟩
                    · go_wp2_with fail
                      refine (s_l01Finite _ _).mono ?_
                      rintro e w7 ⟨n7, rfl, hw7⟩
                      have b7 : Below w6.heap.size w6 w7 := by rw [hw7]; exact below_draws (Below.refl _ _) _
                      have HG7 := Lib.hid (HG6.out.below b7)
                      have HB7 : Hid (Below w.heap.size w w7) := Lib.hid (below_of HB6.out HB6.out.size b7)
                      clear hw7 b7
                      cases pm : fin .f32 rm
                      · have HN2 : Hid (gusO d h s k z C ro ke sd = false) := Lib.hid (HPN.out (by rw [← HFM.out, pm]))
                        clear pm
                        go_wp2
                        refine bodyPost_ret (results_tmp3 rfl _ _ _) rfl ?_
                        exact ⟨none, 0, 0, by rw [HN2.out, (gusL_no HN2.out).1, (gusL_no HN2.out).2]; rfl, .inl (gusL_no HN2.out).1, HB7.out⟩
                      · have HPM : Hid (fin .f32 (spdV h s k z) = true) := Lib.hid (by rw [← HFM.out, pm])
                        have HN : Hid (alls (fun q => fin .f32 (gwA (spdV h s k z) ro ke sd q)) (q + 1) = true) := Lib.hid (by simp only [alls, HA.out, Bool.true_and]; rw [HGA.out, ← HRV.out, fin_canon, pf])
                        clear pm pf
                        have hown := HG7.out
                        unfold Gr at hown
                        go_wp2_with (first
                          | (at_builtin; refine wpList_append_own _ rfl _ _ 22 rfl w.heap.size 32 i0 (.float .f32 0) 1 4 Try.underlying22 hi hz0 hz1 hz2 rfl (by decide) _ _ _ rfl (hown.alloc _) ⟨_, 0, none⟩ 1 1 [.float .f32 rv] rfl rfl ?c1 ?c2 ?c3 ?c4 ?c5 ?_)
                          | fail)
                        case c1 =>
                          intro j u hj
                          match j, hj with
                          | 0, hj => simp at hj; subst hj; simp [Addr.add]
                        case c2 => intro u hu; simp at hu; subst hu; rfl
                        case c3 => have := HL.out; unfold maxLen; omega
                        case c4 => have := HL.out; omega
                        case c5 => have := HB7.out.size; simp; omega
                        · intro v' w8 hown' hgrow _
                          obtain ⟨g2, b2⟩ := Gr.next HG7.out HB7.out (Nat.le_refl _) hown' hgrow
                          have HG8 := Lib.hid g2
                          have HB8 := Lib.hid b2
                          have HQ2 : Hid (∀ j, j < q + 1 → canon .f32 ((ys ++ [rv]).getD j 0) = gwA (spdV h s k z) ro ke sd j) := Lib.hid (fun j hj => by
                            rw [getD_snoc _ _ _ (by rw [HL.out]; exact hj), HL.out]
                            split
                            · rename_i e; subst e; rw [HRV.out, HGA.out]
                            · exact HQ.out j (by omega))
                          have HL2 : Hid ((ys ++ [rv]).length = q + 1) := Lib.hid (by simp [HL.out])
                          clear g2 b2 hown hown' hgrow
                          go_wp2
                          go_roundw
                          case rel => exact ⟨q + 1, _, _, by omega, .inr HPM, by go_num, by rw [← HSE.out], rfl, Lib.hid (HXN.out _ _ _ _), HG8, HL2, HN, HQ2, HB8⟩
                          case measure => simp [intOf]; omega
                · have hqq : q = C := by omega
                  subst hqq
                  have HF : Hid (fin .f32 (spdV h s k z) = true) := by
                    rcases HQ0.out with h0 | h0
                    · omega
                    · exact h0
                  have HY : Hid (gusO d h s k z q ro ke sd = true) := Lib.hid (by unfold gusO gusA; rw [HP.out HF.out]; exact HA.out)
                  have HYS : Hid (ys = gusL d h s k z q ro ke sd) := Lib.hid (by
                    unfold gusL; rw [HY.out]
                    exact list_exact HL.out HQ.out (fun j hj => alls_at HA.out j hj))
                  obtain ⟨A', cap', b', rfl, ho⟩ := HG.out.own
                  have HO := Lib.hid ho
                  clear ho
                  go_wp2
                  refine bodyPost_ret (results_tmp3 rfl _ _ _) rfl ?_
                  exact ⟨A', cap', b', by rw [HY.out, ← HYS.out]; unfold gusS; rw [HY.out]; rfl, by rw [← HYS.out]; exact HO.out, HBW.out⟩
            · rw [decide_eq_false hs]
              have HN : Hid (gusO d h s k z c ro ke sd = false) := Lib.hid (gusO_p (by unfold gusP; rw [decide_eq_false hs]; simp))
              clear hs
              go_wp2
              refine bodyPost_ret (results_tmp3 rfl _ _ _) rfl ?_
              exact ⟨none, 0, 0, by rw [HN.out, (gusL_no HN.out).1, (gusL_no HN.out).2]; rfl, .inl (gusL_no HN.out).1, B3.out⟩
      · rw [decide_eq_false hc]
        have HN : Hid (gusO d h s k z c ro ke sd = false) := Lib.hid (gusO_p (by unfold gusP; rw [decide_eq_false hc]; simp))
        clear hc
        go_wp2
        refine bodyPost_ret (results_tmp3 rfl _ _ _) rfl ?_
        exact ⟨none, 0, 0, by rw [HN.out, (gusL_no HN.out).1, (gusL_no HN.out).2]; rfl, .inl (gusL_no HN.out).1, B2.out⟩
end Go.Proofs.Yteligfbbofgonab
