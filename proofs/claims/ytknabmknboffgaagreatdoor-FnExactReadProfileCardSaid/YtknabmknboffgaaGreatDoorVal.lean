/- What makes a profile valid: both sides. No statement is proved here. -/
import Derived.Test.YtknabmknboffgaaGreatDoorProf
import Derived.Deep.QuietTactic
import Derived.BigQuiet
namespace Go.Proofs.YtknabmknboffgaaGreatDoor
open Go Go.RowKit
theorem sized_of {a l d : List Nat} (h : validP a l d = true) : sized a l d := by
  unfold validP at h
  rw [Bool.and_eq_true] at h
  exact of_decide_eq_true h.1
theorem validP_no {a l d : List Nat} (h : ¬ sized a l d) : validP a l d = false := by unfold validP; rw [decide_eq_false h]; rfl
theorem validP_yes {a l d : List Nat} (h : sized a l d) : validP a l d = (angs a a.length && (fins l l.length && amts d d.length)) := by
  unfold validP; rw [decide_eq_true h, Bool.true_and, oks_eq, h.2.2.1, h.2.2.2]
set_option maxHeartbeats 4000000 in
theorem i_ValidProfile (A L D : Option Addr) (ca cl cd : Nat) (a l d : List Nat) (w : World) (h : Pf w A L D a l d) (hn : Few a l d) :
    Calls Tryz.prog 40 #[.agg #[.slice A a.length ca, .slice L l.length cl, .slice D d.length cd]] w fun e w' => e = .returned (.bool (validP a l d)) ∧ Below w.heap.size w w' := by
  unfold Few at hn
  have HP := Lib.hid h; clear h
  by_cases hs : sized a l d
  · rw [validP_yes hs]
    obtain ⟨h1, h2, h3, h4⟩ := hs
    have e1 : ((l.length : Int) == (a.length : Int)) = true := by simp; omega
    have e2 : ((d.length : Int) == (a.length : Int)) = true := by simp; omega
    have H3 := Lib.hid h3; clear h3
    have H4 := Lib.hid h4; clear h4
    cases c1 : angs a a.length
    · have C1 := Lib.hid c1; clear c1
      go_enter Tryz.func40, Tryz.ntmps40
      go_wp2_with fail
      refine (i_sizesOf A L D _ ca _ cl _ cd _ (by omega)).mono ?_
      rintro e w1 ⟨rfl, b1⟩
      have K0 : Hid (Blk3 w1 w.heap.size _ _ _) := Lib.hid (Blk3.below (blk3_new w _ _ _ _) b1)
      have B1 : Hid (Below w.heap.size w w1) := Lib.hid (((Below.refl _ _).alloc (Nat.le_refl _) _).trans (b1.mono (by simp)))
      clear b1
      obtain ⟨-, ⟨k0, k1, k2⟩, -, -, -⟩ := K0.out
      go_wp2_with fail
      refine (i_areAngles A ca a _ (HP.out.1.below B1.out) (by omega)).mono ?_
      rintro e w' ⟨rfl, rfl⟩
      rw [C1.out]
      go_wp2
      go_ret
      exact ⟨rfl, B1.out⟩
    · have C1 := Lib.hid c1; clear c1
      cases c2 : fins l l.length
      · have C2 := Lib.hid c2; clear c2
        go_enter Tryz.func40, Tryz.ntmps40
        go_wp2_with fail
        refine (i_sizesOf A L D _ ca _ cl _ cd _ (by omega)).mono ?_
        rintro e w1 ⟨rfl, b1⟩
        have K0 : Hid (Blk3 w1 w.heap.size _ _ _) := Lib.hid (Blk3.below (blk3_new w _ _ _ _) b1)
        have B1 : Hid (Below w.heap.size w w1) := Lib.hid (((Below.refl _ _).alloc (Nat.le_refl _) _).trans (b1.mono (by simp)))
        clear b1
        obtain ⟨-, ⟨k0, k1, k2⟩, -, -, -⟩ := K0.out
        go_wp2_with fail
        refine (i_areAngles A ca a _ (HP.out.1.below B1.out) (by omega)).mono ?_
        rintro e w' ⟨rfl, rfl⟩
        rw [C1.out]
        go_wp2_with fail
        refine (i_hasInfinite L cl l _ (HP.out.2.1.below B1.out) (by omega)).mono ?_
        rintro e w' ⟨n, rfl, rfl⟩
        rw [C2.out]
        go_wp2
        go_ret
        exact ⟨rfl, below_draws B1.out _⟩
      · have C2 := Lib.hid c2; clear c2
        go_enter Tryz.func40, Tryz.ntmps40
        go_wp2_with fail
        refine (i_sizesOf A L D _ ca _ cl _ cd _ (by omega)).mono ?_
        rintro e w1 ⟨rfl, b1⟩
        have K0 : Hid (Blk3 w1 w.heap.size _ _ _) := Lib.hid (Blk3.below (blk3_new w _ _ _ _) b1)
        have B1 : Hid (Below w.heap.size w w1) := Lib.hid (((Below.refl _ _).alloc (Nat.le_refl _) _).trans (b1.mono (by simp)))
        clear b1
        obtain ⟨-, ⟨k0, k1, k2⟩, -, -, -⟩ := K0.out
        go_wp2_with fail
        refine (i_areAngles A ca a _ (HP.out.1.below B1.out) (by omega)).mono ?_
        rintro e w' ⟨rfl, rfl⟩
        rw [C1.out]
        go_wp2_with fail
        refine (i_hasInfinite L cl l _ (HP.out.2.1.below B1.out) (by omega)).mono ?_
        rintro e w' ⟨n, rfl, rfl⟩
        rw [C2.out]
        go_wp2_with fail
        refine (i_hasNoAmount D cd d _ (HP.out.2.2.below (below_draws B1.out _)) (by omega)).mono ?_
        rintro e w' ⟨m, rfl, rfl⟩
        go_wp2
        go_ret
        exact ⟨by simp, below_draws B1.out _⟩
  · rw [validP_no hs]
    unfold sized at hs
    by_cases h1 : a.length < 2
    · clear hs
      go_enter Tryz.func40, Tryz.ntmps40
      go_wp2
      go_ret
      exact ⟨rfl, (Below.refl _ _).alloc (Nat.le_refl _) _⟩
    · by_cases h2 : 24 < a.length
      · clear hs
        go_enter Tryz.func40, Tryz.ntmps40
        go_wp2
        go_ret
        exact ⟨rfl, (Below.refl _ _).alloc (Nat.le_refl _) _⟩
      · by_cases h3 : l.length = a.length
        · have e1 : ((l.length : Int) == (a.length : Int)) = true := by simp; omega
          have e2 : ((d.length : Int) == (a.length : Int)) = false := by rw [beq_eq_false_iff_ne]; omega
          clear hs h3
          go_enter Tryz.func40, Tryz.ntmps40
          go_wp2_with fail
          refine (i_sizesOf A L D _ ca _ cl _ cd _ (by omega)).mono ?_
          rintro e w1 ⟨rfl, b1⟩
          have B1 : Hid (Below w.heap.size w w1) := Lib.hid (((Below.refl _ _).alloc (Nat.le_refl _) _).trans (b1.mono (by simp)))
          clear b1
          go_wp2
          go_ret
          exact ⟨rfl, B1.out⟩
        · have e1 : ((l.length : Int) == (a.length : Int)) = false := by rw [beq_eq_false_iff_ne]; omega
          clear hs h3
          go_enter Tryz.func40, Tryz.ntmps40
          go_wp2_with fail
          refine (i_sizesOf A L D _ ca _ cl _ cd _ (by omega)).mono ?_
          rintro e w1 ⟨rfl, b1⟩
          have B1 : Hid (Below w.heap.size w w1) := Lib.hid (((Below.refl _ _).alloc (Nat.le_refl _) _).trans (b1.mono (by simp)))
          clear b1
          go_wp2
          go_ret
          exact ⟨rfl, B1.out⟩
theorem Fl.same {w : World} {A : Option Addr} {xs : List Nat} (h : Fl w A xs) {b off : Nat} (e : A = some ⟨b, off, none⟩) {k : Nat} (hk : k < xs.length) : w.cell? ⟨b, off + k, none⟩ = some (.float .f32 (xs.getD k 0)) := by
  obtain ⟨b', off', e', -, hc⟩ := h.at_ hk
  rw [e] at e'
  simp only [Option.some.injEq, Addr.mk.injEq] at e'
  obtain ⟨rfl, rfl, -⟩ := e'
  exact hc
set_option maxHeartbeats 16000000 in
set_option maxRecDepth 100000 in
theorem s_l02Is (A L D : Option Addr) (ca cl cd : Nat) (a l d : List Nat) (B : Nat) (w : World) (h : Pf w A L D a l d) (hk : Blk3 w B (.slice A a.length ca) (.slice L l.length cl) (.slice D d.length cd)) (hn : Few a l d) :
    Calls Tryz.prog 100 #[.pointer (some ⟨B, 0, none⟩)] w fun e w' => ∃ n, e = .returned (.bool (validP a l d)) ∧ w' = w.drewN n := by
  unfold Few at hn
  have HP := Lib.hid h; clear h
  obtain ⟨-, ⟨k0, k1, k2⟩, -, -, -⟩ := hk
  by_cases hs : sized a l d
  · obtain ⟨h1, h2, h3, h4⟩ := hs
    have e1 : ((l.length : Int) != (a.length : Int)) = false := by simp; omega
    have e2 : ((d.length : Int) != (a.length : Int)) = false := by simp; omega
    have HV : Hid (validP a l d = oks a l d a.length) := Lib.hid (by unfold validP; rw [decide_eq_true ⟨h1, h2, h3, h4⟩]; rfl)
    have h3' : a.length ≤ l.length := by omega
    have h4' : a.length ≤ d.length := by omega
    have H3 := Lib.hid h3; clear h3
    have H4 := Lib.hid h4; clear h4
    go_enter Tryz.func100, Tryz.ntmps100
    go_wp2
    go_loopw [4] (fun i wr => ∃ k n : Nat, k ≤ a.length ∧ i = .int .i64 k ∧ Hid (oks a l d k = true) ∧ wr = w.drewN n) (fun i _ => a.length - (intOf i).toNat)
    case atStart => exact ⟨0, 0, Nat.zero_le _, rfl, rfl, rfl⟩
    case round =>
      obtain ⟨k, n, hk, rfl, hr, rfl⟩ := hrel
      clear e1 e2
      by_cases hlt : k < a.length
      · have HNo : Hid (oks a l d (k + 1) = false → validP a l d = false) := Lib.hid (fun h => by rw [HV.out]; exact oks_no h (by omega))
        obtain ⟨b, off, rfl, hb, hc⟩ := HP.out.1.at_ hlt
        obtain ⟨bl, ol, rfl, hbl, hcl⟩ := HP.out.2.1.at_ (show k < l.length by omega)
        obtain ⟨bd, od, rfl, hbd, hcd⟩ := HP.out.2.2.at_ (show k < d.length by omega)
        have hp : 0 < k → w.cell? ⟨b, off + (k - 1), none⟩ = some (.float .f32 (a.getD (k - 1) 0)) := fun h0 => HP.out.1.same rfl (by omega)
        have HA : Hid (oks a l d (k + 1) = (angStep a k && (fin .f32 (l.getD k 0) && amount (d.getD k 0)))) := by show _ = _; simp only [oks, hr.out, Bool.true_and]
        obtain ⟨x, hx⟩ : ∃ x, x = a.getD k 0 := ⟨_, rfl⟩
        obtain ⟨y, hy⟩ : ∃ y, y = a.getD (k - 1) 0 := ⟨_, rfl⟩
        obtain ⟨xl, hxl⟩ : ∃ x, x = l.getD k 0 := ⟨_, rfl⟩
        obtain ⟨xd, hxd⟩ : ∃ x, x = d.getD k 0 := ⟨_, rfl⟩
        rw [← hx] at hc
        rw [← hy] at hp
        rw [← hxl] at hcl
        rw [← hxd] at hcd
        have HX := Lib.hid hx; clear hx
        have HY := Lib.hid hy; clear hy
        have HXL := Lib.hid hxl; clear hxl
        have HXD := Lib.hid hxd; clear hxd
        clear hb hbl hbd
        have HST : Hid (angStep a k = (within x 3204448256 1056964608 && (k == 0 || !leq32 x y))) := Lib.hid (by rw [HX.out, HY.out]; rfl)
        cases g1 : (FloatKind.f32.format.order x 3204448256 == some .gt || FloatKind.f32.format.order x 3204448256 == some .eq)
        · have HB : Hid (validP a l d = false) := Lib.hid (HNo.out (by rw [HA.out, HST.out]; unfold within geq32; rw [g1]; rfl))
          clear hp
          go_wp2_with fail
          go_quiet (fail)
          go_wp2
          go_ret
          exact ⟨_, by rw [HB.out]; rfl, World.drewN_drewN ..⟩
        · cases g2 : (FloatKind.f32.format.order x 1056964608 == some .lt || FloatKind.f32.format.order x 1056964608 == some .eq)
          · have HB : Hid (validP a l d = false) := Lib.hid (HNo.out (by rw [HA.out, HST.out]; unfold within geq32 leq32; rw [g1, g2]; rfl))
            clear hp
            go_wp2_with fail
            go_quiet (fail)
            go_wp2
            go_ret
            exact ⟨_, by rw [HB.out]; rfl, World.drewN_drewN ..⟩
          · by_cases hk0 : k = 0
            · subst hk0
              rw [Nat.add_zero] at hc hcl hcd
              have HS : Hid (angStep a 0 = true) := Lib.hid (by rw [HST.out]; unfold within geq32 leq32; rw [g1, g2]; rfl)
              clear hp
              go_wp2_with fail
              go_quiet (fail)
              go_wp2_with fail
              refine (s_l01Finite _ _).mono ?_
              rintro e w' ⟨m1, rfl, rfl⟩
              cases f1 : fin .f32 xl
              · have HB : Hid (validP a l d = false) := Lib.hid (HNo.out (by rw [HA.out, ← HXL.out, f1]; simp))
                go_wp2
                go_ret
                exact ⟨_, by rw [HB.out]; rfl, by first | rfl | (simp only [World.drewN_drewN]; rfl)⟩
              · go_wp2_with fail
                refine (s_l02Least _ _).mono ?_
                rintro e w' ⟨m2, rfl, rfl⟩
                cases f2 : amount xd
                · have HB : Hid (validP a l d = false) := Lib.hid (HNo.out (by rw [HA.out, ← HXD.out, f2]; simp))
                  go_wp2
                  go_ret
                  exact ⟨_, by rw [HB.out]; rfl, by first | rfl | (simp only [World.drewN_drewN]; rfl)⟩
                · have HG : Hid (oks a l d (0 + 1) = true) := Lib.hid (by rw [HA.out, HS.out, ← HXL.out, ← HXD.out, f1, f2]; rfl)
                  go_wp2
                  go_roundw
                  case rel => exact ⟨0 + 1, _, by omega, by go_num, HG, by first | rfl | (simp only [World.drewN_drewN]; rfl)⟩
                  case measure => simp [intOf]; omega
            · have hk1 : 0 < k := by omega
              have hc2 := hp hk1
              clear hp hk0
              have hi : IntKind.i64.wrap ((k : Int) - 1) = ((k - 1 : Nat) : Int) := by rw [IntWalk.i64_in _ (by omega)]; omega
              have hi2 : (0 : Int) ≤ ((k - 1 : Nat) : Int) := by omega
              cases g3 : (FloatKind.f32.format.order x y == some .lt || FloatKind.f32.format.order x y == some .eq)
              · have HS : Hid (angStep a k = true) := Lib.hid (by rw [HST.out]; unfold within geq32 leq32; rw [g1, g2, g3]; simp)
                go_wp2_with fail
                go_quiet (fail)
                go_wp2_with fail
                refine (s_l01Finite _ _).mono ?_
                rintro e w' ⟨m1, rfl, rfl⟩
                cases f1 : fin .f32 xl
                · have HB : Hid (validP a l d = false) := Lib.hid (HNo.out (by rw [HA.out, ← HXL.out, f1]; simp))
                  go_wp2
                  go_ret
                  exact ⟨_, by rw [HB.out]; rfl, by first | rfl | (simp only [World.drewN_drewN]; rfl)⟩
                · go_wp2_with fail
                  refine (s_l02Least _ _).mono ?_
                  rintro e w' ⟨m2, rfl, rfl⟩
                  cases f2 : amount xd
                  · have HB : Hid (validP a l d = false) := Lib.hid (HNo.out (by rw [HA.out, ← HXD.out, f2]; simp))
                    go_wp2
                    go_ret
                    exact ⟨_, by rw [HB.out]; rfl, by first | rfl | (simp only [World.drewN_drewN]; rfl)⟩
                  · have HG : Hid (oks a l d (k + 1) = true) := Lib.hid (by rw [HA.out, HS.out, ← HXL.out, ← HXD.out, f1, f2]; rfl)
                    go_wp2
                    go_roundw
                    case rel => exact ⟨k + 1, _, by omega, by go_num, HG, by first | rfl | (simp only [World.drewN_drewN]; rfl)⟩
                    case measure => simp [intOf]; omega
              · have HB : Hid (validP a l d = false) := Lib.hid (HNo.out (by rw [HA.out, HST.out]; unfold within geq32 leq32; rw [g1, g2, g3]; simp; omega))
                go_wp2_with fail
                go_quiet (fail)
                go_wp2
                go_ret
                exact ⟨_, by rw [HB.out]; rfl, World.drewN_drewN ..⟩
      · have hkk : k = a.length := by omega
        subst hkk
        have HB : Hid (validP a l d = true) := Lib.hid (by rw [HV.out, hr.out])
        go_wp2
        go_ret
        exact ⟨_, by rw [HB.out]; rfl, rfl⟩
  · have HB : Hid (validP a l d = false) := Lib.hid (validP_no hs)
    unfold sized at hs
    by_cases h1 : a.length < 2
    · clear hs
      go_enter Tryz.func100, Tryz.ntmps100
      go_wp2
      go_ret
      first | (refine ⟨?_, 0, rfl⟩; rw [HB.out]; rfl) | (refine ⟨0, ?_, rfl⟩; rw [HB.out]; rfl)
    · by_cases h2 : 24 < a.length
      · clear hs
        go_enter Tryz.func100, Tryz.ntmps100
        go_wp2
        go_ret
        first | (refine ⟨?_, 0, rfl⟩; rw [HB.out]; rfl) | (refine ⟨0, ?_, rfl⟩; rw [HB.out]; rfl)
      · by_cases h3 : l.length = a.length
        · have e1 : ((l.length : Int) != (a.length : Int)) = false := by simp; omega
          have e2 : ((d.length : Int) != (a.length : Int)) = true := by rw [bne_iff_ne]; omega
          clear hs h3
          go_enter Tryz.func100, Tryz.ntmps100
          go_wp2
          go_ret
          first | (refine ⟨?_, 0, rfl⟩; rw [HB.out]; rfl) | (refine ⟨0, ?_, rfl⟩; rw [HB.out]; rfl)
        · have e1 : ((l.length : Int) != (a.length : Int)) = true := by rw [bne_iff_ne]; omega
          clear hs h3
          go_enter Tryz.func100, Tryz.ntmps100
          go_wp2
          go_ret
          first | (refine ⟨?_, 0, rfl⟩; rw [HB.out]; rfl) | (refine ⟨0, ?_, rfl⟩; rw [HB.out]; rfl)
end Go.Proofs.YtknabmknboffgaaGreatDoor
