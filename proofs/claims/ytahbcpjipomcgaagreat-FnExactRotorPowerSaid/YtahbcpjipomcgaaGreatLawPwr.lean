/- The law FnExactRotorPower. No statement is proved here. -/
import Derived.Test.YtahbcpjipomcgaaGreatMgTh
namespace Go.Proofs.YtahbcpjipomcgaaGreat
open Go Go.RowKit
set_option maxHeartbeats 8000000 in
theorem law_FnExactRotorPower (A L D S : Option Addr) (ca cl cd n cs : Nat) (c : Int) (hub tip : Nat) (a l d s : List Nat) (u0 : Nat) (u1 : Nat) (u2 : Nat) (u3 : Nat) (w : World) (h : Rt w A L D S a l d s) (hs : s.length = n * 3) (ha : a.length ≤ 9223372036854775807) (hl : l.length ≤ 9223372036854775807) (hd : d.length ≤ 9223372036854775807) (hnn : n ≤ 9223372036854775807) (_hu0 : u0 < words .f32) (_hu1 : u1 < words .f32) (_hu2 : u2 < words .f32) (_hu3 : u3 < words .f32) :
    Calls Tryz.prog 7 #[.agg #[.slice A a.length ca, .slice L l.length cl, .slice D d.length cd, .slice S n cs, .int .i64 c, .float .f32 hub, .float .f32 tip], .float .f32 u0, .float .f32 u1, .float .f32 u2, .float .f32 u3] w fun e w' => e = .returned (.bool true) ∧ Below w.heap.size w w' := by
  have HP := Lib.hid h; clear h
  by_cases hn : FewR a l d s n
  · have HN := Lib.hid hn
    have hn2 := hn.2
    go_enter Tryz.func7, Tryz.ntmps7
    go_wp2_with fail
    refine (l_szRotor_yes A L D S _ ca _ cl _ cd n cs c hub tip _ _ (by omega) (by omega)).mono ?_
    rintro e w1 ⟨rfl, b1⟩
    have K1 : Hid (Blk7 w1 w.heap.size A L D S a l d ca cl cd n cs c hub tip) := Lib.hid (Blk7.below (blk7_at w A L D S a l d ca cl cd n cs c hub tip _ rfl) b1)
    have B1 : Hid (Below w.heap.size w w1) := Lib.hid (((Below.refl _ _).alloc (Nat.le_refl _) _).trans (b1.mono (by simp)))
    clear b1
    obtain ⟨k0, k1, k2, k3, k4, k5, k6⟩ := K1.out.limbs
    have hq : (0 : Int) ≤ 1048576 - a.length - l.length - d.length - n := by omega
    clear hn hn2
    go_wp2_with fail
    refine (l_toRotor A L D S ca cl cd n cs c hub tip a l d s _ (HP.out.below B1.out) HN.out).mono ?_
    rintro e w2 ⟨p1, p2, p3, p4, rfl, ho, b2⟩
    have HO := Lib.hid ho
    have B2 : Hid (Below w.heap.size w w2) := Lib.hid (below_of B1.out B1.out.size b2)
    have K2 := Lib.hid (K1.out.below b2)
    clear ho b2 k0 k1 k2 k3 k4 k5 k6 K1
    obtain ⟨k0, k1, k2, k3, k4, k5, k6⟩ := K2.out.limbs
    go_wp2_with fail
    refine (s_RotorPower _ _ _ _ _ _ _ n _ c hub tip a l d s u0 u1 u2 u3 _ HO.out.rt HN.out).mono ?_
    rintro e w3 ⟨r3, rfl, c3, b3⟩
    have B3 : Hid (Below w.heap.size w w3) := Lib.hid (below_of B2.out B2.out.size b3)
    have K3 := Lib.hid (K2.out.below b3)
    have C3 := Lib.hid c3; clear c3
    clear b3 HO k0 k1 k2 k3 k4 k5 k6 K2
    obtain ⟨k0, k1, k2, k3, k4, k5, k6⟩ := K3.out.limbs
    go_wp2_with fail
    refine (l_toRotor A L D S ca cl cd n cs c hub tip a l d s _ (HP.out.below B3.out) HN.out).mono ?_
    rintro e w4 ⟨p1, p2, p3, p4, rfl, ho, b4⟩
    have HO := Lib.hid ho
    have B4 : Hid (Below w.heap.size w w4) := Lib.hid (below_of B3.out B3.out.size b4)
    have K4 := Lib.hid (K3.out.below b4)
    clear ho b4 k0 k1 k2 k3 k4 k5 k6 K3
    obtain ⟨k0, k1, k2, k3, k4, k5, k6⟩ := K4.out.limbs
    go_wp2_with fail
    refine (i_RotorPower _ _ _ _ _ _ _ n _ c hub tip a l d s u0 u1 u2 u3 _ (HO.out.below (w := w4) ((Below.refl _ _).alloc (Nat.le_refl _) _)).rt HN.out (Nat.le_refl n)).mono ?_
    rintro e w5 ⟨r5, rfl, c5, b5⟩
    have bx : Below w4.heap.size w4 w5 := ((Below.refl _ _).alloc (Nat.le_refl _) _).trans (b5.mono (by simp))
    have X5 : Hid (Blk7 w5 w4.heap.size _ _ _ _ a l d _ _ _ n _ c hub tip) := Lib.hid (Blk7.below (blk7_at w4 _ _ _ _ _ _ _ _ _ _ _ _ _ _ _ _ rfl) b5)
    have K5 := Lib.hid (K4.out.below bx)
    have B5 : Hid (Below w.heap.size w w5) := Lib.hid (below_of B4.out B4.out.size bx)
    have HO5 := Lib.hid (HO.out.below bx)
    have C5 := Lib.hid c5; clear c5
    clear b5 bx HO k0 k1 k2 k3 k4 k5 k6 K4
    obtain ⟨k0, k1, k2, k3, k4, k5, k6⟩ := K5.out.limbs
    obtain ⟨x0, x1, x2, x3, x4, x5, x6⟩ := X5.out.limbs
    go_wp2_with fail
    refine (sameFloat_yes _ _ _ (by rw [canon_wideV, canon_wideV, C3.out, C5.out])).mono ?_
    rintro e wq ⟨nq, rfl, rfl⟩
    go_wp2_with fail
    have D5 : ∀ nn, Hid (Below w.heap.size w (w5.drewN nn).drew) := fun nn => Lib.hid (below_draws B5.out nn).drew
    have XD : ∀ nn, Hid (Blk7 (w5.drewN nn).drew w4.heap.size _ _ _ _ a l d _ _ _ n _ c hub tip) := fun _ => X5
    have OD : ∀ nn, Hid (OwnR (w5.drewN nn).drew _ p1 p2 p3 p4 a l d s) := fun _ => HO5
    go_region_with (first
      | (go_at_call 13; refine (l_toRotor A L D S ca cl cd n cs c hub tip a l d s _ (HP.out.below (D5 _).out) HN.out).mono ?_; rintro e w6 ⟨p1', p2', p3', p4', rfl, ho, b6⟩; obtain ⟨z0, z1, z2, z3, z4, z5, z6⟩ := ((XD _).out.below b6).limbs; have HO6 := Lib.hid ho; have HO5' := Lib.hid ((OD _).out.below b6); have B6 : Hid (Below w.heap.size w w6) := Lib.hid (below_of (D5 _).out (D5 _).out.size b6); clear ho b6)
      | (go_at_call 16; refine (l_eqRotor _ _ _ _ _ _ _ _ _ _ _ _ _ _ _ n _ c hub tip a l d s _ HO5'.out.rt HO6.out.rt HN.out).mono ?_; rintro e w7 ⟨rfl, b7⟩; have B7 : Hid (Below w.heap.size w w7) := Lib.hid (below_of B6.out B6.out.size b7); clear b7))
    all_goals
      go_wp2
      go_ret
      exact ⟨rfl, B7.out⟩
  · have hlt : ¬ (a.length + l.length + d.length + n ≤ 1048576) := fun hh => hn ⟨hs, hh⟩
    go_enter Tryz.func7, Tryz.ntmps7
    go_wp2_with fail
    refine (l_szRotor_no A L D S _ ca _ cl _ cd n cs c hub tip _ _ (by omega) (by omega) (by omega) ha hl hd hnn).mono ?_
    rintro e w1 ⟨rfl, b1⟩
    have B1 : Hid (Below w.heap.size w w1) := Lib.hid (((Below.refl _ _).alloc (Nat.le_refl _) _).trans (b1.mono (by simp)))
    clear b1
    go_wp2
    go_ret
    exact ⟨rfl, B1.out⟩
end Go.Proofs.YtahbcpjipomcgaaGreat
