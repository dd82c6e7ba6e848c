/- The law FnExactStrongestSector. No statement is proved here. -/
import Derived.Test.YteligfbbofgonabStr
namespace Go.Proofs.Yteligfbbofgonab
open Go Go.RowKit
set_option maxHeartbeats 8000000 in
theorem law_FnExactStrongestSector (A L : Option Addr) (ca cl : Nat) (a l : List Nat)  (w : World) (h : Rs w A L a l) (ha : a.length ≤ 9223372036854775807) (hl : l.length ≤ 9223372036854775807)  :
    Calls Try.prog 7 #[.agg #[.slice A a.length ca, .slice L l.length cl]] w fun e w' => e = .returned (.bool true) ∧ Below w.heap.size w w' := by
  have HP := Lib.hid h; clear h
  by_cases hn : FewS a l
  · have HN := Lib.hid hn
    unfold FewS at hn
    go_enter Try.func7, Try.ntmps7
    go_wp2_with fail
    refine (l_szRose_yes A L _ ca _ cl _ _ (by omega) (by omega)).mono ?_
    rintro e w1 ⟨rfl, b1⟩
    have K1 : Hid (BlkL w1 w.heap.size [_, _]) := Lib.hid (BlkL.below (blkL_at w #[_, _] _ rfl) b1)
    have B1 : Hid (Below w.heap.size w w1) := Lib.hid (((Below.refl _ _).alloc (Nat.le_refl _) _).trans (b1.mono (by simp)))
    clear b1
    obtain ⟨k0, k1⟩ := K1.out.two
    have hq : (0 : Int) ≤ 1048576 - a.length - l.length := by omega
    clear hn
    go_wp2_with fail
    refine (l_toRose A L ca cl a l _ (HP.out.below B1.out) HN.out).mono ?_
    rintro e w2 ⟨p1, p2, rfl, ho, b2⟩
    have HO := Lib.hid ho
    have B2 : Hid (Below w.heap.size w w2) := Lib.hid (below_of B1.out B1.out.size b2)
    have K2 := Lib.hid (K1.out.below b2)
    clear ho b2 k0 k1 K1
    obtain ⟨k0, k1⟩ := K2.out.two
    go_wp2_with fail
    refine (s_StrongestSector _ _ _ _ a l  _ HO.out.rs HN.out).mono ?_
    rintro e w3 ⟨r3, rfl, c3, b3⟩
    have B3 : Hid (Below w.heap.size w w3) := Lib.hid (below_of B2.out B2.out.size b3)
    have K3 := Lib.hid (K2.out.below b3)
    have C3 := Lib.hid c3; clear c3
    clear b3 HO k0 k1 K2
    obtain ⟨k0, k1⟩ := K3.out.two
    go_wp2_with fail
    refine (l_toRose A L ca cl a l _ (HP.out.below B3.out) HN.out).mono ?_
    rintro e w4 ⟨p1, p2, rfl, ho, b4⟩
    have HO := Lib.hid ho
    have B4 : Hid (Below w.heap.size w w4) := Lib.hid (below_of B3.out B3.out.size b4)
    have K4 := Lib.hid (K3.out.below b4)
    clear ho b4 k0 k1 K3
    obtain ⟨k0, k1⟩ := K4.out.two
    go_wp2_with fail
    refine (i_StrongestSector _ _ _ _ a l  _ (HO.out.below (w := w4) ((Below.refl _ _).alloc (Nat.le_refl _) _)).rs HN.out).mono ?_
    rintro e w5 ⟨r5, rfl, c5, b5⟩
    have bx : Below w4.heap.size w4 w5 := ((Below.refl _ _).alloc (Nat.le_refl _) _).trans (b5.mono (by simp))
    have X5 : Hid (BlkL w5 w4.heap.size [_, _]) := Lib.hid (BlkL.below (blkL_at w4 #[_, _] _ rfl) b5)
    have K5 := Lib.hid (K4.out.below bx)
    have B5 : Hid (Below w.heap.size w w5) := Lib.hid (below_of B4.out B4.out.size bx)
    have HO5 := Lib.hid (HO.out.below bx)
    have C5 := Lib.hid c5; clear c5
    clear b5 bx HO k0 k1 K4
    obtain ⟨k0, k1⟩ := K5.out.two
    obtain ⟨x0, x1⟩ := X5.out.two
    go_wp2_with fail
    refine (sameFloat_yes _ _ _ (by rw [canon_wideV, canon_wideV, C3.out, C5.out])).mono ?_
    rintro e wq ⟨nq, rfl, rfl⟩
    go_wp2_with fail
    have D5 : ∀ nn, Hid (Below w.heap.size w (w5.drewN nn).drew) := fun nn => Lib.hid (below_draws B5.out nn).drew
    have XD : ∀ nn, Hid (BlkL (w5.drewN nn).drew w4.heap.size [_, _]) := fun _ => X5
    have OD : ∀ nn, Hid (OwnS (w5.drewN nn).drew _ p1 p2 a l) := fun _ => HO5
    go_region_with (first
      | (go_at_call 17; refine (l_toRose A L ca cl a l _ (HP.out.below (D5 _).out) HN.out).mono ?_; rintro e w6 ⟨p1', p2', rfl, ho, b6⟩; obtain ⟨z0, z1⟩ := ((XD _).out.below b6).two; have HO6 := Lib.hid ho; have HO5' := Lib.hid ((OD _).out.below b6); have B6 : Hid (Below w.heap.size w w6) := Lib.hid (below_of (D5 _).out (D5 _).out.size b6); clear ho b6)
      | (go_at_call 19; refine (l_eqRose _ _ _ _ _ _ _ _ a l _ HO5'.out.rs HO6.out.rs HN.out).mono ?_; rintro e w7 ⟨rfl, b7⟩; have B7 : Hid (Below w.heap.size w w7) := Lib.hid (below_of B6.out B6.out.size b7); clear b7))
    all_goals
      go_wp2
      go_ret
      exact ⟨rfl, B7.out⟩
  · unfold FewS at hn
    go_enter Try.func7, Try.ntmps7
    go_wp2_with fail
    refine (l_szRose_no A L _ ca _ cl _ _ (by omega) (by omega) (by omega) ha hl).mono ?_
    rintro e w1 ⟨rfl, b1⟩
    have B1 : Hid (Below w.heap.size w w1) := Lib.hid (((Below.refl _ _).alloc (Nat.le_refl _) _).trans (b1.mono (by simp)))
    clear b1
    go_wp2
    go_ret
    exact ⟨rfl, B1.out⟩
end Go.Proofs.Yteligfbbofgonab
