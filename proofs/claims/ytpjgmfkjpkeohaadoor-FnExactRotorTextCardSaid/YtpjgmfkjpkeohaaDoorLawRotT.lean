/- The law FnExactRotorText. No statement is proved here. -/
import Derived.Test.YtpjgmfkjpkeohaaDoorRotT
import Derived.Test.YtpjgmfkjpkeohaaDoorOpenWP
import Derived.Test.YtpjgmfkjpkeohaaDoorRotL
import Derived.Test.YtpjgmfkjpkeohaaDoorRotW
namespace Go.Proofs.YtpjgmfkjpkeohaaDoor
open Go Go.RowKit
set_option maxHeartbeats 8000000 in
theorem law_FnExactRotorText (A L D S : Option Addr) (ca cl cd n cs : Nat) (c : Int) (hub tip : Nat) (a l d s : List Nat)  (w : World) (h : Rt w A L D S a l d s) (hs : s.length = n * 3) (ha : a.length ≤ 9223372036854775807) (hl : l.length ≤ 9223372036854775807) (hd : d.length ≤ 9223372036854775807) (hnn : n ≤ 9223372036854775807)  (hw : Words a ∧ Words l ∧ Words d) (hws : ∀ x ∈ s, x < words .f32) (hci : (Lit.int .i64 c).wf = true) (hhb : hub < words .f32) (htp : tip < words .f32) (hT : T64 w ∧ T10 w) :
    Calls Tryd.prog 4 #[.agg #[.slice A a.length ca, .slice L l.length cl, .slice D d.length cd, .slice S n cs, .int .i64 c, .float .f32 hub, .float .f32 tip]] w fun e w' => e = .returned (.bool true) ∧ Below w.heap.size w w' := by
  have HP := Lib.hid h; clear h
  have HW : Hid ((∀ x ∈ a, canon .f32 x < 4294967296) ∧ (∀ x ∈ l, canon .f32 x < 4294967296) ∧ ∀ x ∈ d, canon .f32 x < 4294967296) := Lib.hid ⟨words_mem hw.1, words_mem hw.2.1, words_mem hw.2.2⟩
  have HWS : Hid ((∀ x ∈ s, canon .f32 x < 4294967296) ∧ ∀ x ∈ [hub, tip], canon .f32 x < 4294967296) := Lib.hid ⟨fun x hx => canon_lt (hws x hx), fun x hx => by
    simp only [List.mem_cons, List.not_mem_nil, or_false] at hx
    rcases hx with rfl | rfl <;> exact canon_lt (by assumption)⟩
  have HI := Lib.hid (wf_i64 hci)
  have HT := Lib.hid hT
  clear hw hws hci hhb htp hT
  by_cases hn : FewR a l d s n
  · have HN := Lib.hid hn
    have hn2 := hn.2
    go_enter Tryd.func4, Tryd.ntmps4
    go_wp2_with fail
    refine (l_szRotor_yes A L D S _ ca _ cl _ cd n cs c hub tip _ _ (by omega) (by omega)).mono ?_
    rintro e w1 ⟨rfl, b1⟩
    have K1 : Hid (Blk7 w1 w.heap.size A L D S a l d ca cl cd n cs c hub tip) := Lib.hid (Blk7.below (blk7_at w A L D S a l d ca cl cd n cs c hub tip _ rfl) b1)
    have B1 : Hid (Below w.heap.size w w1) := Lib.hid (((Below.refl _ _).alloc (Nat.le_refl _) _).trans (b1.mono (by simp)))
    clear b1
    obtain ⟨k0, k1, k2, k3, k4, k5, k6⟩ := K1.out.limbs
    have hq : (0 : Int) ≤ 1048576 - a.length - l.length - d.length - n := by omega
    clear hn hn2
    go_wp2_with fail
    refine (l_toRotor A L D S ca cl cd n cs c hub tip a l d s _ (HP.out.below B1.out) HN.out).mono ?_
    rintro e w2 ⟨p1, p2, p3, p4, rfl, ho, b2⟩
    have HO := Lib.hid ho
    have B2 : Hid (Below w.heap.size w w2) := Lib.hid (below_of B1.out B1.out.size b2)
    have K2 := Lib.hid (K1.out.below b2)
    clear ho b2 k0 k1 k2 k3 k4 k5 k6 K1
    obtain ⟨k0, k1, k2, k3, k4, k5, k6⟩ := K2.out.limbs
    go_wp2_with fail
    refine (s_RotorText _ _ _ _ _ _ _ n _ c hub tip a l d s  _ HO.out.rt HN.out HW.out HWS.out HI.out).mono ?_
    rintro e w3 ⟨rfl, b3⟩
    have B3 : Hid (Below w.heap.size w w3) := Lib.hid (below_of B2.out B2.out.size b3)
    have K3 := Lib.hid (K2.out.below b3)
    clear b3 HO k0 k1 k2 k3 k4 k5 k6 K2
    obtain ⟨k0, k1, k2, k3, k4, k5, k6⟩ := K3.out.limbs
    go_wp2_with fail
    refine (l_toRotor A L D S ca cl cd n cs c hub tip a l d s _ (HP.out.below B3.out) HN.out).mono ?_
    rintro e w4 ⟨p1, p2, p3, p4, rfl, ho, b4⟩
    have HO := Lib.hid ho
    have B4 : Hid (Below w.heap.size w w4) := Lib.hid (below_of B3.out B3.out.size b4)
    have K4 := Lib.hid (K3.out.below b4)
    clear ho b4 k0 k1 k2 k3 k4 k5 k6 K3
    obtain ⟨k0, k1, k2, k3, k4, k5, k6⟩ := K4.out.limbs
    go_wp2_with fail
    refine (i_RotorText _ _ _ _ _ _ _ n _ c hub tip a l d s  _ (HO.out.below (w := w4) ((Below.refl _ _).alloc (Nat.le_refl _) _)).rt HN.out HW.out HWS.out HI.out ⟨HT.out.1.below (B4.out.alloc B4.out.size _), HT.out.2.below (B4.out.alloc B4.out.size _)⟩).mono ?_
    rintro e w5 ⟨rfl, b5⟩
    have bx : Below w4.heap.size w4 w5 := ((Below.refl _ _).alloc (Nat.le_refl _) _).trans (b5.mono (by simp))
    have X5 : Hid (Blk7 w5 w4.heap.size _ _ _ _ a l d _ _ _ n _ c hub tip) := Lib.hid (Blk7.below (blk7_at w4 _ _ _ _ _ _ _ _ _ _ _ _ _ _ _ _ rfl) b5)
    have K5 := Lib.hid (K4.out.below bx)
    have B5 : Hid (Below w.heap.size w w5) := Lib.hid (below_of B4.out B4.out.size bx)
    have HO5 := Lib.hid (HO.out.below bx)
    clear b5 bx HO k0 k1 k2 k3 k4 k5 k6 K4
    obtain ⟨k0, k1, k2, k3, k4, k5, k6⟩ := K5.out.limbs
    obtain ⟨x0, x1, x2, x3, x4, x5, x6⟩ := X5.out.limbs
    go_wp2_with fail
    have D5 : Hid (Below w.heap.size w w5.drew) := Lib.hid B5.out.drew
    have XD : Hid (Blk7 w5.drew w4.heap.size _ _ _ _ a l d _ _ _ n _ c hub tip) := X5
    have OD : Hid (OwnR w5.drew _ p1 p2 p3 p4 a l d s) := HO5
    go_region_with (first
      | (go_at_call 18; refine (l_toRotor A L D S ca cl cd n cs c hub tip a l d s _ (HP.out.below D5.out) HN.out).mono ?_; rintro e w6 ⟨p1', p2', p3', p4', rfl, ho, b6⟩; obtain ⟨z0, z1, z2, z3, z4, z5, z6⟩ := (XD.out.below b6).limbs; have HO6 := Lib.hid ho; have HO5' := Lib.hid (OD.out.below b6); have B6 : Hid (Below w.heap.size w w6) := Lib.hid (below_of D5.out D5.out.size b6); clear ho b6)
      | (go_at_call 20; refine (l_eqRotor _ _ _ _ _ _ _ _ _ _ _ _ _ _ _ n _ c hub tip a l d s _ HO5'.out.rt HO6.out.rt HN.out).mono ?_; rintro e w7 ⟨rfl, b7⟩; have B7 : Hid (Below w.heap.size w w7) := Lib.hid (below_of B6.out B6.out.size b7); clear b7))
    all_goals
      go_wp2
      go_ret
      exact ⟨rfl, B7.out⟩
  · have hlt : ¬ (a.length + l.length + d.length + n ≤ 1048576) := fun hh => hn ⟨hs, hh⟩
    go_enter Tryd.func4, Tryd.ntmps4
    go_wp2_with fail
    refine (l_szRotor_no A L D S _ ca _ cl _ cd n cs c hub tip _ _ (by omega) (by omega) (by omega) ha hl hd hnn).mono ?_
    rintro e w1 ⟨rfl, b1⟩
    have B1 : Hid (Below w.heap.size w w1) := Lib.hid (((Below.refl _ _).alloc (Nat.le_refl _) _).trans (b1.mono (by simp)))
    clear b1
    go_wp2
    go_ret
    exact ⟨rfl, B1.out⟩
end Go.Proofs.YtpjgmfkjpkeohaaDoor
