/- The power of a wind in a disc: the whole program. No statement is proved here. -/
import Derived.Test.YtpmjikchlofebaaDpJ
namespace Go.Proofs.Ytpmjikchlofebaa
open Go Go.RowKit
set_option maxHeartbeats 16000000 in
set_option maxRecDepth 100000 in
theorem i_DiscPower (d ha s sh ht rd : Nat) (p : Int) (w : World) :
    Calls Try.prog 12 #[.agg #[.float .f32 d, .float .f32 ha, .float .f32 s, .float .f32 sh], .float .f32 ht, .float .f32 rd, .int .i64 p] w fun e w' => ∃ r, e = .returned (.tuple #[.float .f32 r, .bool (dO d ha s sh ht rd p)]) ∧ canon .f32 r = dR d ha s sh ht rd p ∧ Below w.heap.size w w' := by
  have HNo : ∀ W, Hid (dC d ha s sh ht rd p = false → Below w.heap.size w W → ∃ r, Ending.returned (.tuple #[.float .f32 0, .bool false]) = .returned (.tuple #[.float .f32 r, .bool (dO d ha s sh ht rd p)]) ∧ canon .f32 r = dR d ha s sh ht rd p ∧ Below w.heap.size w W) := fun W => Lib.hid (fun hc hb => ⟨0, by rw [dO_no hc], by rw [dR_no hc]; exact canon_zero, hb⟩)
  obtain ⟨w0, hw0⟩ : ∃ z, z = (((w.alloc (.cells #[.float .f32 d, .float .f32 ha, .float .f32 s, .float .f32 sh] 27)).alloc (.cells #[.float .f32 ht] 22)).alloc (.cells #[.float .f32 rd] 22)).alloc (.cells #[.int .i64 p] 2) := ⟨_, rfl⟩
  have B0 : Hid (Below w.heap.size w w0) := Lib.hid (by rw [hw0]; exact ((((Below.refl _ _).alloc (Nat.le_refl _) _).alloc (by simp) _).alloc (by simp <;> omega) _).alloc (by simp <;> omega) _)
  have Z0 : Hid (w0.heap.size = w.heap.size + 4) := Lib.hid (by rw [hw0]; simp)
  have KA : Hid (BlkL w0 w.heap.size [.float .f32 d, .float .f32 ha, .float .f32 s, .float .f32 sh]) := Lib.hid (by rw [hw0]; exact (((blkL_at w #[.float .f32 d, .float .f32 ha, .float .f32 s, .float .f32 sh] _ rfl).alloc _).alloc _).alloc _)
  have KH : Hid (BlkL w0 (w.heap.size + 1) [.float .f32 ht]) := Lib.hid (by rw [hw0]; exact ((blkL_at (w.alloc _) #[.float .f32 ht] _ (by simp)).alloc _).alloc _)
  have KR : Hid (BlkL w0 (w.heap.size + 1 + 1) [.float .f32 rd]) := Lib.hid (by rw [hw0]; exact (blkL_at ((w.alloc _).alloc _) #[.float .f32 rd] _ (by simp)).alloc _)
  have KP : Hid (BlkL w0 (w.heap.size + 1 + 1 + 1) [.int .i64 p]) := Lib.hid (by rw [hw0]; exact blkL_at (((w.alloc _).alloc _).alloc _) #[.int .i64 p] _ (by simp))
  have HCL : Hid (∀ W, Below w0.heap.size w0 W → W.cell? ⟨w.heap.size, 0, none⟩ = some (.float .f32 d) ∧ W.cell? ⟨w.heap.size, 1, none⟩ = some (.float .f32 ha) ∧ W.cell? ⟨w.heap.size, 2, none⟩ = some (.float .f32 s) ∧ W.cell? ⟨w.heap.size, 3, none⟩ = some (.float .f32 sh) ∧ W.cell? ⟨w.heap.size + 1, 0, none⟩ = some (.float .f32 ht) ∧ W.cell? ⟨w.heap.size + 1 + 1, 0, none⟩ = some (.float .f32 rd) ∧ W.cell? ⟨w.heap.size + 1 + 1 + 1, 0, none⟩ = some (.int .i64 p)) := Lib.hid (fun W hb => by
    have a := KA.out.below hb
    have b := KH.out.below hb
    have c := KR.out.below hb
    have e := KP.out.below hb
    exact ⟨(a.2 0 _ rfl).1, (a.2 1 _ rfl).1, (a.2 2 _ rfl).1, (a.2 3 _ rfl).1, (b.2 0 _ rfl).1, (c.2 0 _ rfl).1, (e.2 0 _ rfl).1⟩)
  obtain ⟨a0, a1, a2, a3, a4, a5, a6⟩ := HCL.out w0 (Below.refl _ _)
  clear KA KH KR KP
  go_enter Try.func12, Try.ntmps12
  go_upto_region 1 with fail
  rw [← hw0]
  clear hw0
  go_wp2_with fail
  refine (i_ValidAir d ha s sh _).mono ?_
  rintro e w1 ⟨he, b1⟩
  subst he
  have HB1 := Lib.hid b1
  clear a0 a1 a2 a3 a4 a5 a6 b1
  cases va : airV d ha s sh
  · have HN := Lib.hid (dC_a (ht := ht) (rd := rd) (p := p) va)
    clear va
    go_wp2
    go_ret2
    exact (HNo _).out HN.out (below_of B0.out B0.out.size HB1.out)
  have HVA := Lib.hid va
  clear va
  obtain ⟨a0, a1, a2, a3, a4, a5, a6⟩ := HCL.out w1 HB1.out
  go_wp2_with fail
  refine (i_notFinite ht _).mono ?_
  rintro e w2 ⟨n2, he, hw2⟩
  subst he
  have HB2 : Hid (Below w0.heap.size w0 w2) := Lib.hid (by rw [hw2]; exact below_draws HB1.out _)
  clear hw2 HB1 a0 a1 a2 a3 a4 a5 a6
  cases vh : fin .f32 ht
  · have HN := Lib.hid (dC_h (d := d) (ha := ha) (s := s) (sh := sh) (rd := rd) (p := p) vh)
    clear vh
    go_wp2
    go_ret2
    exact (HNo _).out HN.out (below_of B0.out B0.out.size HB2.out)
  have HVH := Lib.hid vh
  clear vh
  obtain ⟨a0, a1, a2, a3, a4, a5, a6⟩ := HCL.out w2 HB2.out
  go_wp2_with fail
  refine (i_isPositive rd _).mono ?_
  rintro e w3 ⟨n3, he, hw3⟩
  subst he
  have HB3 : Hid (Below w0.heap.size w0 w3) := Lib.hid (by rw [hw3]; exact below_draws HB2.out _)
  clear hw3 HB2 a0 a1 a2 a3 a4 a5 a6
  cases vr : posi rd
  · have HN := Lib.hid (dC_r (d := d) (ha := ha) (s := s) (sh := sh) (ht := ht) (p := p) vr)
    clear vr
    go_wp2
    go_ret2
    exact (HNo _).out HN.out (below_of B0.out B0.out.size HB3.out)
  have HVR := Lib.hid vr
  clear vr
  obtain ⟨a0, a1, a2, a3, a4, a5, a6⟩ := HCL.out w3 HB3.out
  cases vl : lss32 ht rd
  rotate_left
  · have HN := Lib.hid (dC_l (d := d) (ha := ha) (s := s) (sh := sh) (p := p) vl)
    unfold lss32 at vl
    go_wp2
    go_ret2
    exact (HNo _).out HN.out (below_of B0.out B0.out.size HB3.out)
  have HVL := Lib.hid vl
  unfold lss32 at vl
  by_cases hp : 1 ≤ p ∧ p ≤ 64
  rotate_left
  · have HN := Lib.hid (dC_p (d := d) (ha := ha) (s := s) (sh := sh) (ht := ht) (rd := rd) hp)
    by_cases h1 : p < 1
    · clear hp
      go_wp2
      go_ret2
      exact (HNo _).out HN.out (below_of B0.out B0.out.size HB3.out)
    · have h2 : 64 < p := by omega
      clear hp
      go_wp2
      go_ret2
      exact (HNo _).out HN.out (below_of B0.out B0.out.size HB3.out)
  have HC := Lib.hid (dC_yes (d := d) (ha := ha) (s := s) (sh := sh) HVA.out HVR.out HVH.out HVL.out hp)
  obtain ⟨n, rfl⟩ : ∃ n : Nat, p = n := ⟨p.toNat, by omega⟩
  have hp1 : ¬ (n : Int) < 1 := by omega
  have hp2 : ¬ (64 : Int) < (n : Int) := by omega
  have HNN : Hid (1 ≤ n ∧ n ≤ 64) := Lib.hid (by omega)
  have HO : Hid (dO d ha s sh ht rd (n : Int) = fin .f32 (dQ d ha s sh ht rd n)) := Lib.hid (dO_yes HC.out)
  have HR : Hid (dR d ha s sh ht rd (n : Int) = onlyN (dQ d ha s sh ht rd n)) := Lib.hid (dR_yes HC.out)
  have HD1 := Lib.hid (i_listOf_d1 (.pointer (some ⟨w.heap.size + 1 + 1 + 1, 0, none⟩)) (dX n) n w3 (by omega) (fun k hk W hW => i_dp1 k n _ W hk HNN.out.2 (HCL.out W (below_of HB3.out HB3.out.size hW)).2.2.2.2.2.2))
  clear hp HNo
  go_wp2_with fail
  refine HD1.out.mono ?_
  rintro e w4 ⟨A4, xs, he, hl4, hq4, b4, ha4, ho4⟩
  subst he
  subst ha4
  have HB4 : Hid (Below w0.heap.size w0 w4) := Lib.hid (below_of HB3.out HB3.out.size b4)
  have HX := Lib.hid ho4
  have HXQ := Lib.hid hq4
  have HXL := Lib.hid hl4
  obtain ⟨g, hg⟩ : ∃ z, z = w3.heap.size := ⟨_, rfl⟩
  rw [← hg] at HX ⊢
  clear hg HD1 b4 hl4 hq4 ho4 a0 a1 a2 a3 a4 a5 a6
  obtain ⟨w5, hw5⟩ : ∃ z, z = w4.alloc (.cells #[.slice (some ⟨g, 0, none⟩) n n] 32) := ⟨_, rfl⟩
  obtain ⟨Bx, hBx⟩ : ∃ z, z = w4.heap.size := ⟨_, rfl⟩
  have B45 : Hid (Below w4.heap.size w4 w5) := Lib.hid (by rw [hw5]; exact (Below.refl _ _).alloc (Nat.le_refl _) _)
  have KX : Hid (w5.cell? ⟨Bx, 0, none⟩ = some (.slice (some ⟨g, 0, none⟩) n n)) := Lib.hid (by rw [hw5, hBx]; exact ((blkL_at w4 #[.slice (some ⟨g, 0, none⟩) n n] 32 rfl).2 0 _ rfl).1)
  have KXL : Hid (Bx < w5.heap.size) := Lib.hid (by rw [hw5, hBx]; simp)
  have HB5 : Hid (Below w0.heap.size w0 w5) := Lib.hid (below_of HB4.out HB4.out.size B45.out)
  have HX5 : Hid (Own w5 g xs) := Lib.hid (HX.out.below B45.out)
  have HBXL : Hid (∀ W, Below w5.heap.size w5 W → W.cell? ⟨Bx, 0, none⟩ = some (.slice (some ⟨g, 0, none⟩) n n) ∧ ∀ k, k < n → W.cell? ⟨g, 0 + k, none⟩ = some (.float .f32 (dX n k))) := Lib.hid (fun W hb => ⟨by rw [hb.cell (p := ⟨Bx, 0, none⟩) KXL.out]; exact KX.out, fun k hk => by
    rw [Nat.zero_add, hb.cell (p := ⟨g, k, none⟩) HX5.out.1, (HX5.out.2 k (by rw [HXL.out]; exact hk)).1, HXQ.out k hk]⟩)
  go_upto_region 4 with fail
  rw [← hw5, ← hBx]
  clear hw5 hBx B45 HX
  obtain ⟨a0, a1, a2, a3, a4, a5, a6⟩ := HCL.out w5 HB5.out
  have HD2 := Lib.hid (i_listOf_d2 (.pointer (some ⟨Bx, 0, none⟩)) (dW n) n w5 (by have := HNN.out; omega) (fun k hk W hW => by
    obtain ⟨c1, c2⟩ := HBXL.out W hW
    refine (i_dp2 k n Bx g 0 n W hk HNN.out.2 c1 (c2 k hk)).mono ?_
    rintro e w' ⟨r, rfl, hr, nn, rfl⟩
    exact ⟨r, rfl, hr, below_draws (Below.refl _ _) _⟩))
  go_wp2_with fail
  refine HD2.out.mono ?_
  rintro e w6 ⟨A6, ws, he, hl6, hf6, hq6, b6, -, -⟩
  subst he
  have HB56 : Hid (Below w5.heap.size w5 w6) := Lib.hid b6
  have HB6 : Hid (Below w0.heap.size w0 w6) := Lib.hid (below_of HB5.out HB5.out.size b6)
  have HW := Lib.hid hf6
  have HWQ := Lib.hid hq6
  have HWL := Lib.hid hl6
  clear HD2 b6 hf6 hq6 hl6 a0 a1 a2 a3 a4 a5 a6
  obtain ⟨a0, a1, a2, a3, a4, a5, a6⟩ := HCL.out w6 HB6.out
  have HD3 := Lib.hid (i_listOf_d3 (.pointer (some ⟨w.heap.size + 1, 0, none⟩)) (.pointer (some ⟨w.heap.size + 1 + 1, 0, none⟩)) (.pointer (some ⟨Bx, 0, none⟩)) (dZ ht rd n) n w6 (by have := HNN.out; omega) (fun k hk W hW => by
    obtain ⟨c1, c2⟩ := HBXL.out W (below_of HB56.out HB56.out.size hW)
    have cc := HCL.out W (below_of HB6.out HB6.out.size hW)
    refine (i_dp3 k n _ _ Bx g 0 n ht rd W hk HNN.out.2 cc.2.2.2.2.1 cc.2.2.2.2.2.1 c1 (c2 k hk)).mono ?_
    rintro e w' ⟨r, rfl, hr, nn, rfl⟩
    exact ⟨r, rfl, hr, below_draws (Below.refl _ _) _⟩))
  go_wp2_with fail
  refine HD3.out.mono ?_
  rintro e w7 ⟨A7, zs, he, hl7, hf7, hq7, b7, -, -⟩
  subst he
  have HB7 : Hid (Below w0.heap.size w0 w7) := Lib.hid (below_of HB6.out HB6.out.size b7)
  have HW7 := Lib.hid (HW.out.below b7)
  have HPW := Lib.hid (i_powersAtHeights d ha s sh ht rd n A7 n zs w7 hf7 hl7 HNN.out.2 hq7)
  rw [hl7] at HPW
  clear HD3 b7 hf7 hq7 hl7 HW HB56 HBXL HX5 KX KXL HXQ HXL a0 a1 a2 a3 a4 a5 a6
  obtain ⟨a0, a1, a2, a3, a4, a5, a6⟩ := HCL.out w7 HB7.out
  go_wp2_with fail
  refine HPW.out.mono ?_
  rintro e w8 ⟨A8, c8, l, bb, he, hy, hno, hf8, b8⟩
  subst he
  have HB8 : Hid (Below w0.heap.size w0 w8) := Lib.hid (below_of HB7.out HB7.out.size b8)
  have HW8 := Lib.hid (HW7.out.below b8)
  have HL8 := Lib.hid hf8
  have HY := Lib.hid hy
  have HNO := Lib.hid hno
  clear HPW b8 hf8 hy hno HW7 a0 a1 a2 a3 a4 a5 a6
  cases bb
  · obtain ⟨k, hk, hkd⟩ := HNO.out rfl
    have HQF := Lib.hid (dQ_no HVA.out HVR.out HVH.out HVL.out hk HNN.out.2 hkd)
    clear HY HNO hkd hk
    go_wp2
    go_ret2
    exact ⟨0, by rw [HO.out, HQF.out]; rfl, by rw [HR.out]; unfold onlyN; rw [HQF.out]; exact canon_zero, below_of B0.out B0.out.size HB8.out⟩
  · obtain ⟨hll, hlq⟩ := HY.out rfl
    have HMR : Hid (mrV ws l = dQ d ha s sh ht rd n) := Lib.hid (mrV_dQ HWL.out HWQ.out hlq)
    have HWM := Lib.hid (i_weightedMean A6 A8 n c8 ws l w8 HW8.out HL8.out (by rw [HWL.out]; have := HNN.out; omega) (by rw [hll, HWL.out]))
    have HLL := Lib.hid hll
    rw [HWL.out, hll] at HWM
    rw [hll]
    clear HY HNO hll hlq
    go_wp2_with fail
    refine HWM.out.mono ?_
    rintro e w9 ⟨r, he, hr, b9⟩
    subst he
    have HR9 := Lib.hid hr
    have HB9 : Hid (Below w.heap.size w w9) := Lib.hid (below_of (below_of B0.out B0.out.size HB8.out) (below_of B0.out B0.out.size HB8.out).size b9)
    clear hr b9 HWM
    rw [HMR.out]
    go_wp2
    go_ret2
    exact ⟨r, by rw [HO.out]; rfl, by rw [HR.out, HR9.out, HMR.out], HB9.out⟩
end Go.Proofs.Ytpmjikchlofebaa
