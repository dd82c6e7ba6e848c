/- The law FnExactGustsOf. No statement is proved here. -/
import Derived.Test.YteligfbbofgonabGus
import Derived.Test.YteligfbbofgonabMarkR
namespace Go.Proofs.Yteligfbbofgonab
open Go Go.RowKit
set_option maxHeartbeats 16000000 in
set_option maxRecDepth 100000 in
theorem law_FnExactGustsOf (d0 h0 s0 k0 : Nat) (u1 : Nat) (u2 : Int) (u3 : Nat) (u4 : Nat) (u5 : Int) (w : World) (_hd0 : d0 < words .f32) (_hh0 : h0 < words .f32) (_hs0 : s0 < words .f32) (_hk0 : k0 < words .f32) (_hu1 : u1 < words .f32) (hu2 : (Lit.int .i64 u2).wf = true) (_hu3 : u3 < words .f32) (_hu4 : u4 < words .f32) (hu5 : (Lit.int .i64 u5).wf = true) :
    Calls Try.prog 13 #[.agg #[.float .f32 d0, .float .f32 h0, .float .f32 s0, .float .f32 k0], .float .f32 u1, .int .i64 u2, .float .f32 u3, .float .f32 u4, .int .i64 u5] w fun e w' => e = .returned (.bool true) ∧ Below w.heap.size w w' := by
  have HU2 := Lib.hid hu2
  clear hu2
  have HU5 := Lib.hid hu5
  clear hu5
  have HF : Hid ((gusL d0 h0 s0 k0 u1 u2 u3 u4 u5).length ≤ 1048576) := Lib.hid (gusL_few d0 h0 s0 k0 u1 u2 u3 u4 u5)
  obtain ⟨w0, hw0⟩ : ∃ x, x = (w.alloc (.cells #[.float .f32 d0, .float .f32 h0, .float .f32 s0, .float .f32 k0] 56)) := ⟨_, rfl⟩
  have B0 : Hid (Below w.heap.size w w0) := Lib.hid (by rw [hw0]; exact (Below.refl _ _).alloc (Nat.le_refl _) _)
  have Z0 : Hid (w0.heap.size = w.heap.size + 1) := Lib.hid (by rw [hw0]; simp)
  have K0 : Hid (BlkL w0 (w.heap.size) [.float .f32 d0, .float .f32 h0, .float .f32 s0, .float .f32 k0]) := Lib.hid (by rw [hw0]; exact blkL_at w #[.float .f32 d0, .float .f32 h0, .float .f32 s0, .float .f32 k0] 56 rfl)
  go_enter Try.func13, Try.ntmps13
  go_wp2_with fail
  rw [← hw0]
  clear hw0
  obtain ⟨K0x0, K0x1, K0x2, K0x3⟩ := K0.out.four
  go_wp2_with fail
  refine (l_toAir d0 h0 s0 k0 _).mono ?_
  rintro e wd1 ⟨rfl, b⟩
  have B1 : Hid (Below w.heap.size w wd1) := Lib.hid (below_of B0.out B0.out.size b)
  have Z1 : Hid (w0.heap.size ≤ wd1.heap.size) := Lib.hid b.size
  have K0_1 : Hid (BlkL wd1 (w.heap.size) [.float .f32 d0, .float .f32 h0, .float .f32 s0, .float .f32 k0]) := Lib.hid (K0.out.below b)
  clear K0x0 K0x1 K0x2 K0x3
  clear K0
  clear b
  obtain ⟨K0x0, K0x1, K0x2, K0x3⟩ := K0_1.out.four
  go_wp2_with fail
  refine (s_GustsOf d0 h0 s0 k0 u1 u2 u3 u4 u5 _ HU2.out HU5.out).mono ?_
  rintro e wd2 ⟨cR1, cc1, cg1, rfl, ho, b⟩
  have B2 : Hid (Below w.heap.size w wd2) := Lib.hid (below_of B1.out B1.out.size b)
  have Z2 : Hid (wd1.heap.size ≤ wd2.heap.size) := Lib.hid b.size
  have K0_2 : Hid (BlkL wd2 (w.heap.size) [.float .f32 d0, .float .f32 h0, .float .f32 s0, .float .f32 k0]) := Lib.hid (K0_1.out.below b)
  clear K0x0 K0x1 K0x2 K0x3
  clear K0_1
  have Xc : Hid (OwnO wd2 wd1.heap.size cR1 cg1 (gusL d0 h0 s0 k0 u1 u2 u3 u4 u5)) := Lib.hid (ho)
  have Xcbd := Xc
  clear ho
  clear b
  obtain ⟨K0x0, K0x1, K0x2, K0x3⟩ := K0_2.out.four
  go_wp2_with fail
  refine (l_toAir d0 h0 s0 k0 _).mono ?_
  rintro e wd3 ⟨rfl, b⟩
  have B3 : Hid (Below w.heap.size w wd3) := Lib.hid (below_of B2.out B2.out.size b)
  have Z3 : Hid (wd2.heap.size ≤ wd3.heap.size) := Lib.hid b.size
  have K0_3 : Hid (BlkL wd3 (w.heap.size) [.float .f32 d0, .float .f32 h0, .float .f32 s0, .float .f32 k0]) := Lib.hid (K0_2.out.below b)
  have Xc_1 : Hid (OwnO wd3 wd1.heap.size cR1 cg1 (gusL d0 h0 s0 k0 u1 u2 u3 u4 u5)) := Lib.hid (Xc.out.below b)
  clear K0x0 K0x1 K0x2 K0x3
  clear K0_2 Xc
  clear b
  obtain ⟨K0x0, K0x1, K0x2, K0x3⟩ := K0_3.out.four
  go_wp2_with fail
  refine (i_GustsOf d0 h0 s0 k0 u1 u2 u3 u4 u5 _ HU2.out HU5.out).mono ?_
  rintro e wd4 ⟨gR1, gc1, gg1, rfl, ho, b⟩
  have B4 : Hid (Below w.heap.size w wd4) := Lib.hid (below_of B3.out B3.out.size b)
  have Z4 : Hid (wd3.heap.size ≤ wd4.heap.size) := Lib.hid b.size
  have K0_4 : Hid (BlkL wd4 (w.heap.size) [.float .f32 d0, .float .f32 h0, .float .f32 s0, .float .f32 k0]) := Lib.hid (K0_3.out.below b)
  have Xc_2 : Hid (OwnO wd4 wd1.heap.size cR1 cg1 (gusL d0 h0 s0 k0 u1 u2 u3 u4 u5)) := Lib.hid (Xc_1.out.below b)
  clear K0x0 K0x1 K0x2 K0x3
  clear K0_3 Xc_1
  have Xg : Hid (OwnO wd4 wd3.heap.size gR1 gg1 (gusL d0 h0 s0 k0 u1 u2 u3 u4 u5)) := Lib.hid (ho)
  have Xgbd := Xg
  clear ho
  clear b
  obtain ⟨K0x0, K0x1, K0x2, K0x3⟩ := K0_4.out.four
  go_wp2_with fail
  refine (l_eqF32 _ _ _ _ (gusL d0 h0 s0 k0 u1 u2 u3 u4 u5) _ Xg.out.fl Xc_2.out.fl HF.out).mono ?_
  rintro e wd5 ⟨nq, rfl, hw⟩
  have b : Below wd4.heap.size wd4 wd5 := by rw [hw]; exact below_draws (Below.refl _ _) _
  clear hw
  have B5 : Hid (Below w.heap.size w wd5) := Lib.hid (below_of B4.out B4.out.size b)
  have Z5 : Hid (wd4.heap.size ≤ wd5.heap.size) := Lib.hid b.size
  have K0_5 : Hid (BlkL wd5 (w.heap.size) [.float .f32 d0, .float .f32 h0, .float .f32 s0, .float .f32 k0]) := Lib.hid (K0_4.out.below b)
  have Xc_3 : Hid (OwnO wd5 wd1.heap.size cR1 cg1 (gusL d0 h0 s0 k0 u1 u2 u3 u4 u5)) := Lib.hid (Xc_2.out.below b)
  have Xg_1 : Hid (OwnO wd5 wd3.heap.size gR1 gg1 (gusL d0 h0 s0 k0 u1 u2 u3 u4 u5)) := Lib.hid (Xg.out.below b)
  clear K0x0 K0x1 K0x2 K0x3
  clear K0_4 Xc_2 Xg
  clear b
  obtain ⟨K0x0, K0x1, K0x2, K0x3⟩ := K0_5.out.four
  go_wp2_with fail
  refine (l_markF32 _ _ _ 1 (gusL d0 h0 s0 k0 u1 u2 u3 u4 u5) _ (Xg_1.out).a HF.out (by omega) _ rfl).mono ?_
  rintro e wd6 ⟨rfl, om, t⟩
  have B6 : Hid (Below w.heap.size w wd6) := Lib.hid (t.2.2.2 w B5.out (by intro b hh; have h1 := Xgbd.out.bd hh; have := Z0.out; have := Z1.out; have := Z2.out; have := Z3.out; have := Z4.out; have := Z5.out; omega))
  have Z6 : Hid (wd5.heap.size ≤ wd6.heap.size) := Lib.hid t.1
  have K0_6 : Hid (BlkL wd6 (w.heap.size) [.float .f32 d0, .float .f32 h0, .float .f32 s0, .float .f32 k0]) := Lib.hid (K0_5.out.turnS t (by intro hh; have h1 := Xgbd.out.bd hh; have := Z0.out; have := Z1.out; have := Z2.out; have := Z3.out; have := Z4.out; have := Z5.out; omega))
  have Xc_4 : Hid (OwnO wd6 wd1.heap.size cR1 cg1 (gusL d0 h0 s0 k0 u1 u2 u3 u4 u5)) := Lib.hid (Xc_3.out.turnS t (by intro c hc hh; have h1 := Xgbd.out.bd hh; have h2 := Xcbd.out.bd hc; have := Z0.out; have := Z1.out; have := Z2.out; have := Z3.out; have := Z4.out; have := Z5.out; omega))
  have XM : Hid (OwnO wd6 wd3.heap.size gR1 gg1 (marks 1 (gusL d0 h0 s0 k0 u1 u2 u3 u4 u5).length)) := Lib.hid (OwnO.mk' Xg_1.out (marks_length _ _) om)
  clear K0x0 K0x1 K0x2 K0x3
  clear K0_5 Xc_3
  clear t om
  have hm : (0 : Int) ≤ ((1 : Nat) : Int) + ((gusL d0 h0 s0 k0 u1 u2 u3 u4 u5).length : Int) := by omega
  obtain ⟨K0x0, K0x1, K0x2, K0x3⟩ := K0_6.out.four
  go_wp2_with fail
  refine (l_heldF32 _ _ _ 1 _ _ (XM.out).a HF.out (by omega) _ rfl).mono ?_
  rintro e wd7 ⟨nq, rfl, hw⟩
  have b : Below wd6.heap.size wd6 wd7 := by rw [hw]; exact below_draws (Below.refl _ _) _
  clear hw
  have B7 : Hid (Below w.heap.size w wd7) := Lib.hid (below_of B6.out B6.out.size b)
  have Z7 : Hid (wd6.heap.size ≤ wd7.heap.size) := Lib.hid b.size
  have K0_7 : Hid (BlkL wd7 (w.heap.size) [.float .f32 d0, .float .f32 h0, .float .f32 s0, .float .f32 k0]) := Lib.hid (K0_6.out.below b)
  have Xc_5 : Hid (OwnO wd7 wd1.heap.size cR1 cg1 (gusL d0 h0 s0 k0 u1 u2 u3 u4 u5)) := Lib.hid (Xc_4.out.below b)
  have XM_1 : Hid (OwnO wd7 wd3.heap.size gR1 gg1 (marks 1 (gusL d0 h0 s0 k0 u1 u2 u3 u4 u5).length)) := Lib.hid (XM.out.below b)
  clear K0x0 K0x1 K0x2 K0x3
  clear K0_6 Xc_4 XM
  clear b
  obtain ⟨K0x0, K0x1, K0x2, K0x3⟩ := K0_7.out.four
  go_wp2_with fail
  refine (l_toAir d0 h0 s0 k0 _).mono ?_
  rintro e wd8 ⟨rfl, b⟩
  have B8 : Hid (Below w.heap.size w wd8) := Lib.hid (below_of B7.out B7.out.size b)
  have Z8 : Hid (wd7.heap.size ≤ wd8.heap.size) := Lib.hid b.size
  have K0_8 : Hid (BlkL wd8 (w.heap.size) [.float .f32 d0, .float .f32 h0, .float .f32 s0, .float .f32 k0]) := Lib.hid (K0_7.out.below b)
  have Xc_6 : Hid (OwnO wd8 wd1.heap.size cR1 cg1 (gusL d0 h0 s0 k0 u1 u2 u3 u4 u5)) := Lib.hid (Xc_5.out.below b)
  have XM_2 : Hid (OwnO wd8 wd3.heap.size gR1 gg1 (marks 1 (gusL d0 h0 s0 k0 u1 u2 u3 u4 u5).length)) := Lib.hid (XM_1.out.below b)
  clear K0x0 K0x1 K0x2 K0x3
  clear K0_7 Xc_5 XM_1
  clear b
  obtain ⟨K0x0, K0x1, K0x2, K0x3⟩ := K0_8.out.four
  go_wp2_with fail
  refine (i_GustsOf d0 h0 s0 k0 u1 u2 u3 u4 u5 _ HU2.out HU5.out).mono ?_
  rintro e wd9 ⟨hR1, hc1, hg1, rfl, ho, b⟩
  have B9 : Hid (Below w.heap.size w wd9) := Lib.hid (below_of B8.out B8.out.size b)
  have Z9 : Hid (wd8.heap.size ≤ wd9.heap.size) := Lib.hid b.size
  have K0_9 : Hid (BlkL wd9 (w.heap.size) [.float .f32 d0, .float .f32 h0, .float .f32 s0, .float .f32 k0]) := Lib.hid (K0_8.out.below b)
  have Xc_7 : Hid (OwnO wd9 wd1.heap.size cR1 cg1 (gusL d0 h0 s0 k0 u1 u2 u3 u4 u5)) := Lib.hid (Xc_6.out.below b)
  have XM_3 : Hid (OwnO wd9 wd3.heap.size gR1 gg1 (marks 1 (gusL d0 h0 s0 k0 u1 u2 u3 u4 u5).length)) := Lib.hid (XM_2.out.below b)
  clear K0x0 K0x1 K0x2 K0x3
  clear K0_8 Xc_6 XM_2
  have Xh : Hid (OwnO wd9 wd8.heap.size hR1 hg1 (gusL d0 h0 s0 k0 u1 u2 u3 u4 u5)) := Lib.hid (ho)
  have Xhbd := Xh
  clear ho
  clear b
  obtain ⟨K0x0, K0x1, K0x2, K0x3⟩ := K0_9.out.four
  go_wp2_with fail
  refine (l_eqF32 _ _ _ _ (gusL d0 h0 s0 k0 u1 u2 u3 u4 u5) _ Xh.out.fl Xc_7.out.fl HF.out).mono ?_
  rintro e wd10 ⟨nq, rfl, hw⟩
  have b : Below wd9.heap.size wd9 wd10 := by rw [hw]; exact below_draws (Below.refl _ _) _
  clear hw
  have B10 : Hid (Below w.heap.size w wd10) := Lib.hid (below_of B9.out B9.out.size b)
  have Z10 : Hid (wd9.heap.size ≤ wd10.heap.size) := Lib.hid b.size
  have K0_10 : Hid (BlkL wd10 (w.heap.size) [.float .f32 d0, .float .f32 h0, .float .f32 s0, .float .f32 k0]) := Lib.hid (K0_9.out.below b)
  have Xc_8 : Hid (OwnO wd10 wd1.heap.size cR1 cg1 (gusL d0 h0 s0 k0 u1 u2 u3 u4 u5)) := Lib.hid (Xc_7.out.below b)
  have XM_4 : Hid (OwnO wd10 wd3.heap.size gR1 gg1 (marks 1 (gusL d0 h0 s0 k0 u1 u2 u3 u4 u5).length)) := Lib.hid (XM_3.out.below b)
  have Xh_1 : Hid (OwnO wd10 wd8.heap.size hR1 hg1 (gusL d0 h0 s0 k0 u1 u2 u3 u4 u5)) := Lib.hid (Xh.out.below b)
  clear K0x0 K0x1 K0x2 K0x3
  clear K0_9 Xc_7 XM_3 Xh
  clear b
  obtain ⟨K0x0, K0x1, K0x2, K0x3⟩ := K0_10.out.four
  go_wp2_with fail
  refine (l_heldF32 _ _ _ 1 _ _ (XM_4.out).a HF.out (by omega) _ rfl).mono ?_
  rintro e wd11 ⟨nq, rfl, hw⟩
  have b : Below wd10.heap.size wd10 wd11 := by rw [hw]; exact below_draws (Below.refl _ _) _
  clear hw
  have B11 : Hid (Below w.heap.size w wd11) := Lib.hid (below_of B10.out B10.out.size b)
  have Z11 : Hid (wd10.heap.size ≤ wd11.heap.size) := Lib.hid b.size
  have K0_11 : Hid (BlkL wd11 (w.heap.size) [.float .f32 d0, .float .f32 h0, .float .f32 s0, .float .f32 k0]) := Lib.hid (K0_10.out.below b)
  have Xc_9 : Hid (OwnO wd11 wd1.heap.size cR1 cg1 (gusL d0 h0 s0 k0 u1 u2 u3 u4 u5)) := Lib.hid (Xc_8.out.below b)
  have XM_5 : Hid (OwnO wd11 wd3.heap.size gR1 gg1 (marks 1 (gusL d0 h0 s0 k0 u1 u2 u3 u4 u5).length)) := Lib.hid (XM_4.out.below b)
  have Xh_2 : Hid (OwnO wd11 wd8.heap.size hR1 hg1 (gusL d0 h0 s0 k0 u1 u2 u3 u4 u5)) := Lib.hid (Xh_1.out.below b)
  clear K0x0 K0x1 K0x2 K0x3
  clear K0_10 Xc_8 XM_4 Xh_1
  clear b
  obtain ⟨K0x0, K0x1, K0x2, K0x3⟩ := K0_11.out.four
  go_wp2
  go_ret
  exact ⟨rfl, B11.out⟩
end Go.Proofs.Yteligfbbofgonab
