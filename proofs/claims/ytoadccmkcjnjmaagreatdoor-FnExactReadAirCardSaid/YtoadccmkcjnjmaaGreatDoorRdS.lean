/- Air out of a text: the document's side. No statement is proved here. -/
import Derived.Test.YtoadccmkcjnjmaaGreatDoorRdB
import Derived.Test.YtoadccmkcjnjmaaGreatDoorNumS
namespace Go.Proofs.YtoadccmkcjnjmaaGreatDoor
open Go Go.RowKit
set_option maxHeartbeats 8000000 in
theorem s_l08ReadAir_no (s : ByteArray) (w : World) (hs : s.size ≤ 1048576) (h : nmO s = false) :
    Calls Tryz.prog 29 #[.string s] w fun e w' => e = .returned (.tuple #[.agg #[.float .f32 0, .float .f32 0, .float .f32 0, .float .f32 0], .bool false]) ∧ Below w.heap.size w w' := by
  obtain ⟨w0, hw0⟩ : ∃ z, z = w.alloc (.cells #[.float .f32 0, .float .f32 0, .float .f32 0, .float .f32 0] 24) := ⟨_, rfl⟩
  have b0 : Below w.heap.size w w0 := by rw [hw0]; exact (Below.refl _ _).alloc (Nat.le_refl _) _
  have K0 : Hid (BlkL w0 w.heap.size [.float .f32 0, .float .f32 0, .float .f32 0, .float .f32 0]) := Lib.hid (by rw [hw0]; exact blkL_at w #[.float .f32 0, .float .f32 0, .float .f32 0, .float .f32 0] _ rfl)
  have B0 := Lib.hid b0
  have HC := Lib.hid (s_l01NRead s w0 hs)
  rw [h] at HC
  clear hs h b0
  go_enter Tryz.func29, Tryz.ntmps29
  go_upto_region 1 with fail
  rw [← hw0]
  clear hw0
  go_wp2_with fail
  refine HC.out.mono ?_
  rintro e w1 ⟨R1, c1, g1, rfl, ho, b1⟩
  have K1 := Lib.hid (K0.out.below b1)
  have BB := Lib.hid (below_of B0.out B0.out.size b1)
  clear ho b1 K0 B0 HC
  obtain ⟨⟨f0, g0⟩, ⟨f1, g1⟩, ⟨f2, g2⟩, ⟨f3, g3⟩⟩ : (_ ∧ _) ∧ (_ ∧ _) ∧ (_ ∧ _) ∧ (_ ∧ _) := ⟨K1.out.2 0 _ rfl, K1.out.2 1 _ rfl, K1.out.2 2 _ rfl, K1.out.2 3 _ rfl⟩
  go_wp2
  have R := Lib.hid (((((BB.out.setCell (p := ⟨w.heap.size, 0, none⟩) (by simp) (.float .f32 0)).setCell (p := ⟨w.heap.size, 1, none⟩) (by simp) (.float .f32 0)).setCell (p := ⟨w.heap.size, 2, none⟩) (by simp) (.float .f32 0)).setCell (p := ⟨w.heap.size, 3, none⟩) (by simp) (.float .f32 0)))
  have Q := Lib.hid ((((K1.out.set (i := 0) (by simp) (.float .f32 0)).set (i := 1) (by simp) (.float .f32 0)).set (i := 2) (by simp) (.float .f32 0)).set (i := 3) (by simp) (.float .f32 0))
  obtain ⟨c0, c1, c2, c3⟩ := Q.out.four
  refine bodyPost_ret (v := .tuple #[.agg #[.float .f32 0, .float .f32 0, .float .f32 0, .float .f32 0], .bool false]) ?_ rfl ⟨rfl, R.out⟩
  simp [results, Tryz.results29, go_sem, c0, c1, c2, c3]
set_option maxHeartbeats 8000000 in
theorem s_l08ReadAir_len (s : ByteArray) (w : World) (hs : s.size ≤ 1048576) (h : nmO s = true) (hl : (nmL s).length ≠ 4) :
    Calls Tryz.prog 29 #[.string s] w fun e w' => e = .returned (.tuple #[.agg #[.float .f32 0, .float .f32 0, .float .f32 0, .float .f32 0], .bool false]) ∧ Below w.heap.size w w' := by
  obtain ⟨w0, hw0⟩ : ∃ z, z = w.alloc (.cells #[.float .f32 0, .float .f32 0, .float .f32 0, .float .f32 0] 24) := ⟨_, rfl⟩
  have b0 : Below w.heap.size w w0 := by rw [hw0]; exact (Below.refl _ _).alloc (Nat.le_refl _) _
  have K0 : Hid (BlkL w0 w.heap.size [.float .f32 0, .float .f32 0, .float .f32 0, .float .f32 0]) := Lib.hid (by rw [hw0]; exact blkL_at w #[.float .f32 0, .float .f32 0, .float .f32 0, .float .f32 0] _ rfl)
  have B0 := Lib.hid b0
  have HC := Lib.hid (s_l01NRead s w0 hs)
  rw [h] at HC
  clear hs h b0
  generalize nmL s = l at HC hl
  have heq : ((l.length : Int) == 4) = false := beq_eq_false_iff_ne.2 (by omega)
  clear hl
  go_enter Tryz.func29, Tryz.ntmps29
  go_upto_region 1 with fail
  rw [← hw0]
  clear hw0
  go_wp2_with fail
  refine HC.out.mono ?_
  rintro e w1 ⟨R1, c1, g1, rfl, ho, b1⟩
  have K1 := Lib.hid (K0.out.below b1)
  have BB := Lib.hid (below_of B0.out B0.out.size b1)
  clear ho b1 K0 B0 HC
  obtain ⟨⟨f0, g0⟩, ⟨f1, g1⟩, ⟨f2, g2⟩, ⟨f3, g3⟩⟩ : (_ ∧ _) ∧ (_ ∧ _) ∧ (_ ∧ _) ∧ (_ ∧ _) := ⟨K1.out.2 0 _ rfl, K1.out.2 1 _ rfl, K1.out.2 2 _ rfl, K1.out.2 3 _ rfl⟩
  go_wp2
  have R := Lib.hid (((((BB.out.setCell (p := ⟨w.heap.size, 0, none⟩) (by simp) (.float .f32 0)).setCell (p := ⟨w.heap.size, 1, none⟩) (by simp) (.float .f32 0)).setCell (p := ⟨w.heap.size, 2, none⟩) (by simp) (.float .f32 0)).setCell (p := ⟨w.heap.size, 3, none⟩) (by simp) (.float .f32 0)))
  have Q := Lib.hid ((((K1.out.set (i := 0) (by simp) (.float .f32 0)).set (i := 1) (by simp) (.float .f32 0)).set (i := 2) (by simp) (.float .f32 0)).set (i := 3) (by simp) (.float .f32 0))
  obtain ⟨c0, c1, c2, c3⟩ := Q.out.four
  refine bodyPost_ret (v := .tuple #[.agg #[.float .f32 0, .float .f32 0, .float .f32 0, .float .f32 0], .bool false]) ?_ rfl ⟨rfl, R.out⟩
  simp [results, Tryz.results29, go_sem, c0, c1, c2, c3]
set_option maxHeartbeats 8000000 in
theorem s_l08ReadAir_yes (s : ByteArray) (w : World) (hs : s.size ≤ 1048576) (h : nmO s = true) (hl : (nmL s).length = 4) (hv : airV (n4 s 0) (n4 s 1) (n4 s 2) (n4 s 3) = true) :
    Calls Tryz.prog 29 #[.string s] w fun e w' => e = .returned (.tuple #[.agg #[.float .f32 (n4 s 0), .float .f32 (n4 s 1), .float .f32 (n4 s 2), .float .f32 (n4 s 3)], .bool true]) ∧ Below w.heap.size w w' := by
  obtain ⟨w0, hw0⟩ : ∃ z, z = w.alloc (.cells #[.float .f32 0, .float .f32 0, .float .f32 0, .float .f32 0] 24) := ⟨_, rfl⟩
  have b0 : Below w.heap.size w w0 := by rw [hw0]; exact (Below.refl _ _).alloc (Nat.le_refl _) _
  have K0 : Hid (BlkL w0 w.heap.size [.float .f32 0, .float .f32 0, .float .f32 0, .float .f32 0]) := Lib.hid (by rw [hw0]; exact blkL_at w #[.float .f32 0, .float .f32 0, .float .f32 0, .float .f32 0] _ rfl)
  have B0 := Lib.hid b0
  have HC := Lib.hid (s_l01NRead s w0 hs)
  rw [h, hl] at HC
  clear hs h b0
  have HL := Lib.hid hl
  clear hl
  obtain ⟨x0, hx0⟩ : ∃ x, x = n4 s 0 := ⟨_, rfl⟩
  obtain ⟨x1, hx1⟩ : ∃ x, x = n4 s 1 := ⟨_, rfl⟩
  obtain ⟨x2, hx2⟩ : ∃ x, x = n4 s 2 := ⟨_, rfl⟩
  obtain ⟨x3, hx3⟩ : ∃ x, x = n4 s 3 := ⟨_, rfl⟩
  rw [← hx0, ← hx1, ← hx2, ← hx3] at hv ⊢
  have HV := Lib.hid hv
  have HX : Hid (x0 = (nmL s).getD 0 0 ∧ x1 = (nmL s).getD 1 0 ∧ x2 = (nmL s).getD 2 0 ∧ x3 = (nmL s).getD 3 0) := Lib.hid ⟨hx0, hx1, hx2, hx3⟩
  clear hx0 hx1 hx2 hx3 hv
  go_enter Tryz.func29, Tryz.ntmps29
  go_upto_region 1 with fail
  rw [← hw0]
  clear hw0
  go_wp2_with fail
  refine HC.out.mono ?_
  rintro e w1 ⟨R1, c1, g1, rfl, ho, b1⟩
  have K1 := Lib.hid (K0.out.below b1)
  have BB := Lib.hid (below_of B0.out B0.out.size b1)
  have HF := Lib.hid ho.fl
  clear ho b1 HC K0 B0
  obtain ⟨b, off, rfl, hb, h0⟩ := HF.out.at_ (k := 0) (by rw [HL.out]; decide)
  obtain ⟨b', off', e1, hb1, h1⟩ := HF.out.at_ (k := 1) (by rw [HL.out]; decide)
  obtain ⟨b'', off'', e2, hb2, h2⟩ := HF.out.at_ (k := 2) (by rw [HL.out]; decide)
  obtain ⟨b3, off3, e3, hb3, h3⟩ := HF.out.at_ (k := 3) (by rw [HL.out]; decide)
  simp only [Option.some.injEq, Addr.mk.injEq] at e1 e2 e3
  obtain ⟨rfl, rfl, -⟩ := e1
  obtain ⟨rfl, rfl, -⟩ := e2
  obtain ⟨rfl, rfl, -⟩ := e3
  clear hb1 hb2 hb3
  rw [show (nmL s).getD 0 0 = x0 from HX.out.1.symm, Nat.add_zero] at h0
  rw [show (nmL s).getD 1 0 = x1 from HX.out.2.1.symm] at h1
  rw [show (nmL s).getD 2 0 = x2 from HX.out.2.2.1.symm] at h2
  rw [show (nmL s).getD 3 0 = x3 from HX.out.2.2.2.symm] at h3
  go_upto_region 4 with fail
  go_region
  have up : Below w1.heap.size w1 (w1.alloc (.cells #[.float .f32 x0, .float .f32 x1, .float .f32 x2, .float .f32 x3] 24)).drew := ((Below.refl _ _).alloc (Nat.le_refl _) _).drew
  have X1 : Hid (BlkL (w1.alloc (.cells #[.float .f32 x0, .float .f32 x1, .float .f32 x2, .float .f32 x3] 24)).drew w1.heap.size [.float .f32 x0, .float .f32 x1, .float .f32 x2, .float .f32 x3]) := Lib.hid ((blkL_at w1 #[.float .f32 x0, .float .f32 x1, .float .f32 x2, .float .f32 x3] _ rfl).below (Below.refl _ _).drew)
  have K2 := Lib.hid (K1.out.below up)
  have BC := Lib.hid (below_of BB.out BB.out.size up)
  have HC := Lib.hid (s_l04Is x0 x1 x2 x3 _ _ X1.out)
  rw [HV.out] at HC
  clear up K1 BB h0 h1 h2 h3 hb HV HX HF HL
  go_wp2_with fail
  refine HC.out.mono ?_
  rintro e w2 ⟨n, rfl, hw⟩
  generalize (w1.alloc (.cells #[.float .f32 x0, .float .f32 x1, .float .f32 x2, .float .f32 x3] 24)).drew = wa at K2 BC X1 hw
  have un : Below wa.heap.size wa w2 := by rw [hw]; exact below_draws (Below.refl _ _) n
  have X2 := Lib.hid (X1.out.below un)
  have K2 := Lib.hid (K2.out.below un)
  have BC := Lib.hid (below_of BC.out BC.out.size un)
  clear hw un HC X1
  obtain ⟨y0, y1, y2, y3⟩ := X2.out.four
  obtain ⟨⟨f0, g0⟩, ⟨f1, g1⟩, ⟨f2, g2⟩, ⟨f3, g3⟩⟩ : (_ ∧ _) ∧ (_ ∧ _) ∧ (_ ∧ _) ∧ (_ ∧ _) := ⟨K2.out.2 0 _ rfl, K2.out.2 1 _ rfl, K2.out.2 2 _ rfl, K2.out.2 3 _ rfl⟩
  go_wp2
  have R := Lib.hid (((((BC.out.setCell (p := ⟨w.heap.size, 0, none⟩) (by simp) (.float .f32 x0)).setCell (p := ⟨w.heap.size, 1, none⟩) (by simp) (.float .f32 x1)).setCell (p := ⟨w.heap.size, 2, none⟩) (by simp) (.float .f32 x2)).setCell (p := ⟨w.heap.size, 3, none⟩) (by simp) (.float .f32 x3)))
  have Q := Lib.hid ((((K2.out.set (i := 0) (by simp) (.float .f32 x0)).set (i := 1) (by simp) (.float .f32 x1)).set (i := 2) (by simp) (.float .f32 x2)).set (i := 3) (by simp) (.float .f32 x3))
  obtain ⟨c0, c1, c2, c3⟩ := Q.out.four
  refine bodyPost_ret (v := .tuple #[.agg #[.float .f32 x0, .float .f32 x1, .float .f32 x2, .float .f32 x3], .bool true]) ?_ rfl ⟨rfl, R.out⟩
  simp [results, Tryz.results29, go_sem, c0, c1, c2, c3]
set_option maxHeartbeats 8000000 in
theorem s_l08ReadAir_inv (s : ByteArray) (w : World) (hs : s.size ≤ 1048576) (h : nmO s = true) (hl : (nmL s).length = 4) (hv : airV (n4 s 0) (n4 s 1) (n4 s 2) (n4 s 3) = false) :
    Calls Tryz.prog 29 #[.string s] w fun e w' => e = .returned (.tuple #[.agg #[.float .f32 0, .float .f32 0, .float .f32 0, .float .f32 0], .bool false]) ∧ Below w.heap.size w w' := by
  obtain ⟨w0, hw0⟩ : ∃ z, z = w.alloc (.cells #[.float .f32 0, .float .f32 0, .float .f32 0, .float .f32 0] 24) := ⟨_, rfl⟩
  have b0 : Below w.heap.size w w0 := by rw [hw0]; exact (Below.refl _ _).alloc (Nat.le_refl _) _
  have K0 : Hid (BlkL w0 w.heap.size [.float .f32 0, .float .f32 0, .float .f32 0, .float .f32 0]) := Lib.hid (by rw [hw0]; exact blkL_at w #[.float .f32 0, .float .f32 0, .float .f32 0, .float .f32 0] _ rfl)
  have B0 := Lib.hid b0
  have HC := Lib.hid (s_l01NRead s w0 hs)
  rw [h, hl] at HC
  clear hs h b0
  have HL := Lib.hid hl
  clear hl
  obtain ⟨x0, hx0⟩ : ∃ x, x = n4 s 0 := ⟨_, rfl⟩
  obtain ⟨x1, hx1⟩ : ∃ x, x = n4 s 1 := ⟨_, rfl⟩
  obtain ⟨x2, hx2⟩ : ∃ x, x = n4 s 2 := ⟨_, rfl⟩
  obtain ⟨x3, hx3⟩ : ∃ x, x = n4 s 3 := ⟨_, rfl⟩
  rw [← hx0, ← hx1, ← hx2, ← hx3] at hv
  have HV := Lib.hid hv
  have HX : Hid (x0 = (nmL s).getD 0 0 ∧ x1 = (nmL s).getD 1 0 ∧ x2 = (nmL s).getD 2 0 ∧ x3 = (nmL s).getD 3 0) := Lib.hid ⟨hx0, hx1, hx2, hx3⟩
  clear hx0 hx1 hx2 hx3 hv
  go_enter Tryz.func29, Tryz.ntmps29
  go_upto_region 1 with fail
  rw [← hw0]
  clear hw0
  go_wp2_with fail
  refine HC.out.mono ?_
  rintro e w1 ⟨R1, c1, g1, rfl, ho, b1⟩
  have K1 := Lib.hid (K0.out.below b1)
  have BB := Lib.hid (below_of B0.out B0.out.size b1)
  have HF := Lib.hid ho.fl
  clear ho b1 HC K0 B0
  obtain ⟨b, off, rfl, hb, h0⟩ := HF.out.at_ (k := 0) (by rw [HL.out]; decide)
  obtain ⟨b', off', e1, hb1, h1⟩ := HF.out.at_ (k := 1) (by rw [HL.out]; decide)
  obtain ⟨b'', off'', e2, hb2, h2⟩ := HF.out.at_ (k := 2) (by rw [HL.out]; decide)
  obtain ⟨b3, off3, e3, hb3, h3⟩ := HF.out.at_ (k := 3) (by rw [HL.out]; decide)
  simp only [Option.some.injEq, Addr.mk.injEq] at e1 e2 e3
  obtain ⟨rfl, rfl, -⟩ := e1
  obtain ⟨rfl, rfl, -⟩ := e2
  obtain ⟨rfl, rfl, -⟩ := e3
  clear hb1 hb2 hb3
  rw [show (nmL s).getD 0 0 = x0 from HX.out.1.symm, Nat.add_zero] at h0
  rw [show (nmL s).getD 1 0 = x1 from HX.out.2.1.symm] at h1
  rw [show (nmL s).getD 2 0 = x2 from HX.out.2.2.1.symm] at h2
  rw [show (nmL s).getD 3 0 = x3 from HX.out.2.2.2.symm] at h3
  go_upto_region 4 with fail
  go_region
  have up : Below w1.heap.size w1 (w1.alloc (.cells #[.float .f32 x0, .float .f32 x1, .float .f32 x2, .float .f32 x3] 24)).drew := ((Below.refl _ _).alloc (Nat.le_refl _) _).drew
  have X1 : Hid (BlkL (w1.alloc (.cells #[.float .f32 x0, .float .f32 x1, .float .f32 x2, .float .f32 x3] 24)).drew w1.heap.size [.float .f32 x0, .float .f32 x1, .float .f32 x2, .float .f32 x3]) := Lib.hid ((blkL_at w1 #[.float .f32 x0, .float .f32 x1, .float .f32 x2, .float .f32 x3] _ rfl).below (Below.refl _ _).drew)
  have K2 := Lib.hid (K1.out.below up)
  have BC := Lib.hid (below_of BB.out BB.out.size up)
  have HC := Lib.hid (s_l04Is x0 x1 x2 x3 _ _ X1.out)
  rw [HV.out] at HC
  clear up K1 BB h0 h1 h2 h3 hb HV HX HF HL
  go_wp2_with fail
  refine HC.out.mono ?_
  rintro e w2 ⟨n, rfl, hw⟩
  generalize (w1.alloc (.cells #[.float .f32 x0, .float .f32 x1, .float .f32 x2, .float .f32 x3] 24)).drew = wa at K2 BC X1 hw
  have un : Below wa.heap.size wa w2 := by rw [hw]; exact below_draws (Below.refl _ _) n
  have X2 := Lib.hid (X1.out.below un)
  have K2 := Lib.hid (K2.out.below un)
  have BC := Lib.hid (below_of BC.out BC.out.size un)
  clear hw un HC X1
  obtain ⟨y0, y1, y2, y3⟩ := X2.out.four
  obtain ⟨⟨f0, g0⟩, ⟨f1, g1⟩, ⟨f2, g2⟩, ⟨f3, g3⟩⟩ : (_ ∧ _) ∧ (_ ∧ _) ∧ (_ ∧ _) ∧ (_ ∧ _) := ⟨K2.out.2 0 _ rfl, K2.out.2 1 _ rfl, K2.out.2 2 _ rfl, K2.out.2 3 _ rfl⟩
  go_wp2
  have R := Lib.hid (((((BC.out.setCell (p := ⟨w.heap.size, 0, none⟩) (by simp) (.float .f32 0)).setCell (p := ⟨w.heap.size, 1, none⟩) (by simp) (.float .f32 0)).setCell (p := ⟨w.heap.size, 2, none⟩) (by simp) (.float .f32 0)).setCell (p := ⟨w.heap.size, 3, none⟩) (by simp) (.float .f32 0)))
  have Q := Lib.hid ((((K2.out.set (i := 0) (by simp) (.float .f32 0)).set (i := 1) (by simp) (.float .f32 0)).set (i := 2) (by simp) (.float .f32 0)).set (i := 3) (by simp) (.float .f32 0))
  obtain ⟨c0, c1, c2, c3⟩ := Q.out.four
  refine bodyPost_ret (v := .tuple #[.agg #[.float .f32 0, .float .f32 0, .float .f32 0, .float .f32 0], .bool false]) ?_ rfl ⟨rfl, R.out⟩
  simp [results, Tryz.results29, go_sem, c0, c1, c2, c3]
theorem s_l08ReadAir (s : ByteArray) (w : World) (hs : s.size ≤ 1048576) :
    Calls Tryz.prog 29 #[.string s] w fun e w' => e = .returned (.tuple #[.agg #[.float .f32 (raV s 0), .float .f32 (raV s 1), .float .f32 (raV s 2), .float .f32 (raV s 3)], .bool (raO s)]) ∧ Below w.heap.size w w' := by
  cases h : fourO s
  · have hr := raO_no h
    simp only [raV, hr]
    cases ho : nmO s
    · exact s_l08ReadAir_no s w hs ho
    · exact s_l08ReadAir_len s w hs ho (fun e => by rw [fourO_iff.2 ⟨ho, e⟩] at h; cases h)
  · obtain ⟨ho, hl⟩ := fourO_iff.1 h
    cases hv : airV (n4 s 0) (n4 s 1) (n4 s 2) (n4 s 3)
    · have hr : raO s = false := by unfold raO; rw [h, hv]; rfl
      simp only [raV, hr]
      exact s_l08ReadAir_inv s w hs ho hl hv
    · have hr : raO s = true := by unfold raO; rw [h, hv]; rfl
      simp only [raV, hr]
      exact s_l08ReadAir_yes s w hs ho hl hv
set_option maxHeartbeats 4000000 in
theorem s_ReadAir (s : ByteArray) (w : World) (hs : s.size ≤ 1048576) :
    Calls Tryz.prog 8 #[.string s] w fun e w' => e = .returned (.tuple #[.agg #[.float .f32 (raV s 0), .float .f32 (raV s 1), .float .f32 (raV s 2), .float .f32 (raV s 3)], .bool (raO s)]) ∧ Below w.heap.size w w' := by
  obtain ⟨w0, hw0⟩ : ∃ z, z = w.alloc (.cells #[.float .f32 0, .float .f32 0, .float .f32 0, .float .f32 0] 24) := ⟨_, rfl⟩
  have b0 : Below w.heap.size w w0 := by rw [hw0]; exact (Below.refl _ _).alloc (Nat.le_refl _) _
  have K0 : Hid (BlkL w0 w.heap.size [.float .f32 0, .float .f32 0, .float .f32 0, .float .f32 0]) := Lib.hid (by rw [hw0]; exact blkL_at w #[.float .f32 0, .float .f32 0, .float .f32 0, .float .f32 0] _ rfl)
  have B0 := Lib.hid b0
  have HC := Lib.hid (s_l08ReadAir s w0 hs)
  clear hs b0
  generalize raV s 0 = x0 at HC ⊢
  generalize raV s 1 = x1 at HC ⊢
  generalize raV s 2 = x2 at HC ⊢
  generalize raV s 3 = x3 at HC ⊢
  generalize raO s = bb at HC ⊢
  go_enter Tryz.func8, Tryz.ntmps8
  go_upto_region 1 with fail
  rw [← hw0]
  clear hw0
  go_wp2_with fail
  refine HC.out.mono ?_
  rintro e w1 ⟨rfl, b1⟩
  have K1 := Lib.hid (K0.out.below b1)
  have BB := Lib.hid (below_of B0.out B0.out.size b1)
  clear b1 K0 B0 HC
  obtain ⟨⟨f0, g0⟩, ⟨f1, g1⟩, ⟨f2, g2⟩, ⟨f3, g3⟩⟩ : (_ ∧ _) ∧ (_ ∧ _) ∧ (_ ∧ _) ∧ (_ ∧ _) := ⟨K1.out.2 0 _ rfl, K1.out.2 1 _ rfl, K1.out.2 2 _ rfl, K1.out.2 3 _ rfl⟩
  go_wp2
  have R := Lib.hid (((((BB.out.setCell (p := ⟨w.heap.size, 0, none⟩) (by simp) (.float .f32 x0)).setCell (p := ⟨w.heap.size, 1, none⟩) (by simp) (.float .f32 x1)).setCell (p := ⟨w.heap.size, 2, none⟩) (by simp) (.float .f32 x2)).setCell (p := ⟨w.heap.size, 3, none⟩) (by simp) (.float .f32 x3)))
  have Q := Lib.hid ((((K1.out.set (i := 0) (by simp) (.float .f32 x0)).set (i := 1) (by simp) (.float .f32 x1)).set (i := 2) (by simp) (.float .f32 x2)).set (i := 3) (by simp) (.float .f32 x3))
  obtain ⟨c0, c1, c2, c3⟩ := Q.out.four
  refine bodyPost_ret (v := .tuple #[.agg #[.float .f32 x0, .float .f32 x1, .float .f32 x2, .float .f32 x3], .bool bb]) ?_ rfl ⟨rfl, R.out⟩
  simp [results, Tryz.results8, go_sem, c0, c1, c2, c3]
end Go.Proofs.YtoadccmkcjnjmaaGreatDoor
