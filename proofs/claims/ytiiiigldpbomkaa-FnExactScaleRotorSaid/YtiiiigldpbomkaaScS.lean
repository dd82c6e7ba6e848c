/- ScaleRotor: the specification. No statement is proved here. -/
import Derived.Test.YtiiiigldpbomkaaScM
import Derived.RegionTactic
namespace Go.Proofs.Ytiiiigldpbomkaa
open Go Go.RowKit
set_option maxHeartbeats 16000000 in
set_option maxRecDepth 100000 in
theorem s_ScaleRotor (A L D S : Option Addr) (ca cl cd n cs : Nat) (c : Int) (hub tip : Nat) (a l d s : List Nat) (u : Nat) (w : World) (h : Rt w A L D S a l d s) (hn : FewR a l d s n) :
    Calls Try.prog 31 #[.agg #[.slice A a.length ca, .slice L l.length cl, .slice D d.length cd, .slice S n cs, .int .i64 c, .float .f32 hub, .float .f32 tip], .float .f32 u] w fun e w' => ∃ (R1 R2 R3 R4 : Option Addr) (c1 c2 c3 c4 g1 g2 g3 g4 : Nat), e = .returned (.tuple #[.agg #[.slice R1 (gLp (scO a l d s n c hub tip u) a).length c1, .slice R2 (gLp (scO a l d s n c hub tip u) l).length c2, .slice R3 (gLp (scO a l d s n c hub tip u) d).length c3, .slice R4 (gN (scO a l d s n c hub tip u) n) c4, .int .i64 (gC (scO a l d s n c hub tip u) c), .float .f32 (gN (scO a l d s n c hub tip u) (fop .mul .f32 (canon .f32 u) (canon .f32 hub))), .float .f32 (gN (scO a l d s n c hub tip u) (fop .mul .f32 (canon .f32 u) (canon .f32 tip)))], .bool (scO a l d s n c hub tip u)]) ∧ OwnT w' w.heap.size R1 R2 R3 R4 g1 g2 g3 g4 (gLp (scO a l d s n c hub tip u) a) (gLp (scO a l d s n c hub tip u) l) (gLp (scO a l d s n c hub tip u) d) (gLp (scO a l d s n c hub tip u) (mp3 (scG u) s)) ∧ Below w.heap.size w w' := by
  have HP := Lib.hid h; clear h
  have HON : Hid (validR a l d s n c hub tip = false → scO a l d s n c hub tip u = false) := Lib.hid scO_v
  have HOY : Hid (validR a l d s n c hub tip = true → scO a l d s n c hub tip u = validR a l d (mp3 (scG u) s) n c (fop .mul .f32 (canon .f32 u) (canon .f32 hub)) (fop .mul .f32 (canon .f32 u) (canon .f32 tip))) := Lib.hid (fun h1 => scO_y h1)
  generalize scO a l d s n c hub tip u = O at HON HOY ⊢
  obtain ⟨H', HHE⟩ : ∃ q, Hid (q = (fop .mul .f32 (canon .f32 u) (canon .f32 hub))) := ⟨_, rfl⟩
  obtain ⟨T', HTE⟩ : ∃ q, Hid (q = (fop .mul .f32 (canon .f32 u) (canon .f32 tip))) := ⟨_, rfl⟩
  rw [← HHE.out, ← HTE.out] at HOY ⊢
  have HSE : Hid ((mp3 (scG u) s).length = s.length ∧ ∀ k, k < n → canon .f32 ((mp3 (scG u) s).getD (k * 3) 0) = fop .mul .f32 (canon .f32 u) (canon .f32 (s.getD (k * 3) 0)) ∧ canon .f32 ((mp3 (scG u) s).getD (k * 3 + 1) 0) = fop .mul .f32 (canon .f32 u) (canon .f32 (s.getD (k * 3 + 1) 0)) ∧ canon .f32 (s.getD (k * 3 + 2) 0) = canon .f32 ((mp3 (scG u) s).getD (k * 3 + 2) 0)) := Lib.hid ⟨mp3_length _ _, fun k hk => by
    have hz := hn.1
    exact ⟨by rw [mp3_0 (by omega)]; exact canon_fop .., by rw [mp3_1 (by omega)]; exact canon_fop .., by rw [mp3_2 (by omega)]; rfl⟩⟩
  generalize mp3 (scG u) s = S' at HOY HSE ⊢
  obtain ⟨w0, hw0⟩ : ∃ q, q = (w.alloc (.cells #[.slice A a.length ca, .slice L l.length cl, .slice D d.length cd, .slice S n cs, .int .i64 c, .float .f32 hub, .float .f32 tip] 30)).alloc (.cells #[.slice none 0 0, .slice none 0 0, .slice none 0 0, .slice none 0 0, .int .i64 0, .float .f32 0, .float .f32 0] 30) := ⟨_, rfl⟩
  have B0 : Hid (Below w.heap.size w w0) := Lib.hid (by rw [hw0]; exact ((Below.refl _ _).alloc (Nat.le_refl _) _).alloc (by simp) _)
  have K0 : Hid (BlkL w0 w.heap.size [.slice A a.length ca, .slice L l.length cl, .slice D d.length cd, .slice S n cs, .int .i64 c, .float .f32 hub, .float .f32 tip]) := Lib.hid (by rw [hw0]; exact (blkL_at w #[.slice A a.length ca, .slice L l.length cl, .slice D d.length cd, .slice S n cs, .int .i64 c, .float .f32 hub, .float .f32 tip] _ rfl).alloc _)
  have KR : Hid (BlkL w0 (w.heap.size + 1) [.slice none 0 0, .slice none 0 0, .slice none 0 0, .slice none 0 0, .int .i64 0, .float .f32 0, .float .f32 0]) := Lib.hid (by rw [hw0]; exact blkL_at (w.alloc _) #[.slice none 0 0, .slice none 0 0, .slice none 0 0, .slice none 0 0, .int .i64 0, .float .f32 0, .float .f32 0] _ (by simp))
  have Z0 : Hid (w0.heap.size = w.heap.size + 2) := Lib.hid (by rw [hw0]; simp)
  go_enter Try.func31, Try.ntmps31
  go_wp2_with fail
  rw [← hw0]
  clear hw0
  refine (s_l03Is A L D S ca cl cd n cs c hub tip a l d s w.heap.size _ (HP.out.below B0.out) hn K0.out).mono ?_
  rintro e w1 ⟨rfl, b⟩
  have L0 : Hid (BlkL w1 w.heap.size [.slice A a.length ca, .slice L l.length cl, .slice D d.length cd, .slice S n cs, .int .i64 c, .float .f32 hub, .float .f32 tip]) := Lib.hid (K0.out.below b)
  have LR : Hid (BlkL w1 (w.heap.size + 1) [.slice none 0 0, .slice none 0 0, .slice none 0 0, .slice none 0 0, .int .i64 0, .float .f32 0, .float .f32 0]) := Lib.hid (KR.out.below b)
  have B1 : Hid (Below w.heap.size w w1) := Lib.hid (below_of B0.out B0.out.size b)
  have Z1 : Hid (w.heap.size + 2 ≤ w1.heap.size) := Lib.hid (by have := b.size; have := Z0.out; omega)
  clear b K0 KR B0 Z0
  cases v0 : validR a l d s n c hub tip
  · have HN := Lib.hid (HON.out v0)
    clear v0
    have p0 := (LR.out.2 0 _ rfl).1
    have q0 := (LR.out.2 0 _ rfl).2
    have p1 := (LR.out.2 1 _ rfl).1
    have q1 := (LR.out.2 1 _ rfl).2
    have p2 := (LR.out.2 2 _ rfl).1
    have q2 := (LR.out.2 2 _ rfl).2
    have p3 := (LR.out.2 3 _ rfl).1
    have q3 := (LR.out.2 3 _ rfl).2
    have p4 := (LR.out.2 4 _ rfl).1
    have q4 := (LR.out.2 4 _ rfl).2
    have p5 := (LR.out.2 5 _ rfl).1
    have q5 := (LR.out.2 5 _ rfl).2
    have p6 := (LR.out.2 6 _ rfl).1
    have q6 := (LR.out.2 6 _ rfl).2
    go_wp2
    refine bodyPost_ret (v := .tuple #[.agg #[.slice none 0 0, .slice none 0 0, .slice none 0 0, .slice none 0 0, .int .i64 0, .float .f32 0, .float .f32 0], .bool false]) ?_ rfl ?_
    · simp [results, Try.results31, go_sem, p0, p1, p2, p3, p4, p5, p6]
    · rw [HN.out]
      exact ⟨none, none, none, none, 0, 0, 0, 0, 0, 1, 2, 3, rfl, OwnT.none _ _, (((((((B1.out).setCell (p := ⟨w.heap.size + 1, 0, none⟩) (by show w.heap.size ≤ w.heap.size + 1; omega) _).setCell (p := ⟨w.heap.size + 1, 1, none⟩) (by show w.heap.size ≤ w.heap.size + 1; omega) _).setCell (p := ⟨w.heap.size + 1, 2, none⟩) (by show w.heap.size ≤ w.heap.size + 1; omega) _).setCell (p := ⟨w.heap.size + 1, 3, none⟩) (by show w.heap.size ≤ w.heap.size + 1; omega) _).setCell (p := ⟨w.heap.size + 1, 4, none⟩) (by show w.heap.size ≤ w.heap.size + 1; omega) _).setCell (p := ⟨w.heap.size + 1, 5, none⟩) (by show w.heap.size ≤ w.heap.size + 1; omega) _).setCell (p := ⟨w.heap.size + 1, 6, none⟩) (by show w.heap.size ≤ w.heap.size + 1; omega) _⟩
  · obtain ⟨vp, z1, z2, z3, z4⟩ := validR_parts v0
    obtain ⟨s1, s2, s3, s4⟩ := sized_of vp
    have h1 : 1 ≤ a.length := by omega
    have h2 : 1 ≤ l.length := by omega
    have h3 : 1 ≤ d.length := by omega
    have HO := Lib.hid (HOY.out v0)
    have HSL := Lib.hid hn.1
    have hnb : 2 ≤ n ∧ n ≤ 12 := ⟨z3, z4⟩
    have HNW := Lib.hid hn
    clear v0 HON HOY vp s1 s2 s3 s4 z1 z2 z3 z4 hn
    go_wp2_with fail
    refine (s_l03Own A L D S ca cl cd n cs c hub tip a l d s w.heap.size _ (HP.out.below B1.out) HNW.out h1 h2 h3 (by omega) L0.out).mono ?_
    rintro e w2 ⟨b1, b2, b3, b4, c1, c2, c3, c4, rfl, o1, o2, o3, o4, g1, g2, g3, g4, b⟩
    obtain ⟨wb, hwb⟩ : ∃ q, q = w2.alloc (.cells #[.slice (some ⟨b1, 0, none⟩) a.length c1, .slice (some ⟨b2, 0, none⟩) l.length c2, .slice (some ⟨b3, 0, none⟩) d.length c3, .slice (some ⟨b4, 0, none⟩) n c4, .int .i64 c, .float .f32 hub, .float .f32 tip] 30) := ⟨_, rfl⟩
    have bb : Below w2.heap.size w2 wb := by rw [hwb]; exact (Below.refl _ _).alloc (Nat.le_refl _) _
    have bq := below_of b b.size bb
    obtain ⟨BC, hBC⟩ : ∃ q, q = w2.heap.size := ⟨_, rfl⟩
    have KB : Hid (BlkL wb BC [.slice (some ⟨b1, 0, none⟩) a.length c1, .slice (some ⟨b2, 0, none⟩) l.length c2, .slice (some ⟨b3, 0, none⟩) d.length c3, .slice (some ⟨b4, 0, none⟩) n c4, .int .i64 c, .float .f32 hub, .float .f32 tip]) := Lib.hid (by rw [hwb, hBC]; exact blkL_at w2 #[_, _, _, _, _, _, _] _ rfl)
    have KSR : Hid (BlkL wb w.heap.size [.slice A a.length ca, .slice L l.length cl, .slice D d.length cd, .slice S n cs, .int .i64 c, .float .f32 hub, .float .f32 tip]) := Lib.hid (L0.out.below bq)
    have KR : Hid (BlkL wb (w.heap.size + 1) [.slice none 0 0, .slice none 0 0, .slice none 0 0, .slice none 0 0, .int .i64 0, .float .f32 0, .float .f32 0]) := Lib.hid (LR.out.below bq)
    have Q1 := Lib.hid (o1.below bb)
    have Q2 := Lib.hid (o2.below bb)
    have Q3 := Lib.hid (o3.below bb)
    have Q4 := Lib.hid (o4.below bb)
    have HLV : Hid (w.heap.size + 2 ≤ b1 ∧ b1 < b2 ∧ b2 < b3 ∧ b3 < b4) := Lib.hid (by have := Z1.out; omega)
    have HLB : Hid (b4 < BC) := Lib.hid (by rw [hBC]; exact o4.1)
    have BB : Hid (Below w.heap.size w wb) := Lib.hid (below_of B1.out B1.out.size bq)
    clear o1 o2 o3 o4 g1 g2 g3 g4 b bb bq L0 LR B1 h1 h2 h3
    go_upto_region 4 with fail
    rw [← hwb, ← hBC]
    clear hwb hBC
    have k3 := (KB.out.2 3 _ rfl).1
    go_wp2
    go_loopw [15] (fun i wr => ∃ k : Nat, k ≤ n ∧ i = .int .i64 k ∧ ∃ xs, Hid (Mid s S' k xs) ∧ Hid (Own wr b4 xs) ∧ Hid (Turn wb wr (fun b => b = b4))) (fun i _ => n - (intOf i).toNat)
    case atStart => exact ⟨0, Nat.zero_le _, rfl, s, Lib.hid (Mid.zero _ _), Q4, Lib.hid (Turn.refl _ _)⟩
    case round =>
      obtain ⟨k, hk, rfl, xs, HM, HQ, HT⟩ := hrel
      clear k3 Q4
      have e1 := HLV.out
      have e2 := HLB.out
      have HBL : Hid (BlkL wr BC [.slice (some ⟨b1, 0, none⟩) a.length c1, .slice (some ⟨b2, 0, none⟩) l.length c2, .slice (some ⟨b3, 0, none⟩) d.length c3, .slice (some ⟨b4, 0, none⟩) n c4, .int .i64 c, .float .f32 hub, .float .f32 tip]) := Lib.hid (KB.out.turnS HT.out (by show ¬ BC = b4; omega))
      have HBS : Hid (BlkL wr w.heap.size [.slice A a.length ca, .slice L l.length cl, .slice D d.length cd, .slice S n cs, .int .i64 c, .float .f32 hub, .float .f32 tip]) := Lib.hid (KSR.out.turnS HT.out (by show ¬ w.heap.size = b4; omega))
      have k3 := (HBL.out.2 3 _ rfl).1
      have m3 := (HBS.out.2 3 _ rfl).1
      have HXL : Hid (xs.length = n * 3) := Lib.hid (by rw [HM.out.1, HSL.out])
      clear e1 e2
      by_cases hlt : k < n
      · obtain ⟨x0, f0⟩ := HQ.out.2 (k * 3) (by rw [HXL.out]; omega)
        obtain ⟨b, off, rfl, hb, hc0⟩ := HP.out.2.at_ (k := k * 3) (by rw [HSL.out]; omega)
        have hbw : b < wb.heap.size := by have := BB.out.size; omega
        have d0 := BB.out.cell (p := ⟨b, off + k * 3, none⟩) hb
        have d0 : wr.cell? ⟨b, off + k * 3, none⟩ = _ := (HT.out.2.1 ⟨b, off + k * 3, none⟩ hbw (by have := HLV.out; show ¬ b = b4; omega)).trans (d0.trans hc0)
        have hi1 : (k : Int) < (n : Int) := by omega
        have hi2 : (0 : Int) ≤ (k : Int) := by omega
        obtain ⟨x, HX0⟩ : ∃ q, Hid (q = s.getD (k * 3) 0) := ⟨_, rfl⟩
        rw [← HX0.out] at d0
        generalize xs.getD (k * 3) 0 = y at x0
        clear hc0
        go_wp2_with fail
        go_region
        obtain ⟨xx, hxx⟩ : ∃ q, q = fopV .mul .f32 u x wr.drew := ⟨_, rfl⟩
        rw [← hxx]
        obtain ⟨wv, hwv⟩ : ∃ q, q = (wr.drewN (1 + fopN .mul .f32 u x)).setCell ⟨b4, k * 3, none⟩ (.float .f32 xx) := ⟨_, rfl⟩
        rw [← hwv]
        have HQ1 : Hid (Own wv b4 (xs.set (k * 3) xx)) := Lib.hid (by rw [hwv]; exact (HQ.out.below (below_draws (Below.refl _ _) _)).putT (by rw [HXL.out]; omega))
        have HT1 : Hid (Turn wb wv (fun b => b = b4)) := Lib.hid (by rw [hwv]; exact HT.out.trans ((Turn.of_below (below_draws (Below.refl _ _) _) _).trans (Turn.set _ ⟨b4, k * 3, none⟩ rfl _)))
        have HXX : Hid (canon .f32 xx = canon .f32 (S'.getD (k * 3) 0)) := Lib.hid (by rw [hxx, canon_fopV, HX0.out, (HSE.out.2 k hlt).1])
        clear hwv hxx HBL HBS k3 m3 x0 f0 d0 HQ HT HX0
        have HBL : Hid (BlkL wv BC [.slice (some ⟨b1, 0, none⟩) a.length c1, .slice (some ⟨b2, 0, none⟩) l.length c2, .slice (some ⟨b3, 0, none⟩) d.length c3, .slice (some ⟨b4, 0, none⟩) n c4, .int .i64 c, .float .f32 hub, .float .f32 tip]) := Lib.hid (KB.out.turnS HT1.out (by have := HLB.out; show ¬ BC = b4; omega))
        have HBS : Hid (BlkL wv w.heap.size [.slice A a.length ca, .slice L l.length cl, .slice D d.length cd, .slice (some ⟨b, off, none⟩) n cs, .int .i64 c, .float .f32 hub, .float .f32 tip]) := Lib.hid (KSR.out.turnS HT1.out (by have := HLV.out; show ¬ w.heap.size = b4; omega))
        have k3 := (HBL.out.2 3 _ rfl).1
        have m3 := (HBS.out.2 3 _ rfl).1
        obtain ⟨x0, f0⟩ := HQ1.out.2 (k * 3 + 1) (by rw [List.length_set, HXL.out]; omega)
        have hc0 := HP.out.2.same rfl (k := k * 3 + 1) (by rw [HSL.out]; omega)
        have d0 := BB.out.cell (p := ⟨b, off + k * 3 + 1, none⟩) hb
        have d0 : wv.cell? ⟨b, off + k * 3 + 1, none⟩ = _ := (HT1.out.2.1 ⟨b, off + k * 3 + 1, none⟩ hbw (by have := HLV.out; show ¬ b = b4; omega)).trans (d0.trans hc0)
        obtain ⟨x, HX0⟩ : ∃ q, Hid (q = s.getD (k * 3 + 1) 0) := ⟨_, rfl⟩
        rw [← HX0.out] at d0
        generalize (xs.set (k * 3) xx).getD (k * 3 + 1) 0 = y at x0
        clear hc0
        go_wp2_with fail
        go_region
        obtain ⟨yy, hyy⟩ : ∃ q, q = fopV .mul .f32 u x wv.drew := ⟨_, rfl⟩
        rw [← hyy]
        obtain ⟨ww, hww⟩ : ∃ q, q = (wv.drewN (1 + fopN .mul .f32 u x)).setCell ⟨b4, k * 3 + 1, none⟩ (.float .f32 yy) := ⟨_, rfl⟩
        rw [← hww]
        have HQ2 : Hid (Own ww b4 ((xs.set (k * 3) xx).set (k * 3 + 1) yy)) := Lib.hid (by rw [hww]; exact (HQ1.out.below (below_draws (Below.refl _ _) _)).putT (by rw [List.length_set, HXL.out]; omega))
        have HT2 : Hid (Turn wb ww (fun b => b = b4)) := Lib.hid (by rw [hww]; exact HT1.out.trans ((Turn.of_below (below_draws (Below.refl _ _) _) _).trans (Turn.set _ ⟨b4, k * 3 + 1, none⟩ rfl _)))
        have HYY : Hid (canon .f32 yy = canon .f32 (S'.getD (k * 3 + 1) 0)) := Lib.hid (by rw [hyy, canon_fopV, HX0.out, (HSE.out.2 k hlt).2.1])
        clear hww hyy HBL HBS k3 m3 x0 f0 d0 HQ1 HT1 HX0 hb hbw
        have hl1 : k * 3 + 1 < (xs.set (k * 3) xx).length := by rw [List.length_set, HXL.out]; omega
        have hl0 : k * 3 < xs.length := by rw [HXL.out]; omega
        have HM2 : Hid (Mid s S' (k + 1) ((xs.set (k * 3) xx).set (k * 3 + 1) yy)) := Lib.hid (HM.out.put hlt HSL.out (by simp)
          (by rw [getD_setL hl1, if_neg (by omega), getD_setL hl0, if_pos rfl]; exact HXX.out)
          (by rw [getD_setL hl1, if_pos rfl]; exact HYY.out)
          (by rw [getD_setL hl1, if_neg (by omega), getD_setL hl0, if_neg (by omega), HM.out.2 _ (by rw [HSL.out]; omega), if_neg (by omega)]; exact (HSE.out.2 k hlt).2.2)
          (by intro j h0 h1 h2; rw [getD_setL hl1, if_neg h1, getD_setL hl0, if_neg h0]))
        clear hl1 hl0
        go_wp2
        go_roundw
        case rel => exact ⟨k + 1, by omega, by go_num, _, HM2, HQ2, HT2⟩
        case measure => simp [intOf]; omega
      · have hkk : k = n := by omega
        subst hkk
        have k5 := (HBL.out.2 5 _ rfl).1
        have f5 := (HBL.out.2 5 _ rfl).2
        have k6 := (HBL.out.2 6 _ rfl).1
        have f6 := (HBL.out.2 6 _ rfl).2
        have m5 := (HBS.out.2 5 _ rfl).1
        have m6 := (HBS.out.2 6 _ rfl).1
        go_upto_region 12 with fail
        obtain ⟨wz, hh, tt, HZ⟩ : ∃ wz hh tt, Hid (wz = (((wr.drewN (fopN BinOp.mul FloatKind.f32 u hub)).setCell ⟨BC, 5, none⟩ (.float .f32 hh)).drewN (fopN BinOp.mul FloatKind.f32 u tip)).setCell ⟨BC, 6, none⟩ (.float .f32 tt) ∧ hh = fopV BinOp.mul FloatKind.f32 u hub wr ∧ tt = fopV BinOp.mul FloatKind.f32 u tip ((wr.drewN (fopN BinOp.mul FloatKind.f32 u hub)).setCell ⟨BC, 5, none⟩ (.float .f32 hh))) := ⟨_, _, _, rfl, rfl, rfl⟩
        rw [← HZ.out.2.1, ← HZ.out.2.2, ← HZ.out.1]
        have HHH : Hid (canon .f32 hh = canon .f32 H') := Lib.hid (by rw [HZ.out.2.1, canon_fopV, HHE.out]; exact (canon_fop ..).symm)
        have HTT : Hid (canon .f32 tt = canon .f32 T') := Lib.hid (by rw [HZ.out.2.2, canon_fopV, HTE.out]; exact (canon_fop ..).symm)
        have e1 := HLV.out
        have e2 := HLB.out
        have HX : Hid (validR a l d xs k c hh tt = validR a l d S' k c H' T' ∧ (validR a l d S' k c H' T' = true → xs = S' ∧ hh = H' ∧ tt = T')) := Lib.hid (validR_CL (HM.out.cl HSL.out HSE.out.1) HXL.out HHH.out HTT.out)
        have hb1 := HBL.out
        have HBL : Hid (BlkL wz BC [.slice (some ⟨b1, 0, none⟩) a.length c1, .slice (some ⟨b2, 0, none⟩) l.length c2, .slice (some ⟨b3, 0, none⟩) d.length c3, .slice (some ⟨b4, 0, none⟩) k c4, .int .i64 c, .float .f32 hh, .float .f32 tt]) := Lib.hid (by rw [HZ.out.1]; exact (((hb1.below (below_draws (Below.refl _ _) _)).set (i := 5) (by simp) _).below (below_draws (Below.refl _ _) _)).set (i := 6) (by simp) _)
        clear hb1 k5 f5 k6 f6 m5 m6 k3 m3
        have LRR : Hid (BlkL wz (w.heap.size + 1) [.slice none 0 0, .slice none 0 0, .slice none 0 0, .slice none 0 0, .int .i64 0, .float .f32 0, .float .f32 0]) := Lib.hid (by rw [HZ.out.1]; exact ((((KR.out.turnS HT.out (by show ¬ w.heap.size + 1 = b4; omega)).below (below_draws (Below.refl _ _) _)).other (by show BC ≠ _; omega) _).below (below_draws (Below.refl _ _) _)).other (by show BC ≠ _; omega) _)
        have P1 : Hid (Own wz b1 a) := Lib.hid (by rw [HZ.out.1]; exact ((((Q1.out.turn HT.out (by show ¬ b1 = b4; omega)).below (below_draws (Below.refl _ _) _)).setCell (by show BC ≠ _; omega) _).below (below_draws (Below.refl _ _) _)).setCell (by show BC ≠ _; omega) _)
        have P2 : Hid (Own wz b2 l) := Lib.hid (by rw [HZ.out.1]; exact ((((Q2.out.turn HT.out (by show ¬ b2 = b4; omega)).below (below_draws (Below.refl _ _) _)).setCell (by show BC ≠ _; omega) _).below (below_draws (Below.refl _ _) _)).setCell (by show BC ≠ _; omega) _)
        have P3 : Hid (Own wz b3 d) := Lib.hid (by rw [HZ.out.1]; exact ((((Q3.out.turn HT.out (by show ¬ b3 = b4; omega)).below (below_draws (Below.refl _ _) _)).setCell (by show BC ≠ _; omega) _).below (below_draws (Below.refl _ _) _)).setCell (by show BC ≠ _; omega) _)
        have P4 : Hid (Own wz b4 xs) := Lib.hid (by rw [HZ.out.1]; exact (((HQ.out.below (below_draws (Below.refl _ _) _)).setCell (by show BC ≠ _; omega) _).below (below_draws (Below.refl _ _) _)).setCell (by show BC ≠ _; omega) _)
        have BR : Hid (Below w.heap.size w wz) := Lib.hid (by
          have hbr := HT.out.2.2.2 w BB.out (fun b hb => by have hb : b = b4 := hb; omega)
          rw [HZ.out.1]; exact (below_draws ((below_draws hbr _).setCell (by show w.heap.size ≤ BC; omega) _) _).setCell (by show w.heap.size ≤ BC; omega) _)
        have HFW : Hid (FewR a l d xs k) := Lib.hid ⟨HXL.out, HNW.out.2⟩
        clear e1 e2 KR KB KSR HBS Q1 Q2 Q3 BB HQ HT HM hlt hk HHH HTT HZ HHE HTE
        obtain ⟨k0, k1, k2, k3, k4, k5, k6⟩ := HBL.out.sevenT
        have HRT : Hid (Rt wz (some ⟨b1, 0, none⟩) (some ⟨b2, 0, none⟩) (some ⟨b3, 0, none⟩) (some ⟨b4, 0, none⟩) a l d xs) := Lib.hid ⟨⟨P1.out.fl, P2.out.fl, P3.out.fl⟩, P4.out.fl⟩
        cases v : validR a l d xs k c hh tt
        · have HN : Hid (O = false) := Lib.hid (by rw [HO.out, ← HX.out.1, v])
          have HE := Lib.hid (s_l03Give_no (some ⟨b1, 0, none⟩) (some ⟨b2, 0, none⟩) (some ⟨b3, 0, none⟩) (some ⟨b4, 0, none⟩) c1 c2 c3 k c4 c hh tt a l d xs wz HRT.out HFW.out v)
          clear v
          go_wp2_with fail
          refine HE.out.mono ?_
          rintro e w6 ⟨rfl, b6⟩
          have B6 : Hid (Below w.heap.size w w6) := Lib.hid (below_of BR.out BR.out.size b6)
          have LR6 : Hid (BlkL w6 (w.heap.size + 1) [.slice none 0 0, .slice none 0 0, .slice none 0 0, .slice none 0 0, .int .i64 0, .float .f32 0, .float .f32 0]) := Lib.hid (LRR.out.below b6)
          have HT6 : Hid (OwnT w6 (w.heap.size + 2) (some ⟨b1, 0, none⟩) (some ⟨b2, 0, none⟩) (some ⟨b3, 0, none⟩) (some ⟨b4, 0, none⟩) b1 b2 b3 b4 a l d xs) := Lib.hid (by
            have := HLV.out
            exact ⟨⟨(P1.out.below b6).o (by omega), (P2.out.below b6).o (by omega), (P3.out.below b6).o (by omega), by omega, by omega, by omega⟩, (P4.out.below b6).o (by omega), by omega, by omega, by omega⟩)
          clear b6 k0 k1 k2 k3 k4 k5 k6
          have p0 := (LR6.out.2 0 _ rfl).1
          have q0 := (LR6.out.2 0 _ rfl).2
          have p1 := (LR6.out.2 1 _ rfl).1
          have q1 := (LR6.out.2 1 _ rfl).2
          have p2 := (LR6.out.2 2 _ rfl).1
          have q2 := (LR6.out.2 2 _ rfl).2
          have p3 := (LR6.out.2 3 _ rfl).1
          have q3 := (LR6.out.2 3 _ rfl).2
          have p4 := (LR6.out.2 4 _ rfl).1
          have q4 := (LR6.out.2 4 _ rfl).2
          have p5 := (LR6.out.2 5 _ rfl).1
          have q5 := (LR6.out.2 5 _ rfl).2
          have p6 := (LR6.out.2 6 _ rfl).1
          have q6 := (LR6.out.2 6 _ rfl).2
          go_wp2
          refine bodyPost_ret (v := .tuple #[.agg #[.slice none 0 0, .slice none 0 0, .slice none 0 0, .slice none 0 0, .int .i64 0, .float .f32 0, .float .f32 0], .bool false]) ?_ rfl ?_
          · simp [results, Try.results31, go_sem, p0, p1, p2, p3, p4, p5, p6]
          · rw [HN.out]
            exact ⟨none, none, none, none, 0, 0, 0, 0, 0, 1, 2, 3, rfl, OwnT.none _ _, (((((((B6.out).setCell (p := ⟨w.heap.size + 1, 0, none⟩) (by show w.heap.size ≤ w.heap.size + 1; omega) _).setCell (p := ⟨w.heap.size + 1, 1, none⟩) (by show w.heap.size ≤ w.heap.size + 1; omega) _).setCell (p := ⟨w.heap.size + 1, 2, none⟩) (by show w.heap.size ≤ w.heap.size + 1; omega) _).setCell (p := ⟨w.heap.size + 1, 3, none⟩) (by show w.heap.size ≤ w.heap.size + 1; omega) _).setCell (p := ⟨w.heap.size + 1, 4, none⟩) (by show w.heap.size ≤ w.heap.size + 1; omega) _).setCell (p := ⟨w.heap.size + 1, 5, none⟩) (by show w.heap.size ≤ w.heap.size + 1; omega) _).setCell (p := ⟨w.heap.size + 1, 6, none⟩) (by show w.heap.size ≤ w.heap.size + 1; omega) _⟩
        · have HN : Hid (O = true) := Lib.hid (by rw [HO.out, ← HX.out.1, v])
          obtain ⟨EQ, EQh, EQt⟩ := HX.out.2 (by rw [← HX.out.1, v])
          subst EQ
          subst EQh EQt
          have HE := Lib.hid (s_l03Give_yes (some ⟨b1, 0, none⟩) (some ⟨b2, 0, none⟩) (some ⟨b3, 0, none⟩) (some ⟨b4, 0, none⟩) c1 c2 c3 k c4 c hh tt a l d xs wz HRT.out HFW.out v)
          clear v
          go_wp2_with fail
          refine HE.out.mono ?_
          rintro e w6 ⟨rfl, b6⟩
          have B6 : Hid (Below w.heap.size w w6) := Lib.hid (below_of BR.out BR.out.size b6)
          have LR6 : Hid (BlkL w6 (w.heap.size + 1) [.slice none 0 0, .slice none 0 0, .slice none 0 0, .slice none 0 0, .int .i64 0, .float .f32 0, .float .f32 0]) := Lib.hid (LRR.out.below b6)
          have HT6 : Hid (OwnT w6 (w.heap.size + 2) (some ⟨b1, 0, none⟩) (some ⟨b2, 0, none⟩) (some ⟨b3, 0, none⟩) (some ⟨b4, 0, none⟩) b1 b2 b3 b4 a l d xs) := Lib.hid (by
            have := HLV.out
            exact ⟨⟨(P1.out.below b6).o (by omega), (P2.out.below b6).o (by omega), (P3.out.below b6).o (by omega), by omega, by omega, by omega⟩, (P4.out.below b6).o (by omega), by omega, by omega, by omega⟩)
          clear b6 k0 k1 k2 k3 k4 k5 k6
          have p0 := (LR6.out.2 0 _ rfl).1
          have q0 := (LR6.out.2 0 _ rfl).2
          have p1 := (LR6.out.2 1 _ rfl).1
          have q1 := (LR6.out.2 1 _ rfl).2
          have p2 := (LR6.out.2 2 _ rfl).1
          have q2 := (LR6.out.2 2 _ rfl).2
          have p3 := (LR6.out.2 3 _ rfl).1
          have q3 := (LR6.out.2 3 _ rfl).2
          have p4 := (LR6.out.2 4 _ rfl).1
          have q4 := (LR6.out.2 4 _ rfl).2
          have p5 := (LR6.out.2 5 _ rfl).1
          have q5 := (LR6.out.2 5 _ rfl).2
          have p6 := (LR6.out.2 6 _ rfl).1
          have q6 := (LR6.out.2 6 _ rfl).2
          go_wp2
          refine bodyPost_ret (v := .tuple #[.agg #[.slice (some ⟨b1, 0, none⟩) a.length c1, .slice (some ⟨b2, 0, none⟩) l.length c2, .slice (some ⟨b3, 0, none⟩) d.length c3, .slice (some ⟨b4, 0, none⟩) k c4, .int .i64 c, .float .f32 hh, .float .f32 tt], .bool true]) ?_ rfl ?_
          · simp [results, Try.results31, go_sem, p0, p1, p2, p3, p4, p5, p6]
          · rw [HN.out]
            exact ⟨_, _, _, _, c1, c2, c3, c4, b1, b2, b3, b4, rfl, ((((((((HT6.out).setT (p := ⟨w.heap.size + 1, 0, none⟩) (by show w.heap.size + 1 < _; omega) _).setT (p := ⟨w.heap.size + 1, 1, none⟩) (by show w.heap.size + 1 < _; omega) _).setT (p := ⟨w.heap.size + 1, 2, none⟩) (by show w.heap.size + 1 < _; omega) _).setT (p := ⟨w.heap.size + 1, 3, none⟩) (by show w.heap.size + 1 < _; omega) _).setT (p := ⟨w.heap.size + 1, 4, none⟩) (by show w.heap.size + 1 < _; omega) _).setT (p := ⟨w.heap.size + 1, 5, none⟩) (by show w.heap.size + 1 < _; omega) _).setT (p := ⟨w.heap.size + 1, 6, none⟩) (by show w.heap.size + 1 < _; omega) _).baseT (by omega), (((((((B6.out).setCell (p := ⟨w.heap.size + 1, 0, none⟩) (by show w.heap.size ≤ w.heap.size + 1; omega) _).setCell (p := ⟨w.heap.size + 1, 1, none⟩) (by show w.heap.size ≤ w.heap.size + 1; omega) _).setCell (p := ⟨w.heap.size + 1, 2, none⟩) (by show w.heap.size ≤ w.heap.size + 1; omega) _).setCell (p := ⟨w.heap.size + 1, 3, none⟩) (by show w.heap.size ≤ w.heap.size + 1; omega) _).setCell (p := ⟨w.heap.size + 1, 4, none⟩) (by show w.heap.size ≤ w.heap.size + 1; omega) _).setCell (p := ⟨w.heap.size + 1, 5, none⟩) (by show w.heap.size ≤ w.heap.size + 1; omega) _).setCell (p := ⟨w.heap.size + 1, 6, none⟩) (by show w.heap.size ≤ w.heap.size + 1; omega) _⟩
end Go.Proofs.Ytiiiigldpbomkaa
