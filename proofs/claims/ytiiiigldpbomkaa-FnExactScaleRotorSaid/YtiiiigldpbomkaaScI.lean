/- ScaleRotor: the program. No statement is proved here. -/
import Derived.Test.YtiiiigldpbomkaaTwC
import Derived.Test.YtiiiigldpbomkaaScM
import Derived.RegionTactic
namespace Go.Proofs.Ytiiiigldpbomkaa
open Go Go.RowKit
set_option maxHeartbeats 16000000 in
set_option maxRecDepth 100000 in
theorem i_ScaleRotor (A L D S : Option Addr) (ca cl cd n cs : Nat) (c : Int) (hub tip : Nat) (a l d s : List Nat) (u : Nat) (w : World) (h : Rt w A L D S a l d s) (hn : FewR a l d s n) :
    Calls Try.prog 32 #[.agg #[.slice A a.length ca, .slice L l.length cl, .slice D d.length cd, .slice S n cs, .int .i64 c, .float .f32 hub, .float .f32 tip], .float .f32 u] w fun e w' => ∃ (R1 R2 R3 R4 : Option Addr) (c1 c2 c3 c4 g1 g2 g3 g4 : Nat), e = .returned (.tuple #[.agg #[.slice R1 (gLp (scO a l d s n c hub tip u) a).length c1, .slice R2 (gLp (scO a l d s n c hub tip u) l).length c2, .slice R3 (gLp (scO a l d s n c hub tip u) d).length c3, .slice R4 (gN (scO a l d s n c hub tip u) n) c4, .int .i64 (gC (scO a l d s n c hub tip u) c), .float .f32 (gN (scO a l d s n c hub tip u) (fop .mul .f32 (canon .f32 u) (canon .f32 hub))), .float .f32 (gN (scO a l d s n c hub tip u) (fop .mul .f32 (canon .f32 u) (canon .f32 tip)))], .bool (scO a l d s n c hub tip u)]) ∧ OwnT w' w.heap.size R1 R2 R3 R4 g1 g2 g3 g4 (gLp (scO a l d s n c hub tip u) a) (gLp (scO a l d s n c hub tip u) l) (gLp (scO a l d s n c hub tip u) d) (gLp (scO a l d s n c hub tip u) (mp3 (scG u) s)) ∧ Below w.heap.size w w' := by
  have HP := Lib.hid h; clear h
  have HON : Hid (validR a l d s n c hub tip = false → scO a l d s n c hub tip u = false) := Lib.hid scO_v
  have HOY : Hid (validR a l d s n c hub tip = true → scO a l d s n c hub tip u = validR a l d (mp3 (scG u) s) n c (fop .mul .f32 (canon .f32 u) (canon .f32 hub)) (fop .mul .f32 (canon .f32 u) (canon .f32 tip))) := Lib.hid (fun h1 => scO_y h1)
  generalize scO a l d s n c hub tip u = O at HON HOY ⊢
  obtain ⟨H', HHE⟩ : ∃ q, Hid (q = (fop .mul .f32 (canon .f32 u) (canon .f32 hub))) := ⟨_, rfl⟩
  obtain ⟨T', HTE⟩ : ∃ q, Hid (q = (fop .mul .f32 (canon .f32 u) (canon .f32 tip))) := ⟨_, rfl⟩
  obtain ⟨S', HSE⟩ : ∃ q, Hid (q = mp3 (scG u) s) := ⟨_, rfl⟩
  rw [← HSE.out, ← HHE.out, ← HTE.out] at HOY ⊢
  obtain ⟨w0, hw0⟩ : ∃ q, q = ((w.alloc (.cells #[.slice A a.length ca, .slice L l.length cl, .slice D d.length cd, .slice S n cs, .int .i64 c, .float .f32 hub, .float .f32 tip] 30)).alloc (.cells #[.float .f32 u] 25)).alloc (.cells #[.slice none 0 0, .slice none 0 0, .slice none 0 0, .slice none 0 0, .int .i64 0, .float .f32 0, .float .f32 0] 30) := ⟨_, rfl⟩
  have B0 : Hid (Below w.heap.size w w0) := Lib.hid (by rw [hw0]; exact (((Below.refl _ _).alloc (Nat.le_refl _) _).alloc (by simp) _).alloc (by simp; omega) _)
  have K0 : Hid (BlkL w0 w.heap.size [.slice A a.length ca, .slice L l.length cl, .slice D d.length cd, .slice S n cs, .int .i64 c, .float .f32 hub, .float .f32 tip]) := Lib.hid (by rw [hw0]; exact ((blkL_at w #[.slice A a.length ca, .slice L l.length cl, .slice D d.length cd, .slice S n cs, .int .i64 c, .float .f32 hub, .float .f32 tip] _ rfl).alloc _).alloc _)
  have KS : Hid (BlkL w0 (w.heap.size + 1) [.float .f32 u]) := Lib.hid (by rw [hw0]; exact (blkL_at (w.alloc _) #[.float .f32 u] _ (by simp)).alloc _)
  have KR : Hid (BlkL w0 (w.heap.size + 2) [.slice none 0 0, .slice none 0 0, .slice none 0 0, .slice none 0 0, .int .i64 0, .float .f32 0, .float .f32 0]) := Lib.hid (by rw [hw0]; exact blkL_at ((w.alloc _).alloc _) #[.slice none 0 0, .slice none 0 0, .slice none 0 0, .slice none 0 0, .int .i64 0, .float .f32 0, .float .f32 0] _ (by simp))
  have Z0 : Hid (w0.heap.size = w.heap.size + 3) := Lib.hid (by rw [hw0]; simp)
  obtain ⟨m0, m1, m2, m3, m4, m5, m6⟩ := K0.out.sevenT
  go_enter Try.func32, Try.ntmps32
  go_wp2_with fail
  rw [← hw0]
  clear hw0
  go_wp2_with fail
  refine (i_ValidRotor A L D S ca cl cd n cs c hub tip a l d s _ (HP.out.below B0.out) hn).mono ?_
  rintro e w1 ⟨rfl, b⟩
  clear m0 m1 m2 m3 m4 m5 m6
  have L0 : Hid (BlkL w1 w.heap.size [.slice A a.length ca, .slice L l.length cl, .slice D d.length cd, .slice S n cs, .int .i64 c, .float .f32 hub, .float .f32 tip]) := Lib.hid (K0.out.below b)
  have LS : Hid (BlkL w1 (w.heap.size + 1) [.float .f32 u]) := Lib.hid (KS.out.below b)
  have LR : Hid (BlkL w1 (w.heap.size + 2) [.slice none 0 0, .slice none 0 0, .slice none 0 0, .slice none 0 0, .int .i64 0, .float .f32 0, .float .f32 0]) := Lib.hid (KR.out.below b)
  have B1 : Hid (Below w.heap.size w w1) := Lib.hid (below_of B0.out B0.out.size b)
  have Z1 : Hid (w.heap.size + 3 ≤ w1.heap.size) := Lib.hid (by have := b.size; have := Z0.out; omega)
  clear b K0 KS KR B0 Z0
  cases v0 : validR a l d s n c hub tip
  · have HN := Lib.hid (HON.out v0)
    clear v0
    have p0 := (LR.out.2 0 _ rfl).1
    have q0 := (LR.out.2 0 _ rfl).2
    have p1 := (LR.out.2 1 _ rfl).1
    have q1 := (LR.out.2 1 _ rfl).2
    have p2 := (LR.out.2 2 _ rfl).1
    have q2 := (LR.out.2 2 _ rfl).2
    have p3 := (LR.out.2 3 _ rfl).1
    have q3 := (LR.out.2 3 _ rfl).2
    have p4 := (LR.out.2 4 _ rfl).1
    have q4 := (LR.out.2 4 _ rfl).2
    have p5 := (LR.out.2 5 _ rfl).1
    have q5 := (LR.out.2 5 _ rfl).2
    have p6 := (LR.out.2 6 _ rfl).1
    have q6 := (LR.out.2 6 _ rfl).2
    go_wp2
    refine bodyPost_ret (v := .tuple #[.agg #[.slice none 0 0, .slice none 0 0, .slice none 0 0, .slice none 0 0, .int .i64 0, .float .f32 0, .float .f32 0], .bool false]) ?_ rfl ?_
    · simp [results, Try.results32, go_sem, p0, p1, p2, p3, p4, p5, p6]
    · rw [HN.out]
      exact ⟨none, none, none, none, 0, 0, 0, 0, 0, 1, 2, 3, rfl, OwnT.none _ _, (((((((B1.out).setCell (p := ⟨w.heap.size + 2, 0, none⟩) (by show w.heap.size ≤ w.heap.size + 2; omega) _).setCell (p := ⟨w.heap.size + 2, 1, none⟩) (by show w.heap.size ≤ w.heap.size + 2; omega) _).setCell (p := ⟨w.heap.size + 2, 2, none⟩) (by show w.heap.size ≤ w.heap.size + 2; omega) _).setCell (p := ⟨w.heap.size + 2, 3, none⟩) (by show w.heap.size ≤ w.heap.size + 2; omega) _).setCell (p := ⟨w.heap.size + 2, 4, none⟩) (by show w.heap.size ≤ w.heap.size + 2; omega) _).setCell (p := ⟨w.heap.size + 2, 5, none⟩) (by show w.heap.size ≤ w.heap.size + 2; omega) _).setCell (p := ⟨w.heap.size + 2, 6, none⟩) (by show w.heap.size ≤ w.heap.size + 2; omega) _⟩
  · obtain ⟨vp, z1, z2, z3, z4⟩ := validR_parts v0
    have HO := Lib.hid (HOY.out v0)
    have HNW := Lib.hid hn
    clear v0 vp HON HOY hn
    obtain ⟨m0, m1, m2, m3, m4, m5, m6⟩ := L0.out.sevenT
    go_wp2_with fail
    refine (i_changeScaleRotor A L D S ca cl cd n cs c hub tip a l d s u _ _ (HP.out.below B1.out) HNW.out (by omega) z4 LS.out).mono ?_
    rintro e wr ⟨bk, ck, xs, rfl, ho, hlb, hcl, b⟩
    clear m0 m1 m2 m3 m4 m5 m6
    obtain ⟨BC, hBC⟩ : ∃ q, q = wr.heap.size := ⟨_, rfl⟩
    obtain ⟨wb, hwb⟩ : ∃ q, q = wr.alloc (.cells #[.slice A a.length ca, .slice L l.length cl, .slice D d.length cd, .slice (some ⟨bk, 0, none⟩) n ck, .int .i64 c, .float .f32 hub, .float .f32 tip] 30) := ⟨_, rfl⟩
    have bb : Below wr.heap.size wr wb := by rw [hwb]; exact (Below.refl _ _).alloc (Nat.le_refl _) _
    have KB : Hid (BlkL wb BC [.slice A a.length ca, .slice L l.length cl, .slice D d.length cd, .slice (some ⟨bk, 0, none⟩) n ck, .int .i64 c, .float .f32 hub, .float .f32 tip]) := Lib.hid (by rw [hwb, hBC]; exact blkL_at wr #[_, _, _, _, _, _, _] _ rfl)
    have HOB : Hid (Own wb bk xs) := Lib.hid (ho.below bb)
    have bq := below_of b b.size bb
    have LB : Hid (BlkL wb w.heap.size [.slice A a.length ca, .slice L l.length cl, .slice D d.length cd, .slice S n cs, .int .i64 c, .float .f32 hub, .float .f32 tip]) := Lib.hid (L0.out.below bq)
    have LSB : Hid (BlkL wb (w.heap.size + 1) [.float .f32 u]) := Lib.hid (LS.out.below bq)
    have LRB : Hid (BlkL wb (w.heap.size + 2) [.slice none 0 0, .slice none 0 0, .slice none 0 0, .slice none 0 0, .int .i64 0, .float .f32 0, .float .f32 0]) := Lib.hid (LR.out.below bq)
    have BWB : Hid (Below w.heap.size w wb) := Lib.hid (below_of B1.out B1.out.size bq)
    have HBC : Hid (bk < BC ∧ w.heap.size + 3 ≤ bk ∧ BC < wb.heap.size) := Lib.hid (by have := Z1.out; have := ho.1; rw [hwb, hBC]; refine ⟨by omega, by omega, by simp⟩)
    have hcl2 := Lib.hid hcl
    clear ho hlb hcl b bb bq L0 LS LR B1 Z1
    go_upto_region 4 with fail
    rw [← hwb, ← hBC]
    clear hwb hBC
    have k5 := (KB.out.2 5 _ rfl).1
    have f5 := (KB.out.2 5 _ rfl).2
    have k6 := (KB.out.2 6 _ rfl).1
    have f6 := (KB.out.2 6 _ rfl).2
    have m5 := (LB.out.2 5 _ rfl).1
    have m6 := (LB.out.2 6 _ rfl).1
    have u0 := (LSB.out.2 0 _ rfl).1
    go_wp2_with fail
    go_region
    all_goals
      first
        | (obtain ⟨wz, hh, tt, HZ⟩ : ∃ wz hh tt, Hid (wz = (((wb.drewN (1 + fopN BinOp.mul FloatKind.f32 u hub)).setCell ⟨BC, 5, none⟩ (.float .f32 hh)).drewN (fopN BinOp.mul FloatKind.f32 u tip)).setCell ⟨BC, 6, none⟩ (.float .f32 tt) ∧ hh = fopV BinOp.mul FloatKind.f32 u hub wb.drew ∧ tt = fopV BinOp.mul FloatKind.f32 u tip ((wb.drewN (1 + fopN BinOp.mul FloatKind.f32 u hub)).setCell ⟨BC, 5, none⟩ (.float .f32 hh))) := ⟨_, _, _, rfl, rfl, rfl⟩
           rw [← HZ.out.2.1, ← HZ.out.2.2, ← HZ.out.1]
           have HHH : Hid (canon .f32 hh = canon .f32 H') := Lib.hid (by rw [HZ.out.2.1, canon_fopV, HHE.out]; exact (canon_fop ..).symm)
           have HTT : Hid (canon .f32 tt = canon .f32 T') := Lib.hid (by rw [HZ.out.2.2, canon_fopV, HTE.out]; exact (canon_fop ..).symm)
           have HZ2 : Hid (∃ N M, wz = (((wb.drewN N).setCell ⟨BC, 5, none⟩ (.float .f32 hh)).drewN M).setCell ⟨BC, 6, none⟩ (.float .f32 tt)) := Lib.hid ⟨_, _, HZ.out.1⟩)
        | (obtain ⟨wz, hh, tt, HZ⟩ : ∃ wz hh tt, Hid (wz = ((wb.drewN (1 + fopN BinOp.mul FloatKind.f32 u hub + fopN BinOp.mul FloatKind.f32 u tip)).setCell ⟨BC, 5, none⟩ (.float .f32 hh)).setCell ⟨BC, 6, none⟩ (.float .f32 tt) ∧ hh = fopV BinOp.mul FloatKind.f32 u hub wb.drew ∧ tt = fopV BinOp.mul FloatKind.f32 u tip (wb.drewN (1 + fopN BinOp.mul FloatKind.f32 u hub))) := ⟨_, _, _, rfl, rfl, rfl⟩
           rw [← HZ.out.2.1, ← HZ.out.2.2, ← HZ.out.1]
           have HHH : Hid (canon .f32 hh = canon .f32 H') := Lib.hid (by rw [HZ.out.2.1, canon_fopV, HHE.out]; exact (canon_fop ..).symm)
           have HTT : Hid (canon .f32 tt = canon .f32 T') := Lib.hid (by rw [HZ.out.2.2, canon_fopV, HTE.out]; exact (canon_fop ..).symm)
           have HZ2 : Hid (∃ N M, wz = (((wb.drewN N).setCell ⟨BC, 5, none⟩ (.float .f32 hh)).drewN M).setCell ⟨BC, 6, none⟩ (.float .f32 tt)) := Lib.hid ⟨_, 0, HZ.out.1⟩)
        | (obtain ⟨wz, hh, tt, HZ⟩ : ∃ wz hh tt, Hid (wz = ((wb.drewN (1 + fopN BinOp.mul FloatKind.f32 u tip + fopN BinOp.mul FloatKind.f32 u hub)).setCell ⟨BC, 5, none⟩ (.float .f32 hh)).setCell ⟨BC, 6, none⟩ (.float .f32 tt) ∧ hh = fopV BinOp.mul FloatKind.f32 u hub (wb.drewN (1 + fopN BinOp.mul FloatKind.f32 u tip)) ∧ tt = fopV BinOp.mul FloatKind.f32 u tip wb.drew) := ⟨_, _, _, rfl, rfl, rfl⟩
           rw [← HZ.out.2.1, ← HZ.out.2.2, ← HZ.out.1]
           have HHH : Hid (canon .f32 hh = canon .f32 H') := Lib.hid (by rw [HZ.out.2.1, canon_fopV, HHE.out]; exact (canon_fop ..).symm)
           have HTT : Hid (canon .f32 tt = canon .f32 T') := Lib.hid (by rw [HZ.out.2.2, canon_fopV, HTE.out]; exact (canon_fop ..).symm)
           have HZ2 : Hid (∃ N M, wz = (((wb.drewN N).setCell ⟨BC, 5, none⟩ (.float .f32 hh)).drewN M).setCell ⟨BC, 6, none⟩ (.float .f32 tt)) := Lib.hid ⟨_, 0, HZ.out.1⟩)
      obtain ⟨N, M, HZ⟩ : ∃ N M, Hid (wz = (((wb.drewN N).setCell ⟨BC, 5, none⟩ (.float .f32 hh)).drewN M).setCell ⟨BC, 6, none⟩ (.float .f32 tt)) := by
        obtain ⟨N, M, hz⟩ := HZ2.out
        exact ⟨N, M, Lib.hid hz⟩
      have e1 := HBC.out
      have HX : Hid (validR a l d xs n c hh tt = validR a l d S' n c H' T' ∧ (validR a l d S' n c H' T' = true → xs = S' ∧ hh = H' ∧ tt = T')) := Lib.hid (by
        have hxl := hcl2.out.1
        rw [mp3_length] at hxl
        rw [HSE.out]
        exact validR_CL hcl2.out (hxl.trans HNW.out.1) HHH.out HTT.out)
      have HFW : Hid (FewR a l d xs n) := Lib.hid ⟨by have hxl := hcl2.out.1; rw [mp3_length] at hxl; exact hxl.trans HNW.out.1, HNW.out.2⟩
      have HOW : Hid (Own wz bk xs) := Lib.hid (by rw [HZ.out]; exact (((HOB.out.below (below_draws (Below.refl _ _) _)).setCell (by show BC ≠ _; omega) _).below (below_draws (Below.refl _ _) _)).setCell (by show BC ≠ _; omega) _)
      have BR : Hid (Below w.heap.size w wz) := Lib.hid (by rw [HZ.out]; exact (below_draws ((below_draws BWB.out _).setCell (by show w.heap.size ≤ BC; omega) _) _).setCell (by show w.heap.size ≤ BC; omega) _)
      have LRR : Hid (BlkL wz (w.heap.size + 2) [.slice none 0 0, .slice none 0 0, .slice none 0 0, .slice none 0 0, .int .i64 0, .float .f32 0, .float .f32 0]) := Lib.hid (by rw [HZ.out]; exact (((LRB.out.below (below_draws (Below.refl _ _) _)).other (by show BC ≠ _; omega) _).below (below_draws (Below.refl _ _) _)).other (by show BC ≠ _; omega) _)
      have HBL : Hid (BlkL wz BC [.slice A a.length ca, .slice L l.length cl, .slice D d.length cd, .slice (some ⟨bk, 0, none⟩) n ck, .int .i64 c, .float .f32 hh, .float .f32 tt]) := Lib.hid (by rw [HZ.out]; exact (((KB.out.below (below_draws (Below.refl _ _) _)).set (i := 5) (by simp) _).below (below_draws (Below.refl _ _) _)).set (i := 6) (by simp) _)
      have HLV : Hid (w.heap.size + 3 ≤ bk) := Lib.hid e1.2.1
      have HZW : Hid (w.heap.size + 3 ≤ wz.heap.size) := Lib.hid (by have := HOW.out.1; omega)
      have HRT : Hid (Rt wz A L D (some ⟨bk, 0, none⟩) a l d xs) := Lib.hid ⟨⟨HP.out.1.1.below BR.out, HP.out.1.2.1.below BR.out, HP.out.1.2.2.below BR.out⟩, HOW.out.fl⟩
      clear e1 hcl2 HSE HHE HTE HHH HTT HZ HZ2 KB HOB LB LSB LRB BWB HBC k5 f5 k6 f6 m5 m6 u0
      obtain ⟨k0, k1, k2, k3, k4, k5, k6⟩ := HBL.out.sevenT
      cases v : validR a l d xs n c hh tt
      · have HN : Hid (O = false) := Lib.hid (by rw [HO.out, ← HX.out.1, v])
        have HE := Lib.hid (i_withOwn_no A L D (some ⟨bk, 0, none⟩) ca cl cd n ck c hh tt a l d xs wz HRT.out HFW.out v)
        clear v
        go_wp2_with fail
        refine HE.out.mono ?_
        rintro e w6 ⟨rfl, b6⟩
        have B6 : Hid (Below w.heap.size w w6) := Lib.hid (below_of BR.out BR.out.size b6)
        have LR6 : Hid (BlkL w6 (w.heap.size + 2) [.slice none 0 0, .slice none 0 0, .slice none 0 0, .slice none 0 0, .int .i64 0, .float .f32 0, .float .f32 0]) := Lib.hid (LRR.out.below b6)
        clear b6
        try clear k0 k1 k2 k3 k4 k5 k6
        have p0 := (LR6.out.2 0 _ rfl).1
        have q0 := (LR6.out.2 0 _ rfl).2
        have p1 := (LR6.out.2 1 _ rfl).1
        have q1 := (LR6.out.2 1 _ rfl).2
        have p2 := (LR6.out.2 2 _ rfl).1
        have q2 := (LR6.out.2 2 _ rfl).2
        have p3 := (LR6.out.2 3 _ rfl).1
        have q3 := (LR6.out.2 3 _ rfl).2
        have p4 := (LR6.out.2 4 _ rfl).1
        have q4 := (LR6.out.2 4 _ rfl).2
        have p5 := (LR6.out.2 5 _ rfl).1
        have q5 := (LR6.out.2 5 _ rfl).2
        have p6 := (LR6.out.2 6 _ rfl).1
        have q6 := (LR6.out.2 6 _ rfl).2
        go_wp2
        refine bodyPost_ret (v := .tuple #[.agg #[.slice none 0 0, .slice none 0 0, .slice none 0 0, .slice none 0 0, .int .i64 0, .float .f32 0, .float .f32 0], .bool false]) ?_ rfl ?_
        · simp [results, Try.results32, go_sem, p0, p1, p2, p3, p4, p5, p6]
        · rw [HN.out]
          exact ⟨none, none, none, none, 0, 0, 0, 0, 0, 1, 2, 3, rfl, OwnT.none _ _, (((((((B6.out).setCell (p := ⟨w.heap.size + 2, 0, none⟩) (by show w.heap.size ≤ w.heap.size + 2; omega) _).setCell (p := ⟨w.heap.size + 2, 1, none⟩) (by show w.heap.size ≤ w.heap.size + 2; omega) _).setCell (p := ⟨w.heap.size + 2, 2, none⟩) (by show w.heap.size ≤ w.heap.size + 2; omega) _).setCell (p := ⟨w.heap.size + 2, 3, none⟩) (by show w.heap.size ≤ w.heap.size + 2; omega) _).setCell (p := ⟨w.heap.size + 2, 4, none⟩) (by show w.heap.size ≤ w.heap.size + 2; omega) _).setCell (p := ⟨w.heap.size + 2, 5, none⟩) (by show w.heap.size ≤ w.heap.size + 2; omega) _).setCell (p := ⟨w.heap.size + 2, 6, none⟩) (by show w.heap.size ≤ w.heap.size + 2; omega) _⟩
      · have HN : Hid (O = true) := Lib.hid (by rw [HO.out, ← HX.out.1, v])
        obtain ⟨EQ, EQh, EQt⟩ := HX.out.2 (by rw [← HX.out.1, v])
        subst EQ
        subst EQh EQt
        have HE := Lib.hid (i_withOwn_yes A L D (some ⟨bk, 0, none⟩) ca cl cd n ck c hh tt a l d xs wz HRT.out HFW.out v)
        clear v
        go_wp2_with fail
        refine HE.out.mono ?_
        rintro e w6 ⟨b1, b2, b3, c1, c2, c3, rfl, h3, b6⟩
        have B6 : Hid (Below w.heap.size w w6) := Lib.hid (below_of BR.out BR.out.size b6)
        have LR6 : Hid (BlkL w6 (w.heap.size + 2) [.slice none 0 0, .slice none 0 0, .slice none 0 0, .slice none 0 0, .int .i64 0, .float .f32 0, .float .f32 0]) := Lib.hid (LRR.out.below b6)
        have HT6 : Hid (OwnT w6 (w.heap.size + 3) (some ⟨b1, 0, none⟩) (some ⟨b2, 0, none⟩) (some ⟨b3, 0, none⟩) (some ⟨bk, 0, none⟩) b1 b2 b3 bk a l d xs) := Lib.hid (by
          obtain ⟨o1, o2, o3, g1, g2, g3, n1, n2, n3⟩ := h3
          have e1 := HLV.out
          have e2 := HOW.out.1
          have e3 := HZW.out
          exact ⟨⟨o1.o (by omega), o2.o (by omega), o3.o (by omega), n1, n2, n3⟩, (HOW.out.below b6).o (by omega), by omega, by omega, by omega⟩)
        clear b6 h3
        try clear k0 k1 k2 k3 k4 k5 k6
        have p0 := (LR6.out.2 0 _ rfl).1
        have q0 := (LR6.out.2 0 _ rfl).2
        have p1 := (LR6.out.2 1 _ rfl).1
        have q1 := (LR6.out.2 1 _ rfl).2
        have p2 := (LR6.out.2 2 _ rfl).1
        have q2 := (LR6.out.2 2 _ rfl).2
        have p3 := (LR6.out.2 3 _ rfl).1
        have q3 := (LR6.out.2 3 _ rfl).2
        have p4 := (LR6.out.2 4 _ rfl).1
        have q4 := (LR6.out.2 4 _ rfl).2
        have p5 := (LR6.out.2 5 _ rfl).1
        have q5 := (LR6.out.2 5 _ rfl).2
        have p6 := (LR6.out.2 6 _ rfl).1
        have q6 := (LR6.out.2 6 _ rfl).2
        go_wp2
        refine bodyPost_ret (v := .tuple #[.agg #[.slice (some ⟨b1, 0, none⟩) a.length c1, .slice (some ⟨b2, 0, none⟩) l.length c2, .slice (some ⟨b3, 0, none⟩) d.length c3, .slice (some ⟨bk, 0, none⟩) n ck, .int .i64 c, .float .f32 hh, .float .f32 tt], .bool true]) ?_ rfl ?_
        · simp [results, Try.results32, go_sem, p0, p1, p2, p3, p4, p5, p6]
        · rw [HN.out]
          exact ⟨_, _, _, _, c1, c2, c3, ck, b1, b2, b3, bk, rfl, ((((((((HT6.out).setT (p := ⟨w.heap.size + 2, 0, none⟩) (by show w.heap.size + 2 < _; omega) _).setT (p := ⟨w.heap.size + 2, 1, none⟩) (by show w.heap.size + 2 < _; omega) _).setT (p := ⟨w.heap.size + 2, 2, none⟩) (by show w.heap.size + 2 < _; omega) _).setT (p := ⟨w.heap.size + 2, 3, none⟩) (by show w.heap.size + 2 < _; omega) _).setT (p := ⟨w.heap.size + 2, 4, none⟩) (by show w.heap.size + 2 < _; omega) _).setT (p := ⟨w.heap.size + 2, 5, none⟩) (by show w.heap.size + 2 < _; omega) _).setT (p := ⟨w.heap.size + 2, 6, none⟩) (by show w.heap.size + 2 < _; omega) _).baseT (by omega), (((((((B6.out).setCell (p := ⟨w.heap.size + 2, 0, none⟩) (by show w.heap.size ≤ w.heap.size + 2; omega) _).setCell (p := ⟨w.heap.size + 2, 1, none⟩) (by show w.heap.size ≤ w.heap.size + 2; omega) _).setCell (p := ⟨w.heap.size + 2, 2, none⟩) (by show w.heap.size ≤ w.heap.size + 2; omega) _).setCell (p := ⟨w.heap.size + 2, 3, none⟩) (by show w.heap.size ≤ w.heap.size + 2; omega) _).setCell (p := ⟨w.heap.size + 2, 4, none⟩) (by show w.heap.size ≤ w.heap.size + 2; omega) _).setCell (p := ⟨w.heap.size + 2, 5, none⟩) (by show w.heap.size ≤ w.heap.size + 2; omega) _).setCell (p := ⟨w.heap.size + 2, 6, none⟩) (by show w.heap.size ≤ w.heap.size + 2; omega) _⟩
end Go.Proofs.Ytiiiigldpbomkaa
