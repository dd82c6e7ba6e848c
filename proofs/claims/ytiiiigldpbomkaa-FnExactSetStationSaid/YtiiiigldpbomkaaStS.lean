/- SetStation: the specification. No statement is proved here. -/
import Derived.Test.YtiiiigldpbomkaaStM
namespace Go.Proofs.Ytiiiigldpbomkaa
open Go Go.RowKit
set_option maxHeartbeats 16000000 in
set_option maxRecDepth 100000 in
theorem s_SetStation (A L D S : Option Addr) (ca cl cd n cs : Nat) (c : Int) (hub tip : Nat) (a l d s : List Nat) (i : Int) (x y z : Nat) (w : World) (h : Rt w A L D S a l d s) (hn : FewR a l d s n) :
    Calls Try.prog 25 #[.agg #[.slice A a.length ca, .slice L l.length cl, .slice D d.length cd, .slice S n cs, .int .i64 c, .float .f32 hub, .float .f32 tip], .int .i64 i, .agg #[.float .f32 x, .float .f32 y, .float .f32 z]] w fun e w' => ∃ (R1 R2 R3 R4 : Option Addr) (c1 c2 c3 c4 g1 g2 g3 g4 : Nat), e = .returned (.tuple #[.agg #[.slice R1 (gLp (stO a l d s n c hub tip (hasT n i) (setSt s i.toNat x y z) hub tip) a).length c1, .slice R2 (gLp (stO a l d s n c hub tip (hasT n i) (setSt s i.toNat x y z) hub tip) l).length c2, .slice R3 (gLp (stO a l d s n c hub tip (hasT n i) (setSt s i.toNat x y z) hub tip) d).length c3, .slice R4 (gN (stO a l d s n c hub tip (hasT n i) (setSt s i.toNat x y z) hub tip) n) c4, .int .i64 (gC (stO a l d s n c hub tip (hasT n i) (setSt s i.toNat x y z) hub tip) c), .float .f32 (gN (stO a l d s n c hub tip (hasT n i) (setSt s i.toNat x y z) hub tip) hub), .float .f32 (gN (stO a l d s n c hub tip (hasT n i) (setSt s i.toNat x y z) hub tip) tip)], .bool (stO a l d s n c hub tip (hasT n i) (setSt s i.toNat x y z) hub tip)]) ∧ OwnT w' w.heap.size R1 R2 R3 R4 g1 g2 g3 g4 (gLp (stO a l d s n c hub tip (hasT n i) (setSt s i.toNat x y z) hub tip) a) (gLp (stO a l d s n c hub tip (hasT n i) (setSt s i.toNat x y z) hub tip) l) (gLp (stO a l d s n c hub tip (hasT n i) (setSt s i.toNat x y z) hub tip) d) (gLp (stO a l d s n c hub tip (hasT n i) (setSt s i.toNat x y z) hub tip) (setSt s i.toNat x y z)) ∧ Below w.heap.size w w' := by
  have HP := Lib.hid h; clear h
  have HON : Hid ((validR a l d s n c hub tip && hasT n i) = false → stO a l d s n c hub tip (hasT n i) (setSt s i.toNat x y z) hub tip = false) := Lib.hid (fun h => by
    cases v : validR a l d s n c hub tip
    · exact stO_v v
    · rw [v, Bool.true_and] at h; exact stO_k h)
  have HOY : Hid (validR a l d s n c hub tip = true → hasT n i = true → stO a l d s n c hub tip (hasT n i) (setSt s i.toNat x y z) hub tip = validR a l d (setSt s i.toNat x y z) n c hub tip) := Lib.hid (fun h1 h2 => stO_y h1 h2)
  generalize stO a l d s n c hub tip (hasT n i) (setSt s i.toNat x y z) hub tip = O at HON HOY ⊢
  obtain ⟨S', HSE⟩ : ∃ q, Hid (q = setSt s i.toNat x y z) := ⟨_, rfl⟩
  rw [← HSE.out] at HOY ⊢
  obtain ⟨w0, hw0⟩ : ∃ q, q = ((w.alloc (.cells #[.slice A a.length ca, .slice L l.length cl, .slice D d.length cd, .slice S n cs, .int .i64 c, .float .f32 hub, .float .f32 tip] 30)).alloc (.cells #[.float .f32 x, .float .f32 y, .float .f32 z] 47)).alloc (.cells #[.slice none 0 0, .slice none 0 0, .slice none 0 0, .slice none 0 0, .int .i64 0, .float .f32 0, .float .f32 0] 30) := ⟨_, rfl⟩
  have B0 : Hid (Below w.heap.size w w0) := Lib.hid (by rw [hw0]; exact (((Below.refl _ _).alloc (Nat.le_refl _) _).alloc (by simp) _).alloc (by simp; omega) _)
  have K0 : Hid (BlkL w0 w.heap.size [.slice A a.length ca, .slice L l.length cl, .slice D d.length cd, .slice S n cs, .int .i64 c, .float .f32 hub, .float .f32 tip]) := Lib.hid (by rw [hw0]; exact ((blkL_at w #[.slice A a.length ca, .slice L l.length cl, .slice D d.length cd, .slice S n cs, .int .i64 c, .float .f32 hub, .float .f32 tip] _ rfl).alloc _).alloc _)
  have KS : Hid (BlkL w0 (w.heap.size + 1) [.float .f32 x, .float .f32 y, .float .f32 z]) := Lib.hid (by rw [hw0]; exact (blkL_at (w.alloc _) #[.float .f32 x, .float .f32 y, .float .f32 z] _ (by simp)).alloc _)
  have KR : Hid (BlkL w0 (w.heap.size + 2) [.slice none 0 0, .slice none 0 0, .slice none 0 0, .slice none 0 0, .int .i64 0, .float .f32 0, .float .f32 0]) := Lib.hid (by rw [hw0]; exact blkL_at ((w.alloc _).alloc _) #[.slice none 0 0, .slice none 0 0, .slice none 0 0, .slice none 0 0, .int .i64 0, .float .f32 0, .float .f32 0] _ (by simp))
  have Z0 : Hid (w0.heap.size = w.heap.size + 3) := Lib.hid (by rw [hw0]; simp)
  go_enter Try.func25, Try.ntmps25
  go_wp2_with fail
  rw [← hw0]
  clear hw0
  refine (s_l03StationT A L D S ca cl cd n cs c hub tip a l d s i w.heap.size _ (HP.out.below B0.out) hn K0.out).mono ?_
  rintro e w1 ⟨rfl, b⟩
  have L0 : Hid (BlkL w1 w.heap.size [.slice A a.length ca, .slice L l.length cl, .slice D d.length cd, .slice S n cs, .int .i64 c, .float .f32 hub, .float .f32 tip]) := Lib.hid (K0.out.below b)
  have LS : Hid (BlkL w1 (w.heap.size + 1) [.float .f32 x, .float .f32 y, .float .f32 z]) := Lib.hid (KS.out.below b)
  have LR : Hid (BlkL w1 (w.heap.size + 2) [.slice none 0 0, .slice none 0 0, .slice none 0 0, .slice none 0 0, .int .i64 0, .float .f32 0, .float .f32 0]) := Lib.hid (KR.out.below b)
  have B1 : Hid (Below w.heap.size w w1) := Lib.hid (below_of B0.out B0.out.size b)
  have Z1 : Hid (w.heap.size + 3 ≤ w1.heap.size) := Lib.hid (by have := b.size; have := Z0.out; omega)
  clear b K0 KS KR B0 Z0
  cases v0 : (validR a l d s n c hub tip && hasT n i)
  · have HN := Lib.hid (HON.out v0)
    clear v0
    have p0 := (LR.out.2 0 _ rfl).1
    have q0 := (LR.out.2 0 _ rfl).2
    have p1 := (LR.out.2 1 _ rfl).1
    have q1 := (LR.out.2 1 _ rfl).2
    have p2 := (LR.out.2 2 _ rfl).1
    have q2 := (LR.out.2 2 _ rfl).2
    have p3 := (LR.out.2 3 _ rfl).1
    have q3 := (LR.out.2 3 _ rfl).2
    have p4 := (LR.out.2 4 _ rfl).1
    have q4 := (LR.out.2 4 _ rfl).2
    have p5 := (LR.out.2 5 _ rfl).1
    have q5 := (LR.out.2 5 _ rfl).2
    have p6 := (LR.out.2 6 _ rfl).1
    have q6 := (LR.out.2 6 _ rfl).2
    go_wp2
    refine bodyPost_ret (v := .tuple #[.agg #[.slice none 0 0, .slice none 0 0, .slice none 0 0, .slice none 0 0, .int .i64 0, .float .f32 0, .float .f32 0], .bool false]) ?_ rfl ?_
    · simp [results, Try.results25, go_sem, p0, p1, p2, p3, p4, p5, p6]
    · rw [HN.out]
      exact ⟨none, none, none, none, 0, 0, 0, 0, 0, 1, 2, 3, rfl, OwnT.none _ _, (((((((B1.out).setCell (p := ⟨w.heap.size + 2, 0, none⟩) (by show w.heap.size ≤ w.heap.size + 2; omega) _).setCell (p := ⟨w.heap.size + 2, 1, none⟩) (by show w.heap.size ≤ w.heap.size + 2; omega) _).setCell (p := ⟨w.heap.size + 2, 2, none⟩) (by show w.heap.size ≤ w.heap.size + 2; omega) _).setCell (p := ⟨w.heap.size + 2, 3, none⟩) (by show w.heap.size ≤ w.heap.size + 2; omega) _).setCell (p := ⟨w.heap.size + 2, 4, none⟩) (by show w.heap.size ≤ w.heap.size + 2; omega) _).setCell (p := ⟨w.heap.size + 2, 5, none⟩) (by show w.heap.size ≤ w.heap.size + 2; omega) _).setCell (p := ⟨w.heap.size + 2, 6, none⟩) (by show w.heap.size ≤ w.heap.size + 2; omega) _⟩
  · obtain ⟨v1, hI⟩ := Bool.and_eq_true_iff.1 v0
    obtain ⟨vp, z1, z2, z3, z4⟩ := validR_parts v1
    obtain ⟨s1, s2, s3, s4⟩ := sized_of vp
    have h1 : 1 ≤ a.length := by omega
    have h2 : 1 ≤ l.length := by omega
    have h3 : 1 ≤ d.length := by omega
    have HO := Lib.hid (HOY.out v1 hI)
    unfold hasT at hI
    obtain ⟨k, hik⟩ : ∃ k : Nat, i = k := ⟨i.toNat, by have := of_decide_eq_true hI; omega⟩
    have hlt : k < n := by have := of_decide_eq_true hI; omega
    have HSL := Lib.hid hn.1
    have hnb : n ≤ 12 := z4
    subst hik
    have HSE' : Hid (S' = setSt s k x y z) := Lib.hid HSE.out
    have HFW : Hid (FewR a l d S' n) := Lib.hid ⟨by rw [HSE'.out, setSt_length]; exact hn.1, hn.2⟩
    have HNW := Lib.hid hn
    clear v0 v1 hI HON HOY vp s1 s2 s3 s4 z1 z2 z3 z4 HSE hn
    go_wp2_with fail
    refine (s_l03Own A L D S ca cl cd n cs c hub tip a l d s w.heap.size _ (HP.out.below B1.out) HNW.out h1 h2 h3 (by omega) L0.out).mono ?_
    rintro e w2 ⟨b1, b2, b3, b4, c1, c2, c3, c4, rfl, o1, o2, o3, o4, g1, g2, g3, g4, b⟩
    obtain ⟨wb, hwb⟩ : ∃ q, q = w2.alloc (.cells #[.slice (some ⟨b1, 0, none⟩) a.length c1, .slice (some ⟨b2, 0, none⟩) l.length c2, .slice (some ⟨b3, 0, none⟩) d.length c3, .slice (some ⟨b4, 0, none⟩) n c4, .int .i64 c, .float .f32 hub, .float .f32 tip] 30) := ⟨_, rfl⟩
    have bb : Below w2.heap.size w2 wb := by rw [hwb]; exact (Below.refl _ _).alloc (Nat.le_refl _) _
    have bq := below_of b b.size bb
    have KB : Hid (BlkL wb w2.heap.size [.slice (some ⟨b1, 0, none⟩) a.length c1, .slice (some ⟨b2, 0, none⟩) l.length c2, .slice (some ⟨b3, 0, none⟩) d.length c3, .slice (some ⟨b4, 0, none⟩) n c4, .int .i64 c, .float .f32 hub, .float .f32 tip]) := Lib.hid (by rw [hwb]; exact blkL_at w2 #[_, _, _, _, _, _, _] _ rfl)
    have KS : Hid (BlkL wb (w.heap.size + 1) [.float .f32 x, .float .f32 y, .float .f32 z]) := Lib.hid (LS.out.below bq)
    have KR : Hid (BlkL wb (w.heap.size + 2) [.slice none 0 0, .slice none 0 0, .slice none 0 0, .slice none 0 0, .int .i64 0, .float .f32 0, .float .f32 0]) := Lib.hid (LR.out.below bq)
    have Q1 := Lib.hid (o1.below bb)
    have Q2 := Lib.hid (o2.below bb)
    have Q3 := Lib.hid (o3.below bb)
    have Q4 := Lib.hid (o4.below bb)
    have HLV : Hid (w.heap.size + 3 ≤ b1 ∧ b1 < b2 ∧ b2 < b3 ∧ b3 < b4) := Lib.hid (by have := Z1.out; omega)
    have HLB : Hid (b4 < w2.heap.size) := Lib.hid o4.1
    have BB : Hid (Below w.heap.size w wb) := Lib.hid (below_of B1.out B1.out.size bq)
    clear o1 o2 o3 o4 g1 g2 g3 g4 b bb bq L0 LS LR B1
    go_upto_region 4 with fail
    rw [← hwb]
    clear hwb
    have k3 := (KB.out.2 3 _ rfl).1
    obtain ⟨j0, j1, j2⟩ := KS.out.three
    obtain ⟨x0, f0⟩ := Q4.out.2 (k * 3) (by rw [HSL.out]; omega)
    obtain ⟨x1, f1⟩ := Q4.out.2 (k * 3 + 1) (by rw [HSL.out]; omega)
    obtain ⟨x2, f2⟩ := Q4.out.2 (k * 3 + 2) (by rw [HSL.out]; omega)
    obtain ⟨wr, hwr⟩ : ∃ q, q = ((wb.setCell ⟨b4, k * 3, none⟩ (.float .f32 x)).setCell ⟨b4, k * 3 + 1, none⟩ (.float .f32 y)).setCell ⟨b4, k * 3 + 2, none⟩ (.float .f32 z) := ⟨_, rfl⟩
    have e1 := HLV.out
    have e2 := HLB.out
    have HBL : Hid (BlkL wr w2.heap.size [.slice (some ⟨b1, 0, none⟩) a.length c1, .slice (some ⟨b2, 0, none⟩) l.length c2, .slice (some ⟨b3, 0, none⟩) d.length c3, .slice (some ⟨b4, 0, none⟩) n c4, .int .i64 c, .float .f32 hub, .float .f32 tip]) := Lib.hid (by rw [hwr]; exact ((KB.out.other (by show b4 ≠ _; omega) _).other (by show b4 ≠ _; omega) _).other (by show b4 ≠ _; omega) _)
    have LRR : Hid (BlkL wr (w.heap.size + 2) [.slice none 0 0, .slice none 0 0, .slice none 0 0, .slice none 0 0, .int .i64 0, .float .f32 0, .float .f32 0]) := Lib.hid (by rw [hwr]; exact ((KR.out.other (by show b4 ≠ _; omega) _).other (by show b4 ≠ _; omega) _).other (by show b4 ≠ _; omega) _)
    have P1 : Hid (Own wr b1 a) := Lib.hid (by rw [hwr]; exact ((Q1.out.setCell (by show b4 ≠ _; omega) _).setCell (by show b4 ≠ _; omega) _).setCell (by show b4 ≠ _; omega) _)
    have P2 : Hid (Own wr b2 l) := Lib.hid (by rw [hwr]; exact ((Q2.out.setCell (by show b4 ≠ _; omega) _).setCell (by show b4 ≠ _; omega) _).setCell (by show b4 ≠ _; omega) _)
    have P3 : Hid (Own wr b3 d) := Lib.hid (by rw [hwr]; exact ((Q3.out.setCell (by show b4 ≠ _; omega) _).setCell (by show b4 ≠ _; omega) _).setCell (by show b4 ≠ _; omega) _)
    have P4 : Hid (Own wr b4 S') := Lib.hid (by rw [hwr, HSE'.out]; exact Q4.out.putSt HSL.out hlt)
    have BR : Hid (Below w.heap.size w wr) := Lib.hid (by rw [hwr]; exact ((BB.out.setCell (by show w.heap.size ≤ b4; omega) _).setCell (by show w.heap.size ≤ b4; omega) _).setCell (by show w.heap.size ≤ b4; omega) _)
    clear KB KS KR Q1 Q2 Q3 Q4 BB e1 e2 HSE'
    go_upto_region 5 with fail
    rw [← hwr]
    clear hwr k3 j0 j1 j2 x0 x1 x2 f0 f1 f2
    obtain ⟨k0, k1, k2, k3, k4, k5, k6⟩ := HBL.out.sevenT
    have HRT : Hid (Rt wr (some ⟨b1, 0, none⟩) (some ⟨b2, 0, none⟩) (some ⟨b3, 0, none⟩) (some ⟨b4, 0, none⟩) a l d S') := Lib.hid ⟨⟨P1.out.fl, P2.out.fl, P3.out.fl⟩, P4.out.fl⟩
    cases v : validR a l d S' n c hub tip
    · have HN : Hid (O = false) := Lib.hid (by rw [HO.out, v])
      have HE := Lib.hid (s_l03Give_no (some ⟨b1, 0, none⟩) (some ⟨b2, 0, none⟩) (some ⟨b3, 0, none⟩) (some ⟨b4, 0, none⟩) c1 c2 c3 n c4 c hub tip a l d S' wr HRT.out HFW.out v)
      clear v
      go_wp2_with fail
      refine HE.out.mono ?_
      rintro e w6 ⟨rfl, b6⟩
      have B6 : Hid (Below w.heap.size w w6) := Lib.hid (below_of BR.out BR.out.size b6)
      have LR6 : Hid (BlkL w6 (w.heap.size + 2) [.slice none 0 0, .slice none 0 0, .slice none 0 0, .slice none 0 0, .int .i64 0, .float .f32 0, .float .f32 0]) := Lib.hid (LRR.out.below b6)
      have HT6 : Hid (OwnT w6 (w.heap.size + 3) (some ⟨b1, 0, none⟩) (some ⟨b2, 0, none⟩) (some ⟨b3, 0, none⟩) (some ⟨b4, 0, none⟩) b1 b2 b3 b4 a l d S') := Lib.hid (by
        have := HLV.out
        exact ⟨⟨(P1.out.below b6).o (by omega), (P2.out.below b6).o (by omega), (P3.out.below b6).o (by omega), by omega, by omega, by omega⟩, (P4.out.below b6).o (by omega), by omega, by omega, by omega⟩)
      clear b6 k0 k1 k2 k3 k4 k5 k6
      have p0 := (LR6.out.2 0 _ rfl).1
      have q0 := (LR6.out.2 0 _ rfl).2
      have p1 := (LR6.out.2 1 _ rfl).1
      have q1 := (LR6.out.2 1 _ rfl).2
      have p2 := (LR6.out.2 2 _ rfl).1
      have q2 := (LR6.out.2 2 _ rfl).2
      have p3 := (LR6.out.2 3 _ rfl).1
      have q3 := (LR6.out.2 3 _ rfl).2
      have p4 := (LR6.out.2 4 _ rfl).1
      have q4 := (LR6.out.2 4 _ rfl).2
      have p5 := (LR6.out.2 5 _ rfl).1
      have q5 := (LR6.out.2 5 _ rfl).2
      have p6 := (LR6.out.2 6 _ rfl).1
      have q6 := (LR6.out.2 6 _ rfl).2
      go_wp2
      refine bodyPost_ret (v := .tuple #[.agg #[.slice none 0 0, .slice none 0 0, .slice none 0 0, .slice none 0 0, .int .i64 0, .float .f32 0, .float .f32 0], .bool false]) ?_ rfl ?_
      · simp [results, Try.results25, go_sem, p0, p1, p2, p3, p4, p5, p6]
      · rw [HN.out]
        exact ⟨none, none, none, none, 0, 0, 0, 0, 0, 1, 2, 3, rfl, OwnT.none _ _, (((((((B6.out).setCell (p := ⟨w.heap.size + 2, 0, none⟩) (by show w.heap.size ≤ w.heap.size + 2; omega) _).setCell (p := ⟨w.heap.size + 2, 1, none⟩) (by show w.heap.size ≤ w.heap.size + 2; omega) _).setCell (p := ⟨w.heap.size + 2, 2, none⟩) (by show w.heap.size ≤ w.heap.size + 2; omega) _).setCell (p := ⟨w.heap.size + 2, 3, none⟩) (by show w.heap.size ≤ w.heap.size + 2; omega) _).setCell (p := ⟨w.heap.size + 2, 4, none⟩) (by show w.heap.size ≤ w.heap.size + 2; omega) _).setCell (p := ⟨w.heap.size + 2, 5, none⟩) (by show w.heap.size ≤ w.heap.size + 2; omega) _).setCell (p := ⟨w.heap.size + 2, 6, none⟩) (by show w.heap.size ≤ w.heap.size + 2; omega) _⟩
    · have HN : Hid (O = true) := Lib.hid (by rw [HO.out, v])
      have HE := Lib.hid (s_l03Give_yes (some ⟨b1, 0, none⟩) (some ⟨b2, 0, none⟩) (some ⟨b3, 0, none⟩) (some ⟨b4, 0, none⟩) c1 c2 c3 n c4 c hub tip a l d S' wr HRT.out HFW.out v)
      clear v
      go_wp2_with fail
      refine HE.out.mono ?_
      rintro e w6 ⟨rfl, b6⟩
      have B6 : Hid (Below w.heap.size w w6) := Lib.hid (below_of BR.out BR.out.size b6)
      have LR6 : Hid (BlkL w6 (w.heap.size + 2) [.slice none 0 0, .slice none 0 0, .slice none 0 0, .slice none 0 0, .int .i64 0, .float .f32 0, .float .f32 0]) := Lib.hid (LRR.out.below b6)
      have HT6 : Hid (OwnT w6 (w.heap.size + 3) (some ⟨b1, 0, none⟩) (some ⟨b2, 0, none⟩) (some ⟨b3, 0, none⟩) (some ⟨b4, 0, none⟩) b1 b2 b3 b4 a l d S') := Lib.hid (by
        have := HLV.out
        exact ⟨⟨(P1.out.below b6).o (by omega), (P2.out.below b6).o (by omega), (P3.out.below b6).o (by omega), by omega, by omega, by omega⟩, (P4.out.below b6).o (by omega), by omega, by omega, by omega⟩)
      clear b6 k0 k1 k2 k3 k4 k5 k6
      have p0 := (LR6.out.2 0 _ rfl).1
      have q0 := (LR6.out.2 0 _ rfl).2
      have p1 := (LR6.out.2 1 _ rfl).1
      have q1 := (LR6.out.2 1 _ rfl).2
      have p2 := (LR6.out.2 2 _ rfl).1
      have q2 := (LR6.out.2 2 _ rfl).2
      have p3 := (LR6.out.2 3 _ rfl).1
      have q3 := (LR6.out.2 3 _ rfl).2
      have p4 := (LR6.out.2 4 _ rfl).1
      have q4 := (LR6.out.2 4 _ rfl).2
      have p5 := (LR6.out.2 5 _ rfl).1
      have q5 := (LR6.out.2 5 _ rfl).2
      have p6 := (LR6.out.2 6 _ rfl).1
      have q6 := (LR6.out.2 6 _ rfl).2
      go_wp2
      refine bodyPost_ret (v := .tuple #[.agg #[.slice (some ⟨b1, 0, none⟩) a.length c1, .slice (some ⟨b2, 0, none⟩) l.length c2, .slice (some ⟨b3, 0, none⟩) d.length c3, .slice (some ⟨b4, 0, none⟩) n c4, .int .i64 c, .float .f32 hub, .float .f32 tip], .bool true]) ?_ rfl ?_
      · simp [results, Try.results25, go_sem, p0, p1, p2, p3, p4, p5, p6]
      · rw [HN.out]
        exact ⟨_, _, _, _, c1, c2, c3, c4, b1, b2, b3, b4, rfl, ((((((((HT6.out).setT (p := ⟨w.heap.size + 2, 0, none⟩) (by show w.heap.size + 2 < _; omega) _).setT (p := ⟨w.heap.size + 2, 1, none⟩) (by show w.heap.size + 2 < _; omega) _).setT (p := ⟨w.heap.size + 2, 2, none⟩) (by show w.heap.size + 2 < _; omega) _).setT (p := ⟨w.heap.size + 2, 3, none⟩) (by show w.heap.size + 2 < _; omega) _).setT (p := ⟨w.heap.size + 2, 4, none⟩) (by show w.heap.size + 2 < _; omega) _).setT (p := ⟨w.heap.size + 2, 5, none⟩) (by show w.heap.size + 2 < _; omega) _).setT (p := ⟨w.heap.size + 2, 6, none⟩) (by show w.heap.size + 2 < _; omega) _).baseT (by omega), (((((((B6.out).setCell (p := ⟨w.heap.size + 2, 0, none⟩) (by show w.heap.size ≤ w.heap.size + 2; omega) _).setCell (p := ⟨w.heap.size + 2, 1, none⟩) (by show w.heap.size ≤ w.heap.size + 2; omega) _).setCell (p := ⟨w.heap.size + 2, 2, none⟩) (by show w.heap.size ≤ w.heap.size + 2; omega) _).setCell (p := ⟨w.heap.size + 2, 3, none⟩) (by show w.heap.size ≤ w.heap.size + 2; omega) _).setCell (p := ⟨w.heap.size + 2, 4, none⟩) (by show w.heap.size ≤ w.heap.size + 2; omega) _).setCell (p := ⟨w.heap.size + 2, 5, none⟩) (by show w.heap.size ≤ w.heap.size + 2; omega) _).setCell (p := ⟨w.heap.size + 2, 6, none⟩) (by show w.heap.size ≤ w.heap.size + 2; omega) _⟩
end Go.Proofs.Ytiiiigldpbomkaa
