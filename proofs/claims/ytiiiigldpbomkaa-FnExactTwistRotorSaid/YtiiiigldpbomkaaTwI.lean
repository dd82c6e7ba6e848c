/- TwistRotor: the program. No statement is proved here. -/
import Derived.Test.YtiiiigldpbomkaaTwC
namespace Go.Proofs.Ytiiiigldpbomkaa
open Go Go.RowKit
set_option maxHeartbeats 16000000 in
set_option maxRecDepth 100000 in
theorem i_TwistRotor (A L D S : Option Addr) (ca cl cd n cs : Nat) (c : Int) (hub tip : Nat) (a l d s : List Nat) (u : Nat) (w : World) (h : Rt w A L D S a l d s) (hn : FewR a l d s n) :
    Calls Try.prog 30 #[.agg #[.slice A a.length ca, .slice L l.length cl, .slice D d.length cd, .slice S n cs, .int .i64 c, .float .f32 hub, .float .f32 tip], .float .f32 u] w fun e w' => ∃ (R1 R2 R3 R4 : Option Addr) (c1 c2 c3 c4 g1 g2 g3 g4 : Nat), e = .returned (.tuple #[.agg #[.slice R1 (gLp (stO a l d s n c hub tip true (mp3 (twG u) s) hub tip) a).length c1, .slice R2 (gLp (stO a l d s n c hub tip true (mp3 (twG u) s) hub tip) l).length c2, .slice R3 (gLp (stO a l d s n c hub tip true (mp3 (twG u) s) hub tip) d).length c3, .slice R4 (gN (stO a l d s n c hub tip true (mp3 (twG u) s) hub tip) n) c4, .int .i64 (gC (stO a l d s n c hub tip true (mp3 (twG u) s) hub tip) c), .float .f32 (gN (stO a l d s n c hub tip true (mp3 (twG u) s) hub tip) hub), .float .f32 (gN (stO a l d s n c hub tip true (mp3 (twG u) s) hub tip) tip)], .bool (stO a l d s n c hub tip true (mp3 (twG u) s) hub tip)]) ∧ OwnT w' w.heap.size R1 R2 R3 R4 g1 g2 g3 g4 (gLp (stO a l d s n c hub tip true (mp3 (twG u) s) hub tip) a) (gLp (stO a l d s n c hub tip true (mp3 (twG u) s) hub tip) l) (gLp (stO a l d s n c hub tip true (mp3 (twG u) s) hub tip) d) (gLp (stO a l d s n c hub tip true (mp3 (twG u) s) hub tip) (mp3 (twG u) s)) ∧ Below w.heap.size w w' := by
  have HP := Lib.hid h; clear h
  have HON : Hid (validR a l d s n c hub tip = false → stO a l d s n c hub tip true (mp3 (twG u) s) hub tip = false) := Lib.hid stO_v
  have HOY : Hid (validR a l d s n c hub tip = true → stO a l d s n c hub tip true (mp3 (twG u) s) hub tip = validR a l d (mp3 (twG u) s) n c hub tip) := Lib.hid (fun h1 => stO_y h1 rfl)
  generalize stO a l d s n c hub tip true (mp3 (twG u) s) hub tip = O at HON HOY ⊢
  obtain ⟨S', HSE⟩ : ∃ q, Hid (q = mp3 (twG u) s) := ⟨_, rfl⟩
  rw [← HSE.out] at HOY ⊢
  obtain ⟨w0, hw0⟩ : ∃ q, q = ((w.alloc (.cells #[.slice A a.length ca, .slice L l.length cl, .slice D d.length cd, .slice S n cs, .int .i64 c, .float .f32 hub, .float .f32 tip] 30)).alloc (.cells #[.float .f32 u] 25)).alloc (.cells #[.slice none 0 0, .slice none 0 0, .slice none 0 0, .slice none 0 0, .int .i64 0, .float .f32 0, .float .f32 0] 30) := ⟨_, rfl⟩
  have B0 : Hid (Below w.heap.size w w0) := Lib.hid (by rw [hw0]; exact (((Below.refl _ _).alloc (Nat.le_refl _) _).alloc (by simp) _).alloc (by simp; omega) _)
  have K0 : Hid (BlkL w0 w.heap.size [.slice A a.length ca, .slice L l.length cl, .slice D d.length cd, .slice S n cs, .int .i64 c, .float .f32 hub, .float .f32 tip]) := Lib.hid (by rw [hw0]; exact ((blkL_at w #[.slice A a.length ca, .slice L l.length cl, .slice D d.length cd, .slice S n cs, .int .i64 c, .float .f32 hub, .float .f32 tip] _ rfl).alloc _).alloc _)
  have KS : Hid (BlkL w0 (w.heap.size + 1) [.float .f32 u]) := Lib.hid (by rw [hw0]; exact (blkL_at (w.alloc _) #[.float .f32 u] _ (by simp)).alloc _)
  have KR : Hid (BlkL w0 (w.heap.size + 2) [.slice none 0 0, .slice none 0 0, .slice none 0 0, .slice none 0 0, .int .i64 0, .float .f32 0, .float .f32 0]) := Lib.hid (by rw [hw0]; exact blkL_at ((w.alloc _).alloc _) #[.slice none 0 0, .slice none 0 0, .slice none 0 0, .slice none 0 0, .int .i64 0, .float .f32 0, .float .f32 0] _ (by simp))
  have Z0 : Hid (w0.heap.size = w.heap.size + 3) := Lib.hid (by rw [hw0]; simp)
  obtain ⟨m0, m1, m2, m3, m4, m5, m6⟩ := K0.out.sevenT
  go_enter Try.func30, Try.ntmps30
  go_wp2_with fail
  rw [← hw0]
  clear hw0
  go_wp2_with fail
  refine (i_ValidRotor A L D S ca cl cd n cs c hub tip a l d s _ (HP.out.below B0.out) hn).mono ?_
  rintro e w1 ⟨rfl, b⟩
  clear m0 m1 m2 m3 m4 m5 m6
  have L0 : Hid (BlkL w1 w.heap.size [.slice A a.length ca, .slice L l.length cl, .slice D d.length cd, .slice S n cs, .int .i64 c, .float .f32 hub, .float .f32 tip]) := Lib.hid (K0.out.below b)
  have LS : Hid (BlkL w1 (w.heap.size + 1) [.float .f32 u]) := Lib.hid (KS.out.below b)
  have LR : Hid (BlkL w1 (w.heap.size + 2) [.slice none 0 0, .slice none 0 0, .slice none 0 0, .slice none 0 0, .int .i64 0, .float .f32 0, .float .f32 0]) := Lib.hid (KR.out.below b)
  have B1 : Hid (Below w.heap.size w w1) := Lib.hid (below_of B0.out B0.out.size b)
  have Z1 : Hid (w.heap.size + 3 ≤ w1.heap.size) := Lib.hid (by have := b.size; have := Z0.out; omega)
  clear b K0 KS KR B0 Z0
  cases v0 : validR a l d s n c hub tip
  · have HN := Lib.hid (HON.out v0)
    clear v0
    have p0 := (LR.out.2 0 _ rfl).1
    have q0 := (LR.out.2 0 _ rfl).2
    have p1 := (LR.out.2 1 _ rfl).1
    have q1 := (LR.out.2 1 _ rfl).2
    have p2 := (LR.out.2 2 _ rfl).1
    have q2 := (LR.out.2 2 _ rfl).2
    have p3 := (LR.out.2 3 _ rfl).1
    have q3 := (LR.out.2 3 _ rfl).2
    have p4 := (LR.out.2 4 _ rfl).1
    have q4 := (LR.out.2 4 _ rfl).2
    have p5 := (LR.out.2 5 _ rfl).1
    have q5 := (LR.out.2 5 _ rfl).2
    have p6 := (LR.out.2 6 _ rfl).1
    have q6 := (LR.out.2 6 _ rfl).2
    go_wp2
    refine bodyPost_ret (v := .tuple #[.agg #[.slice none 0 0, .slice none 0 0, .slice none 0 0, .slice none 0 0, .int .i64 0, .float .f32 0, .float .f32 0], .bool false]) ?_ rfl ?_
    · simp [results, Try.results30, go_sem, p0, p1, p2, p3, p4, p5, p6]
    · rw [HN.out]
      exact ⟨none, none, none, none, 0, 0, 0, 0, 0, 1, 2, 3, rfl, OwnT.none _ _, (((((((B1.out).setCell (p := ⟨w.heap.size + 2, 0, none⟩) (by show w.heap.size ≤ w.heap.size + 2; omega) _).setCell (p := ⟨w.heap.size + 2, 1, none⟩) (by show w.heap.size ≤ w.heap.size + 2; omega) _).setCell (p := ⟨w.heap.size + 2, 2, none⟩) (by show w.heap.size ≤ w.heap.size + 2; omega) _).setCell (p := ⟨w.heap.size + 2, 3, none⟩) (by show w.heap.size ≤ w.heap.size + 2; omega) _).setCell (p := ⟨w.heap.size + 2, 4, none⟩) (by show w.heap.size ≤ w.heap.size + 2; omega) _).setCell (p := ⟨w.heap.size + 2, 5, none⟩) (by show w.heap.size ≤ w.heap.size + 2; omega) _).setCell (p := ⟨w.heap.size + 2, 6, none⟩) (by show w.heap.size ≤ w.heap.size + 2; omega) _⟩
  · obtain ⟨vp, z1, z2, z3, z4⟩ := validR_parts v0
    have HO := Lib.hid (HOY.out v0)
    have HNW := Lib.hid hn
    clear v0 vp HON HOY hn
    obtain ⟨m0, m1, m2, m3, m4, m5, m6⟩ := L0.out.sevenT
    go_wp2_with fail
    refine (i_changeTwistRotor A L D S ca cl cd n cs c hub tip a l d s u _ _ (HP.out.below B1.out) HNW.out (by omega) z4 LS.out).mono ?_
    rintro e wr ⟨bk, ck, xs, rfl, ho, hlb, hcl, b⟩
    clear m0 m1 m2 m3 m4 m5 m6
    have HX : Hid (validR a l d xs n c hub tip = validR a l d S' n c hub tip ∧ (validR a l d S' n c hub tip = true → xs = S' ∧ hub = hub ∧ tip = tip)) := Lib.hid (by
      have hxl := hcl.1
      rw [mp3_length] at hxl
      rw [HSE.out]
      exact validR_CL hcl (hxl.trans HNW.out.1) rfl rfl)
    have HFW : Hid (FewR a l d xs n) := Lib.hid ⟨by have hxl := hcl.1; rw [mp3_length] at hxl; exact hxl.trans HNW.out.1, HNW.out.2⟩
    have HOW : Hid (Own wr bk xs) := Lib.hid ho
    have BR : Hid (Below w.heap.size w wr) := Lib.hid (below_of B1.out B1.out.size b)
    have LRR : Hid (BlkL wr (w.heap.size + 2) [.slice none 0 0, .slice none 0 0, .slice none 0 0, .slice none 0 0, .int .i64 0, .float .f32 0, .float .f32 0]) := Lib.hid (LR.out.below b)
    have HLV : Hid (w.heap.size + 3 ≤ bk) := Lib.hid (by have := Z1.out; omega)
    have HZW : Hid (w.heap.size + 3 ≤ wr.heap.size) := Lib.hid (by have := HOW.out.1; have := HLV.out; omega)
    have HRT : Hid (Rt wr A L D (some ⟨bk, 0, none⟩) a l d xs) := Lib.hid ⟨⟨HP.out.1.1.below BR.out, HP.out.1.2.1.below BR.out, HP.out.1.2.2.below BR.out⟩, HOW.out.fl⟩
    clear ho hlb hcl b L0 LS LR B1 Z1 HSE
    cases v : validR a l d xs n c hub tip
    · have HN : Hid (O = false) := Lib.hid (by rw [HO.out, ← HX.out.1, v])
      have HE := Lib.hid (i_withOwn_no A L D (some ⟨bk, 0, none⟩) ca cl cd n ck c hub tip a l d xs wr HRT.out HFW.out v)
      clear v
      go_wp2_with fail
      refine HE.out.mono ?_
      rintro e w6 ⟨rfl, b6⟩
      have B6 : Hid (Below w.heap.size w w6) := Lib.hid (below_of BR.out BR.out.size b6)
      have LR6 : Hid (BlkL w6 (w.heap.size + 2) [.slice none 0 0, .slice none 0 0, .slice none 0 0, .slice none 0 0, .int .i64 0, .float .f32 0, .float .f32 0]) := Lib.hid (LRR.out.below b6)
      clear b6
      try clear k0 k1 k2 k3 k4 k5 k6
      have p0 := (LR6.out.2 0 _ rfl).1
      have q0 := (LR6.out.2 0 _ rfl).2
      have p1 := (LR6.out.2 1 _ rfl).1
      have q1 := (LR6.out.2 1 _ rfl).2
      have p2 := (LR6.out.2 2 _ rfl).1
      have q2 := (LR6.out.2 2 _ rfl).2
      have p3 := (LR6.out.2 3 _ rfl).1
      have q3 := (LR6.out.2 3 _ rfl).2
      have p4 := (LR6.out.2 4 _ rfl).1
      have q4 := (LR6.out.2 4 _ rfl).2
      have p5 := (LR6.out.2 5 _ rfl).1
      have q5 := (LR6.out.2 5 _ rfl).2
      have p6 := (LR6.out.2 6 _ rfl).1
      have q6 := (LR6.out.2 6 _ rfl).2
      go_wp2
      refine bodyPost_ret (v := .tuple #[.agg #[.slice none 0 0, .slice none 0 0, .slice none 0 0, .slice none 0 0, .int .i64 0, .float .f32 0, .float .f32 0], .bool false]) ?_ rfl ?_
      · simp [results, Try.results30, go_sem, p0, p1, p2, p3, p4, p5, p6]
      · rw [HN.out]
        exact ⟨none, none, none, none, 0, 0, 0, 0, 0, 1, 2, 3, rfl, OwnT.none _ _, (((((((B6.out).setCell (p := ⟨w.heap.size + 2, 0, none⟩) (by show w.heap.size ≤ w.heap.size + 2; omega) _).setCell (p := ⟨w.heap.size + 2, 1, none⟩) (by show w.heap.size ≤ w.heap.size + 2; omega) _).setCell (p := ⟨w.heap.size + 2, 2, none⟩) (by show w.heap.size ≤ w.heap.size + 2; omega) _).setCell (p := ⟨w.heap.size + 2, 3, none⟩) (by show w.heap.size ≤ w.heap.size + 2; omega) _).setCell (p := ⟨w.heap.size + 2, 4, none⟩) (by show w.heap.size ≤ w.heap.size + 2; omega) _).setCell (p := ⟨w.heap.size + 2, 5, none⟩) (by show w.heap.size ≤ w.heap.size + 2; omega) _).setCell (p := ⟨w.heap.size + 2, 6, none⟩) (by show w.heap.size ≤ w.heap.size + 2; omega) _⟩
    · have HN : Hid (O = true) := Lib.hid (by rw [HO.out, ← HX.out.1, v])
      obtain ⟨EQ, EQh, EQt⟩ := HX.out.2 (by rw [← HX.out.1, v])
      subst EQ
      have HE := Lib.hid (i_withOwn_yes A L D (some ⟨bk, 0, none⟩) ca cl cd n ck c hub tip a l d xs wr HRT.out HFW.out v)
      clear v
      go_wp2_with fail
      refine HE.out.mono ?_
      rintro e w6 ⟨b1, b2, b3, c1, c2, c3, rfl, h3, b6⟩
      have B6 : Hid (Below w.heap.size w w6) := Lib.hid (below_of BR.out BR.out.size b6)
      have LR6 : Hid (BlkL w6 (w.heap.size + 2) [.slice none 0 0, .slice none 0 0, .slice none 0 0, .slice none 0 0, .int .i64 0, .float .f32 0, .float .f32 0]) := Lib.hid (LRR.out.below b6)
      have HT6 : Hid (OwnT w6 (w.heap.size + 3) (some ⟨b1, 0, none⟩) (some ⟨b2, 0, none⟩) (some ⟨b3, 0, none⟩) (some ⟨bk, 0, none⟩) b1 b2 b3 bk a l d xs) := Lib.hid (by
        obtain ⟨o1, o2, o3, g1, g2, g3, n1, n2, n3⟩ := h3
        have e1 := HLV.out
        have e2 := HOW.out.1
        have e3 := HZW.out
        exact ⟨⟨o1.o (by omega), o2.o (by omega), o3.o (by omega), n1, n2, n3⟩, (HOW.out.below b6).o (by omega), by omega, by omega, by omega⟩)
      clear b6 h3
      try clear k0 k1 k2 k3 k4 k5 k6
      have p0 := (LR6.out.2 0 _ rfl).1
      have q0 := (LR6.out.2 0 _ rfl).2
      have p1 := (LR6.out.2 1 _ rfl).1
      have q1 := (LR6.out.2 1 _ rfl).2
      have p2 := (LR6.out.2 2 _ rfl).1
      have q2 := (LR6.out.2 2 _ rfl).2
      have p3 := (LR6.out.2 3 _ rfl).1
      have q3 := (LR6.out.2 3 _ rfl).2
      have p4 := (LR6.out.2 4 _ rfl).1
      have q4 := (LR6.out.2 4 _ rfl).2
      have p5 := (LR6.out.2 5 _ rfl).1
      have q5 := (LR6.out.2 5 _ rfl).2
      have p6 := (LR6.out.2 6 _ rfl).1
      have q6 := (LR6.out.2 6 _ rfl).2
      go_wp2
      refine bodyPost_ret (v := .tuple #[.agg #[.slice (some ⟨b1, 0, none⟩) a.length c1, .slice (some ⟨b2, 0, none⟩) l.length c2, .slice (some ⟨b3, 0, none⟩) d.length c3, .slice (some ⟨bk, 0, none⟩) n ck, .int .i64 c, .float .f32 hub, .float .f32 tip], .bool true]) ?_ rfl ?_
      · simp [results, Try.results30, go_sem, p0, p1, p2, p3, p4, p5, p6]
      · rw [HN.out]
        exact ⟨_, _, _, _, c1, c2, c3, ck, b1, b2, b3, bk, rfl, ((((((((HT6.out).setT (p := ⟨w.heap.size + 2, 0, none⟩) (by show w.heap.size + 2 < _; omega) _).setT (p := ⟨w.heap.size + 2, 1, none⟩) (by show w.heap.size + 2 < _; omega) _).setT (p := ⟨w.heap.size + 2, 2, none⟩) (by show w.heap.size + 2 < _; omega) _).setT (p := ⟨w.heap.size + 2, 3, none⟩) (by show w.heap.size + 2 < _; omega) _).setT (p := ⟨w.heap.size + 2, 4, none⟩) (by show w.heap.size + 2 < _; omega) _).setT (p := ⟨w.heap.size + 2, 5, none⟩) (by show w.heap.size + 2 < _; omega) _).setT (p := ⟨w.heap.size + 2, 6, none⟩) (by show w.heap.size + 2 < _; omega) _).baseT (by omega), (((((((B6.out).setCell (p := ⟨w.heap.size + 2, 0, none⟩) (by show w.heap.size ≤ w.heap.size + 2; omega) _).setCell (p := ⟨w.heap.size + 2, 1, none⟩) (by show w.heap.size ≤ w.heap.size + 2; omega) _).setCell (p := ⟨w.heap.size + 2, 2, none⟩) (by show w.heap.size ≤ w.heap.size + 2; omega) _).setCell (p := ⟨w.heap.size + 2, 3, none⟩) (by show w.heap.size ≤ w.heap.size + 2; omega) _).setCell (p := ⟨w.heap.size + 2, 4, none⟩) (by show w.heap.size ≤ w.heap.size + 2; omega) _).setCell (p := ⟨w.heap.size + 2, 5, none⟩) (by show w.heap.size ≤ w.heap.size + 2; omega) _).setCell (p := ⟨w.heap.size + 2, 6, none⟩) (by show w.heap.size ≤ w.heap.size + 2; omega) _⟩
end Go.Proofs.Ytiiiigldpbomkaa
