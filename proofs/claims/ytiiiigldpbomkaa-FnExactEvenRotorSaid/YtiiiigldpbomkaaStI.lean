/- SetStation: the program. No statement is proved here. -/
import Derived.Test.YtiiiigldpbomkaaWop
namespace Go.Proofs.Ytiiiigldpbomkaa
open Go Go.RowKit
set_option maxHeartbeats 4000000 in
set_option maxRecDepth 100000 in
theorem lib_CloneSt (S : Option Addr) (n cap : Nat) (s : List Nat) (w : World) (h : Fl w S s) (hs : s.length = n * 3) (hn : n ≤ 1048576) (h1 : 1 ≤ n) :
    Calls Try.prog 86 #[.slice S n cap] w fun e w' => ∃ c b, e = .returned (.slice (some ⟨b, 0, none⟩) n c) ∧ Own w' b s ∧ w.heap.size ≤ b ∧ Below w.heap.size w w' := by
  obtain ⟨i0, hi, hz0, hz1, hz2⟩ := info_parts st_infoT
  obtain ⟨b, off, rfl, -, -⟩ := h.at_ (show 0 < s.length by omega)
  have HX : Hid (Fl w (some ⟨b, off, none⟩) s) := Lib.hid h; clear h
  have HSL := Lib.hid hs
  clear hs
  have HG : Hid (World.ownsRow (w.alloc (.cells #[] 47)) w.heap.size 47 3 (.slice (some ⟨w.heap.size, 0, none⟩) 0 0) 0 []) := Lib.hid (World.ownsRow_made w #[] 0 (Nat.le_refl _) (Nat.zero_le _) rfl)
  have heq : ∀ W : World, (binOp .eql 28 (.slice (some ⟨b, off, none⟩) n cap) (.slice none 0 0)).run Try.prog W = .ok (.bool false) W := fun W => Go.Lib.run_eql_slice_nil W _ _ _ _ _ _ _ Try.underlying28
  go_enter Try.func86, Try.ntmps86
  go_wp2_with (first
    | (at_builtin; refine wpList_append_own _ rfl _ _ 28 rfl w.heap.size 47 i0 (.agg #[.float .f32 0, .float .f32 0, .float .f32 0]) 3 12 Try.underlying28 hi hz0 hz1 hz2 rfl (by decide) _ _ _ rfl HG.out ⟨b, off, none⟩ n cap (s.map (Value.float .f32)) rfl ?e1 ?e2 ?e3 ?e4 ?e5 ?e6 ?_)
    | fail)
  case e1 => rw [List.length_map]; exact HSL.out
  case e2 => exact (HX.out.below ((Below.refl _ _).alloc (Nat.le_refl _) _)).newsT
  case e3 => exact oneFT s
  case e4 => unfold maxLen; omega
  case e5 => omega
  case e6 => simp
  · intro v7 w3 hown' hgrow _
    have hr : World.ownsRow w3 w.heap.size 47 3 v7 n (s.map (Value.float .f32)) := by simpa using hown'
    have bb : Below w.heap.size w w3 := ((Below.refl _ _).alloc (Nat.le_refl _) _).grown hgrow (by simp) (fun k hk => by cases hk; exact Nat.le_refl _)
    obtain ⟨b4, c4, rfl, l4, o4⟩ := rows_own hr h1
    have HO := Lib.hid o4
    have HB := Lib.hid bb
    clear hown' hgrow hr bb o4
    go_wp2
    go_ret
    exact ⟨c4, b4, rfl, HO.out, l4, HB.out⟩
theorem i_hasStationT (A L D S : Option Addr) (ca cl cd n cs : Nat) (c : Int) (hub tip : Nat) (a l d s : List Nat) (i : Int) (w : World) :
    Calls Try.prog 85 #[.agg #[.slice A a.length ca, .slice L l.length cl, .slice D d.length cd, .slice S n cs, .int .i64 c, .float .f32 hub, .float .f32 tip], .int .i64 i] w fun e w' => e = .returned (.bool (hasT n i)) ∧ Below w.heap.size w w' := by
  have HB : ∀ o, Hid (Below w.heap.size w (w.alloc o)) := fun _ => Lib.hid ((Below.refl _ _).alloc (Nat.le_refl _) _)
  have k3 : ∀ t, (w.alloc (.cells #[.slice A a.length ca, .slice L l.length cl, .slice D d.length cd, .slice S n cs, .int .i64 c, .float .f32 hub, .float .f32 tip] t)).cell? ⟨w.heap.size, 3, none⟩ = some (.slice S n cs) := fun t => ((blkL_at w #[.slice A a.length ca, .slice L l.length cl, .slice D d.length cd, .slice S n cs, .int .i64 c, .float .f32 hub, .float .f32 tip] t rfl).2 3 _ rfl).1
  by_cases h0 : 0 ≤ i
  · go_enter Try.func85, Try.ntmps85
    go_wp2
    go_ret
    exact ⟨by unfold hasT; rw [Bool.decide_and, decide_eq_true h0, Bool.true_and]; rfl, (HB _).out⟩
  · go_enter Try.func85, Try.ntmps85
    go_wp2
    go_ret
    exact ⟨by unfold hasT; rw [Bool.decide_and, decide_eq_false (by omega : ¬ 0 ≤ i), Bool.false_and]; rfl, (HB _).out⟩
set_option maxHeartbeats 16000000 in
set_option maxRecDepth 100000 in
theorem i_SetStation (A L D S : Option Addr) (ca cl cd n cs : Nat) (c : Int) (hub tip : Nat) (a l d s : List Nat) (i : Int) (x y z : Nat) (w : World) (h : Rt w A L D S a l d s) (hn : FewR a l d s n) :
    Calls Try.prog 28 #[.agg #[.slice A a.length ca, .slice L l.length cl, .slice D d.length cd, .slice S n cs, .int .i64 c, .float .f32 hub, .float .f32 tip], .int .i64 i, .agg #[.float .f32 x, .float .f32 y, .float .f32 z]] w fun e w' => ∃ (R1 R2 R3 R4 : Option Addr) (c1 c2 c3 c4 g1 g2 g3 g4 : Nat), e = .returned (.tuple #[.agg #[.slice R1 (gLp (stO a l d s n c hub tip (hasT n i) (setSt s i.toNat x y z) hub tip) a).length c1, .slice R2 (gLp (stO a l d s n c hub tip (hasT n i) (setSt s i.toNat x y z) hub tip) l).length c2, .slice R3 (gLp (stO a l d s n c hub tip (hasT n i) (setSt s i.toNat x y z) hub tip) d).length c3, .slice R4 (gN (stO a l d s n c hub tip (hasT n i) (setSt s i.toNat x y z) hub tip) n) c4, .int .i64 (gC (stO a l d s n c hub tip (hasT n i) (setSt s i.toNat x y z) hub tip) c), .float .f32 (gN (stO a l d s n c hub tip (hasT n i) (setSt s i.toNat x y z) hub tip) hub), .float .f32 (gN (stO a l d s n c hub tip (hasT n i) (setSt s i.toNat x y z) hub tip) tip)], .bool (stO a l d s n c hub tip (hasT n i) (setSt s i.toNat x y z) hub tip)]) ∧ OwnT w' w.heap.size R1 R2 R3 R4 g1 g2 g3 g4 (gLp (stO a l d s n c hub tip (hasT n i) (setSt s i.toNat x y z) hub tip) a) (gLp (stO a l d s n c hub tip (hasT n i) (setSt s i.toNat x y z) hub tip) l) (gLp (stO a l d s n c hub tip (hasT n i) (setSt s i.toNat x y z) hub tip) d) (gLp (stO a l d s n c hub tip (hasT n i) (setSt s i.toNat x y z) hub tip) (setSt s i.toNat x y z)) ∧ Below w.heap.size w w' := by
  have HP := Lib.hid h; clear h
  have HON : Hid (validR a l d s n c hub tip = false → stO a l d s n c hub tip (hasT n i) (setSt s i.toNat x y z) hub tip = false) := Lib.hid stO_v
  have HOK : Hid (hasT n i = false → stO a l d s n c hub tip (hasT n i) (setSt s i.toNat x y z) hub tip = false) := Lib.hid stO_k
  have HOY : Hid (validR a l d s n c hub tip = true → hasT n i = true → stO a l d s n c hub tip (hasT n i) (setSt s i.toNat x y z) hub tip = validR a l d (setSt s i.toNat x y z) n c hub tip) := Lib.hid (fun h1 h2 => stO_y h1 h2)
  generalize stO a l d s n c hub tip (hasT n i) (setSt s i.toNat x y z) hub tip = O at HON HOK HOY ⊢
  obtain ⟨S', HSE⟩ : ∃ q, Hid (q = setSt s i.toNat x y z) := ⟨_, rfl⟩
  rw [← HSE.out] at HOY ⊢
  obtain ⟨w0, hw0⟩ : ∃ q, q = ((w.alloc (.cells #[.slice A a.length ca, .slice L l.length cl, .slice D d.length cd, .slice S n cs, .int .i64 c, .float .f32 hub, .float .f32 tip] 30)).alloc (.cells #[.float .f32 x, .float .f32 y, .float .f32 z] 47)).alloc (.cells #[.slice none 0 0, .slice none 0 0, .slice none 0 0, .slice none 0 0, .int .i64 0, .float .f32 0, .float .f32 0] 30) := ⟨_, rfl⟩
  have B0 : Hid (Below w.heap.size w w0) := Lib.hid (by rw [hw0]; exact (((Below.refl _ _).alloc (Nat.le_refl _) _).alloc (by simp) _).alloc (by simp; omega) _)
  have K0 : Hid (BlkL w0 w.heap.size [.slice A a.length ca, .slice L l.length cl, .slice D d.length cd, .slice S n cs, .int .i64 c, .float .f32 hub, .float .f32 tip]) := Lib.hid (by rw [hw0]; exact ((blkL_at w #[.slice A a.length ca, .slice L l.length cl, .slice D d.length cd, .slice S n cs, .int .i64 c, .float .f32 hub, .float .f32 tip] _ rfl).alloc _).alloc _)
  have KS : Hid (BlkL w0 (w.heap.size + 1) [.float .f32 x, .float .f32 y, .float .f32 z]) := Lib.hid (by rw [hw0]; exact (blkL_at (w.alloc _) #[.float .f32 x, .float .f32 y, .float .f32 z] _ (by simp)).alloc _)
  have KR : Hid (BlkL w0 (w.heap.size + 2) [.slice none 0 0, .slice none 0 0, .slice none 0 0, .slice none 0 0, .int .i64 0, .float .f32 0, .float .f32 0]) := Lib.hid (by rw [hw0]; exact blkL_at ((w.alloc _).alloc _) #[.slice none 0 0, .slice none 0 0, .slice none 0 0, .slice none 0 0, .int .i64 0, .float .f32 0, .float .f32 0] _ (by simp))
  have Z0 : Hid (w0.heap.size = w.heap.size + 3) := Lib.hid (by rw [hw0]; simp)
  obtain ⟨m0, m1, m2, m3, m4, m5, m6⟩ := K0.out.sevenT
  go_enter Try.func28, Try.ntmps28
  go_wp2_with fail
  rw [← hw0]
  clear hw0
  go_wp2_with fail
  refine (i_ValidRotor A L D S ca cl cd n cs c hub tip a l d s _ (HP.out.below B0.out) hn).mono ?_
  rintro e w1 ⟨rfl, b⟩
  clear m0 m1 m2 m3 m4 m5 m6
  have L0 : Hid (BlkL w1 w.heap.size [.slice A a.length ca, .slice L l.length cl, .slice D d.length cd, .slice S n cs, .int .i64 c, .float .f32 hub, .float .f32 tip]) := Lib.hid (K0.out.below b)
  have LS : Hid (BlkL w1 (w.heap.size + 1) [.float .f32 x, .float .f32 y, .float .f32 z]) := Lib.hid (KS.out.below b)
  have LR : Hid (BlkL w1 (w.heap.size + 2) [.slice none 0 0, .slice none 0 0, .slice none 0 0, .slice none 0 0, .int .i64 0, .float .f32 0, .float .f32 0]) := Lib.hid (KR.out.below b)
  have B1 : Hid (Below w.heap.size w w1) := Lib.hid (below_of B0.out B0.out.size b)
  have Z1 : Hid (w.heap.size + 3 ≤ w1.heap.size) := Lib.hid (by have := b.size; have := Z0.out; omega)
  clear b K0 KS KR B0 Z0
  cases v0 : validR a l d s n c hub tip
  · have HN := Lib.hid (HON.out v0)
    clear v0
    have p0 := (LR.out.2 0 _ rfl).1
    have q0 := (LR.out.2 0 _ rfl).2
    have p1 := (LR.out.2 1 _ rfl).1
    have q1 := (LR.out.2 1 _ rfl).2
    have p2 := (LR.out.2 2 _ rfl).1
    have q2 := (LR.out.2 2 _ rfl).2
    have p3 := (LR.out.2 3 _ rfl).1
    have q3 := (LR.out.2 3 _ rfl).2
    have p4 := (LR.out.2 4 _ rfl).1
    have q4 := (LR.out.2 4 _ rfl).2
    have p5 := (LR.out.2 5 _ rfl).1
    have q5 := (LR.out.2 5 _ rfl).2
    have p6 := (LR.out.2 6 _ rfl).1
    have q6 := (LR.out.2 6 _ rfl).2
    go_wp2
    refine bodyPost_ret (v := .tuple #[.agg #[.slice none 0 0, .slice none 0 0, .slice none 0 0, .slice none 0 0, .int .i64 0, .float .f32 0, .float .f32 0], .bool false]) ?_ rfl ?_
    · simp [results, Try.results28, go_sem, p0, p1, p2, p3, p4, p5, p6]
    · rw [HN.out]
      exact ⟨none, none, none, none, 0, 0, 0, 0, 0, 1, 2, 3, rfl, OwnT.none _ _, (((((((B1.out).setCell (p := ⟨w.heap.size + 2, 0, none⟩) (by show w.heap.size ≤ w.heap.size + 2; omega) _).setCell (p := ⟨w.heap.size + 2, 1, none⟩) (by show w.heap.size ≤ w.heap.size + 2; omega) _).setCell (p := ⟨w.heap.size + 2, 2, none⟩) (by show w.heap.size ≤ w.heap.size + 2; omega) _).setCell (p := ⟨w.heap.size + 2, 3, none⟩) (by show w.heap.size ≤ w.heap.size + 2; omega) _).setCell (p := ⟨w.heap.size + 2, 4, none⟩) (by show w.heap.size ≤ w.heap.size + 2; omega) _).setCell (p := ⟨w.heap.size + 2, 5, none⟩) (by show w.heap.size ≤ w.heap.size + 2; omega) _).setCell (p := ⟨w.heap.size + 2, 6, none⟩) (by show w.heap.size ≤ w.heap.size + 2; omega) _⟩
  · obtain ⟨vp, z1, z2, z3, z4⟩ := validR_parts v0
    have V0 := Lib.hid v0
    clear v0 vp
    obtain ⟨m0, m1, m2, m3, m4, m5, m6⟩ := L0.out.sevenT
    go_wp2_with fail
    refine (i_hasStationT A L D S ca cl cd n cs c hub tip a l d s i _).mono ?_
    rintro e w2 ⟨rfl, b⟩
    clear m0 m1 m2 m3 m4 m5 m6
    have L2 : Hid (BlkL w2 w.heap.size [.slice A a.length ca, .slice L l.length cl, .slice D d.length cd, .slice S n cs, .int .i64 c, .float .f32 hub, .float .f32 tip]) := Lib.hid (L0.out.below b)
    have LS2 : Hid (BlkL w2 (w.heap.size + 1) [.float .f32 x, .float .f32 y, .float .f32 z]) := Lib.hid (LS.out.below b)
    have LR2 : Hid (BlkL w2 (w.heap.size + 2) [.slice none 0 0, .slice none 0 0, .slice none 0 0, .slice none 0 0, .int .i64 0, .float .f32 0, .float .f32 0]) := Lib.hid (LR.out.below b)
    have B2 : Hid (Below w.heap.size w w2) := Lib.hid (below_of B1.out B1.out.size b)
    have Z2 : Hid (w.heap.size + 3 ≤ w2.heap.size) := Lib.hid (by have := b.size; have := Z1.out; omega)
    clear b L0 LS LR B1 Z1
    cases v1 : hasT n i
    · have HN := Lib.hid (HOK.out v1)
      clear v1
      have p0 := (LR2.out.2 0 _ rfl).1
      have q0 := (LR2.out.2 0 _ rfl).2
      have p1 := (LR2.out.2 1 _ rfl).1
      have q1 := (LR2.out.2 1 _ rfl).2
      have p2 := (LR2.out.2 2 _ rfl).1
      have q2 := (LR2.out.2 2 _ rfl).2
      have p3 := (LR2.out.2 3 _ rfl).1
      have q3 := (LR2.out.2 3 _ rfl).2
      have p4 := (LR2.out.2 4 _ rfl).1
      have q4 := (LR2.out.2 4 _ rfl).2
      have p5 := (LR2.out.2 5 _ rfl).1
      have q5 := (LR2.out.2 5 _ rfl).2
      have p6 := (LR2.out.2 6 _ rfl).1
      have q6 := (LR2.out.2 6 _ rfl).2
      go_wp2
      refine bodyPost_ret (v := .tuple #[.agg #[.slice none 0 0, .slice none 0 0, .slice none 0 0, .slice none 0 0, .int .i64 0, .float .f32 0, .float .f32 0], .bool false]) ?_ rfl ?_
      · simp [results, Try.results28, go_sem, p0, p1, p2, p3, p4, p5, p6]
      · rw [HN.out]
        exact ⟨none, none, none, none, 0, 0, 0, 0, 0, 1, 2, 3, rfl, OwnT.none _ _, (((((((B2.out).setCell (p := ⟨w.heap.size + 2, 0, none⟩) (by show w.heap.size ≤ w.heap.size + 2; omega) _).setCell (p := ⟨w.heap.size + 2, 1, none⟩) (by show w.heap.size ≤ w.heap.size + 2; omega) _).setCell (p := ⟨w.heap.size + 2, 2, none⟩) (by show w.heap.size ≤ w.heap.size + 2; omega) _).setCell (p := ⟨w.heap.size + 2, 3, none⟩) (by show w.heap.size ≤ w.heap.size + 2; omega) _).setCell (p := ⟨w.heap.size + 2, 4, none⟩) (by show w.heap.size ≤ w.heap.size + 2; omega) _).setCell (p := ⟨w.heap.size + 2, 5, none⟩) (by show w.heap.size ≤ w.heap.size + 2; omega) _).setCell (p := ⟨w.heap.size + 2, 6, none⟩) (by show w.heap.size ≤ w.heap.size + 2; omega) _⟩
    · have HO := Lib.hid (HOY.out V0.out v1)
      unfold hasT at v1
      obtain ⟨k, hik⟩ : ∃ k : Nat, i = k := ⟨i.toNat, by have := of_decide_eq_true v1; omega⟩
      have hlt : k < n := by have := of_decide_eq_true v1; omega
      have HSL := Lib.hid hn.1
      subst hik
      have HSE' : Hid (S' = setSt s k x y z) := Lib.hid HSE.out
      have HFW : Hid (FewR a l d S' n) := Lib.hid ⟨by rw [HSE'.out, setSt_length]; exact hn.1, hn.2⟩
      clear v1 HON HOK HOY HSE hn V0
      have m3 := (L2.out.2 3 _ rfl).1
      go_wp2_with fail
      refine (lib_CloneSt S n cs s _ (HP.out.2.below B2.out) HSL.out (by omega) (by omega)).mono ?_
      rintro e w3 ⟨ck, bk, rfl, ok, lk, b⟩
      have p3 := ((L2.out.below b).2 3 _ rfl).1
      have q3 := ((L2.out.below b).2 3 _ rfl).2
      clear m3
      obtain ⟨w4, hw4⟩ : ∃ q, q = w3.setCell ⟨w.heap.size, 3, none⟩ (.slice (some ⟨bk, 0, none⟩) n ck) := ⟨_, rfl⟩
      have z2 := Z2.out
      have L4 : Hid (BlkL w4 w.heap.size [.slice A a.length ca, .slice L l.length cl, .slice D d.length cd, .slice (some ⟨bk, 0, none⟩) n ck, .int .i64 c, .float .f32 hub, .float .f32 tip]) := Lib.hid (by rw [hw4]; exact (L2.out.below b).set (i := 3) (by simp) _)
      have LS4 : Hid (BlkL w4 (w.heap.size + 1) [.float .f32 x, .float .f32 y, .float .f32 z]) := Lib.hid (by rw [hw4]; exact (LS2.out.below b).other (by show w.heap.size ≠ _; omega) _)
      have LR4 : Hid (BlkL w4 (w.heap.size + 2) [.slice none 0 0, .slice none 0 0, .slice none 0 0, .slice none 0 0, .int .i64 0, .float .f32 0, .float .f32 0]) := Lib.hid (by rw [hw4]; exact (LR2.out.below b).other (by show w.heap.size ≠ _; omega) _)
      have O4 : Hid (Own w4 bk s) := Lib.hid (by rw [hw4]; exact ok.setCell (by show w.heap.size ≠ bk; omega) _)
      have HLV : Hid (w.heap.size + 3 ≤ bk) := Lib.hid (by omega)
      have B4 : Hid (Below w.heap.size w w4) := Lib.hid (by rw [hw4]; exact (below_of B2.out B2.out.size b).setCell (by show w.heap.size ≤ w.heap.size; omega) _)
      clear ok lk b L2 LS2 LR2 B2 z2
      go_upto_region 4 with fail
      rw [← hw4]
      clear hw4 p3 q3
      have k3 := (L4.out.2 3 _ rfl).1
      obtain ⟨j0, j1, j2⟩ := LS4.out.three
      obtain ⟨x0, f0⟩ := O4.out.2 (k * 3) (by rw [HSL.out]; omega)
      obtain ⟨x1, f1⟩ := O4.out.2 (k * 3 + 1) (by rw [HSL.out]; omega)
      obtain ⟨x2, f2⟩ := O4.out.2 (k * 3 + 2) (by rw [HSL.out]; omega)
      obtain ⟨wr, hwr⟩ : ∃ q, q = ((w4.setCell ⟨bk, k * 3, none⟩ (.float .f32 x)).setCell ⟨bk, k * 3 + 1, none⟩ (.float .f32 y)).setCell ⟨bk, k * 3 + 2, none⟩ (.float .f32 z) := ⟨_, rfl⟩
      have e1 := HLV.out
      have HBL : Hid (BlkL wr w.heap.size [.slice A a.length ca, .slice L l.length cl, .slice D d.length cd, .slice (some ⟨bk, 0, none⟩) n ck, .int .i64 c, .float .f32 hub, .float .f32 tip]) := Lib.hid (by rw [hwr]; exact ((L4.out.other (by show bk ≠ _; omega) _).other (by show bk ≠ _; omega) _).other (by show bk ≠ _; omega) _)
      have LRR : Hid (BlkL wr (w.heap.size + 2) [.slice none 0 0, .slice none 0 0, .slice none 0 0, .slice none 0 0, .int .i64 0, .float .f32 0, .float .f32 0]) := Lib.hid (by rw [hwr]; exact ((LR4.out.other (by show bk ≠ _; omega) _).other (by show bk ≠ _; omega) _).other (by show bk ≠ _; omega) _)
      have HOW : Hid (Own wr bk S') := Lib.hid (by rw [hwr, HSE'.out]; exact O4.out.putSt HSL.out hlt)
      have BR : Hid (Below w.heap.size w wr) := Lib.hid (by rw [hwr]; exact ((B4.out.setCell (by show w.heap.size ≤ bk; omega) _).setCell (by show w.heap.size ≤ bk; omega) _).setCell (by show w.heap.size ≤ bk; omega) _)
      have HRT : Hid (Rt wr A L D (some ⟨bk, 0, none⟩) a l d S') := Lib.hid ⟨⟨HP.out.1.1.below BR.out, HP.out.1.2.1.below BR.out, HP.out.1.2.2.below BR.out⟩, HOW.out.fl⟩
      have HZW : Hid (w.heap.size + 3 ≤ wr.heap.size) := Lib.hid (by have := HOW.out.1; omega)
      clear L4 LS4 LR4 O4 B4 e1 HSE'
      go_upto_region 5 with fail
      rw [← hwr]
      clear hwr k3 j0 j1 j2 x0 x1 x2 f0 f1 f2
      obtain ⟨k0, k1, k2, k3, k4, k5, k6⟩ := HBL.out.sevenT
      cases v : validR a l d S' n c hub tip
      · have HN : Hid (O = false) := Lib.hid (by rw [HO.out, v])
        have HE := Lib.hid (i_withOwn_no A L D (some ⟨bk, 0, none⟩) ca cl cd n ck c hub tip a l d S' wr HRT.out HFW.out v)
        clear v
        go_wp2_with fail
        refine HE.out.mono ?_
        rintro e w6 ⟨rfl, b6⟩
        have B6 : Hid (Below w.heap.size w w6) := Lib.hid (below_of BR.out BR.out.size b6)
        have LR6 : Hid (BlkL w6 (w.heap.size + 2) [.slice none 0 0, .slice none 0 0, .slice none 0 0, .slice none 0 0, .int .i64 0, .float .f32 0, .float .f32 0]) := Lib.hid (LRR.out.below b6)
        clear b6
        try clear k0 k1 k2 k3 k4 k5 k6
        have p0 := (LR6.out.2 0 _ rfl).1
        have q0 := (LR6.out.2 0 _ rfl).2
        have p1 := (LR6.out.2 1 _ rfl).1
        have q1 := (LR6.out.2 1 _ rfl).2
        have p2 := (LR6.out.2 2 _ rfl).1
        have q2 := (LR6.out.2 2 _ rfl).2
        have p3 := (LR6.out.2 3 _ rfl).1
        have q3 := (LR6.out.2 3 _ rfl).2
        have p4 := (LR6.out.2 4 _ rfl).1
        have q4 := (LR6.out.2 4 _ rfl).2
        have p5 := (LR6.out.2 5 _ rfl).1
        have q5 := (LR6.out.2 5 _ rfl).2
        have p6 := (LR6.out.2 6 _ rfl).1
        have q6 := (LR6.out.2 6 _ rfl).2
        go_wp2
        refine bodyPost_ret (v := .tuple #[.agg #[.slice none 0 0, .slice none 0 0, .slice none 0 0, .slice none 0 0, .int .i64 0, .float .f32 0, .float .f32 0], .bool false]) ?_ rfl ?_
        · simp [results, Try.results28, go_sem, p0, p1, p2, p3, p4, p5, p6]
        · rw [HN.out]
          exact ⟨none, none, none, none, 0, 0, 0, 0, 0, 1, 2, 3, rfl, OwnT.none _ _, (((((((B6.out).setCell (p := ⟨w.heap.size + 2, 0, none⟩) (by show w.heap.size ≤ w.heap.size + 2; omega) _).setCell (p := ⟨w.heap.size + 2, 1, none⟩) (by show w.heap.size ≤ w.heap.size + 2; omega) _).setCell (p := ⟨w.heap.size + 2, 2, none⟩) (by show w.heap.size ≤ w.heap.size + 2; omega) _).setCell (p := ⟨w.heap.size + 2, 3, none⟩) (by show w.heap.size ≤ w.heap.size + 2; omega) _).setCell (p := ⟨w.heap.size + 2, 4, none⟩) (by show w.heap.size ≤ w.heap.size + 2; omega) _).setCell (p := ⟨w.heap.size + 2, 5, none⟩) (by show w.heap.size ≤ w.heap.size + 2; omega) _).setCell (p := ⟨w.heap.size + 2, 6, none⟩) (by show w.heap.size ≤ w.heap.size + 2; omega) _⟩
      · have HN : Hid (O = true) := Lib.hid (by rw [HO.out, v])
        have HE := Lib.hid (i_withOwn_yes A L D (some ⟨bk, 0, none⟩) ca cl cd n ck c hub tip a l d S' wr HRT.out HFW.out v)
        clear v
        go_wp2_with fail
        refine HE.out.mono ?_
        rintro e w6 ⟨b1, b2, b3, c1, c2, c3, rfl, h3, b6⟩
        have B6 : Hid (Below w.heap.size w w6) := Lib.hid (below_of BR.out BR.out.size b6)
        have LR6 : Hid (BlkL w6 (w.heap.size + 2) [.slice none 0 0, .slice none 0 0, .slice none 0 0, .slice none 0 0, .int .i64 0, .float .f32 0, .float .f32 0]) := Lib.hid (LRR.out.below b6)
        have HT6 : Hid (OwnT w6 (w.heap.size + 3) (some ⟨b1, 0, none⟩) (some ⟨b2, 0, none⟩) (some ⟨b3, 0, none⟩) (some ⟨bk, 0, none⟩) b1 b2 b3 bk a l d S') := Lib.hid (by
          obtain ⟨o1, o2, o3, g1, g2, g3, n1, n2, n3⟩ := h3
          have e1 := HLV.out
          have e2 := HOW.out.1
          have e3 := HZW.out
          exact ⟨⟨o1.o (by omega), o2.o (by omega), o3.o (by omega), n1, n2, n3⟩, (HOW.out.below b6).o (by omega), by omega, by omega, by omega⟩)
        clear b6 h3
        try clear k0 k1 k2 k3 k4 k5 k6
        have p0 := (LR6.out.2 0 _ rfl).1
        have q0 := (LR6.out.2 0 _ rfl).2
        have p1 := (LR6.out.2 1 _ rfl).1
        have q1 := (LR6.out.2 1 _ rfl).2
        have p2 := (LR6.out.2 2 _ rfl).1
        have q2 := (LR6.out.2 2 _ rfl).2
        have p3 := (LR6.out.2 3 _ rfl).1
        have q3 := (LR6.out.2 3 _ rfl).2
        have p4 := (LR6.out.2 4 _ rfl).1
        have q4 := (LR6.out.2 4 _ rfl).2
        have p5 := (LR6.out.2 5 _ rfl).1
        have q5 := (LR6.out.2 5 _ rfl).2
        have p6 := (LR6.out.2 6 _ rfl).1
        have q6 := (LR6.out.2 6 _ rfl).2
        go_wp2
        refine bodyPost_ret (v := .tuple #[.agg #[.slice (some ⟨b1, 0, none⟩) a.length c1, .slice (some ⟨b2, 0, none⟩) l.length c2, .slice (some ⟨b3, 0, none⟩) d.length c3, .slice (some ⟨bk, 0, none⟩) n ck, .int .i64 c, .float .f32 hub, .float .f32 tip], .bool true]) ?_ rfl ?_
        · simp [results, Try.results28, go_sem, p0, p1, p2, p3, p4, p5, p6]
        · rw [HN.out]
          exact ⟨_, _, _, _, c1, c2, c3, ck, b1, b2, b3, bk, rfl, ((((((((HT6.out).setT (p := ⟨w.heap.size + 2, 0, none⟩) (by show w.heap.size + 2 < _; omega) _).setT (p := ⟨w.heap.size + 2, 1, none⟩) (by show w.heap.size + 2 < _; omega) _).setT (p := ⟨w.heap.size + 2, 2, none⟩) (by show w.heap.size + 2 < _; omega) _).setT (p := ⟨w.heap.size + 2, 3, none⟩) (by show w.heap.size + 2 < _; omega) _).setT (p := ⟨w.heap.size + 2, 4, none⟩) (by show w.heap.size + 2 < _; omega) _).setT (p := ⟨w.heap.size + 2, 5, none⟩) (by show w.heap.size + 2 < _; omega) _).setT (p := ⟨w.heap.size + 2, 6, none⟩) (by show w.heap.size + 2 < _; omega) _).baseT (by omega), (((((((B6.out).setCell (p := ⟨w.heap.size + 2, 0, none⟩) (by show w.heap.size ≤ w.heap.size + 2; omega) _).setCell (p := ⟨w.heap.size + 2, 1, none⟩) (by show w.heap.size ≤ w.heap.size + 2; omega) _).setCell (p := ⟨w.heap.size + 2, 2, none⟩) (by show w.heap.size ≤ w.heap.size + 2; omega) _).setCell (p := ⟨w.heap.size + 2, 3, none⟩) (by show w.heap.size ≤ w.heap.size + 2; omega) _).setCell (p := ⟨w.heap.size + 2, 4, none⟩) (by show w.heap.size ≤ w.heap.size + 2; omega) _).setCell (p := ⟨w.heap.size + 2, 5, none⟩) (by show w.heap.size ≤ w.heap.size + 2; omega) _).setCell (p := ⟨w.heap.size + 2, 6, none⟩) (by show w.heap.size ≤ w.heap.size + 2; omega) _⟩
end Go.Proofs.Ytiiiigldpbomkaa
