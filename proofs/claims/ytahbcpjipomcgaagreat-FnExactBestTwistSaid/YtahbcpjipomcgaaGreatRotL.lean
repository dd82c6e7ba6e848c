/- Rotors: how the laws copy and compare them. No statement is proved here. -/
import Derived.Test.YtahbcpjipomcgaaGreatRot
namespace Go.Proofs.YtahbcpjipomcgaaGreat
open Go Go.RowKit
theorem l_toStation (x y z : Nat) (w : World) :
    Calls Tryz.prog 73 #[.agg #[.float .f32 x, .float .f32 y, .float .f32 z]] w fun e w' => e = .returned (.agg #[.float .f32 x, .float .f32 y, .float .f32 z]) ∧ Below w.heap.size w w' := by
  go_enter Tryz.func73, Tryz.ntmps73
  go_wp2
  refine bodyPost_ret (v := .agg #[.float .f32 x, .float .f32 y, .float .f32 z]) ?_ rfl ⟨rfl, ?_⟩
  · simp [results, Tryz.results73, go_sem]
  · exact (((Below.refl _ _).alloc (Nat.le_refl _) _).alloc (by simp) _).alloc (by simp <;> omega) _
theorem make_st (n : Nat) (w : World) (h : n ≤ 1048576) : (Instr.makeSlice 33 (.int .i64 n) (.int .i64 n)).run Tryz.prog w = .ok (.slice (some ⟨w.heap.size, 0, none⟩) n n) (w.alloc (.cells (madeCells #[.float .f32 0, .float .f32 0, .float .f32 0] (n * 3)) 68)) := by
  have hinfo : (Tryz.prog.info? 68).map (fun i => (i.zero, i.size, i.bytes)) = some (some (.agg #[.float .f32 0, .float .f32 0, .float .f32 0]), 3, 12) := by kernel_rfl
  obtain ⟨i0, hi, hz, hs, hb⟩ := info_parts hinfo
  have := run_make (P := Tryz.prog) w 33 68 i0 (.agg #[.float .f32 0, .float .f32 0, .float .f32 0]) (by kernel_rfl) hi hz .i64 .i64 n n (by omega) (by omega) (by rw [hb]; omega) (by omega)
  rw [this, hs]
  simp [Value.cells]
theorem FlNew.start3 (w : World) (n : Nat) (E : TypeId) (xs : List Nat) : FlNew w (w.alloc (.cells (madeCells #[.float .f32 0, .float .f32 0, .float .f32 0] n) E)) w.heap.size n 0 xs := by
  refine ⟨(Below.refl _ _).alloc (Nat.le_refl _) _, Nat.le_refl _, by simp, fun j hj => ⟨?_, ?_⟩⟩
  · rw [World.cell?_alloc_at (w := w) (hn := rfl)]
    rw [if_neg (Nat.not_lt_zero j)]
    have : j % 3 = 0 ∨ j % 3 = 1 ∨ j % 3 = 2 := by omega
    rcases this with h | h | h <;> simp [madeCells, hj, h]
  · rw [World.frozen?_alloc_at (w := w) (hn := rfl)]
theorem FlNew.below' {w wr w' : World} {B n k : Nat} {xs : List Nat} (h : FlNew w wr B n k xs) (hb : Below wr.heap.size wr w') : FlNew w w' B n k xs := by
  obtain ⟨h1, h2, h3, h4⟩ := h
  refine ⟨h1.trans (hb.mono h1.size), h2, Nat.lt_of_lt_of_le h3 hb.size, fun j hj => ⟨?_, ?_⟩⟩
  · rw [hb.cell (p := ⟨B, j, none⟩) h3]; exact (h4 j hj).1
  · rw [hb.frozen (p := ⟨B, j, none⟩) h3]; exact (h4 j hj).2
set_option maxHeartbeats 4000000 in
theorem l_toStationS (S : Option Addr) (n cap : Nat) (s : List Nat) (w : World) (h : Fl w S s) (hs : s.length = n * 3) (hn : n ≤ 1048576) :
    Calls Tryz.prog 40 #[.slice S n cap] w fun e w' => e = .returned (.slice (some ⟨w.heap.size, 0, none⟩) n n) ∧ Own w' w.heap.size s ∧ Below w.heap.size w w' := by
  have hmk := make_st n w hn
  go_enter Tryz.func40, Tryz.ntmps40
  go_wp2
  go_loopw [4] (fun i wr => ∃ k : Nat, k ≤ n ∧ i = .int .i64 k ∧ FlNew w wr w.heap.size (n * 3) (k * 3) s) (fun i _ => n - (intOf i).toNat)
  case atStart => exact ⟨0, Nat.zero_le _, rfl, FlNew.start3 ..⟩
  case round =>
    obtain ⟨k, hk, rfl, hnew⟩ := hrel
    clear hmk
    by_cases hlt : k < n
    · obtain ⟨b, off, rfl, hb, hc0⟩ := h.at_ (k := k * 3) (by omega)
      have hc1 := h.same rfl (k := k * 3 + 1) (by omega)
      have hc2 := h.same rfl (k := k * 3 + 2) (by omega)
      rw [← Nat.add_assoc] at hc1 hc2
      have d0 := hnew.1.cell (p := ⟨b, off + k * 3, none⟩) hb
      have d1 := hnew.1.cell (p := ⟨b, off + k * 3 + 1, none⟩) hb
      have d2 := hnew.1.cell (p := ⟨b, off + k * 3 + 2, none⟩) hb
      rw [hc0] at d0
      rw [hc1] at d1
      rw [hc2] at d2
      clear hc0 hc1 hc2
      obtain ⟨x, hx⟩ : ∃ x, x = s.getD (k * 3) 0 := ⟨_, rfl⟩
      obtain ⟨y, hy⟩ : ∃ x, x = s.getD (k * 3 + 1) 0 := ⟨_, rfl⟩
      obtain ⟨z, hz⟩ : ∃ x, x = s.getD (k * 3 + 2) 0 := ⟨_, rfl⟩
      rw [← hx] at d0
      rw [← hy] at d1
      rw [← hz] at d2
      have HN := Lib.hid hnew; clear hnew
      have HF := Lib.hid h; clear h
      have HX := Lib.hid hx; clear hx
      have HY := Lib.hid hy; clear hy
      have HZ := Lib.hid hz; clear hz
      go_wp2_with fail
      refine (l_toStation x y z _).mono ?_
      rintro e w1 ⟨rfl, b1⟩
      have hnew := HN.out.below' b1
      clear d0 d1 d2
      obtain ⟨hc0, hf0⟩ := hnew.2.2.2 (k * 3) (by omega)
      obtain ⟨hc1, hf1⟩ := hnew.2.2.2 (k * 3 + 1) (by omega)
      obtain ⟨hc2, hf2⟩ := hnew.2.2.2 (k * 3 + 2) (by omega)
      rw [if_neg (by omega)] at hc0 hc1 hc2
      have hst := ((hnew.step (by omega)).step (by omega)).step (by omega)
      rw [← HX.out, ← HY.out, ← HZ.out] at hst
      have HS := Lib.hid hst; clear hst
      have HN := Lib.hid hnew; clear hnew
      clear b1
      go_wp2
      go_roundw
      case rel => exact ⟨k + 1, by omega, by go_num, by rw [show (k + 1) * 3 = k * 3 + 1 + 1 + 1 by omega]; exact HS.out⟩
      case measure => simp [intOf]; omega
    · have HN := Lib.hid hnew; clear hnew
      go_wp2
      go_ret
      have hkn : k = n := by omega
      subst hkn
      have h1 := HN.out
      rw [← hs] at h1
      exact ⟨rfl, Own.of_new h1 (Nat.le_refl _), HN.out.1⟩
set_option maxHeartbeats 4000000 in
theorem l_toRotor (A L D S : Option Addr) (ca cl cd n cs : Nat) (c : Int) (hub tip : Nat) (a l d s : List Nat) (w : World) (h : Rt w A L D S a l d s) (hn : FewR a l d s n) :
    Calls Tryz.prog 13 #[.agg #[.slice A a.length ca, .slice L l.length cl, .slice D d.length cd, .slice S n cs, .int .i64 c, .float .f32 hub, .float .f32 tip]] w fun e w' => ∃ b1 b2 b3 b4, e = .returned (.agg #[.slice (some ⟨b1, 0, none⟩) a.length a.length, .slice (some ⟨b2, 0, none⟩) l.length l.length, .slice (some ⟨b3, 0, none⟩) d.length d.length, .slice (some ⟨b4, 0, none⟩) n n, .int .i64 c, .float .f32 hub, .float .f32 tip]) ∧
      OwnR w' w.heap.size b1 b2 b3 b4 a l d s ∧ Below w.heap.size w w' := by
  obtain ⟨hP, hS⟩ := h
  have HP := Lib.hid hP; clear hP
  have HS := Lib.hid hS; clear hS
  have HN := Lib.hid hn; clear hn
  have HB : ∀ o1 o2 o3, Hid (Below w.heap.size w (((w.alloc o1).alloc o2).alloc o3)) := fun _ _ _ => Lib.hid ((((Below.refl _ _).alloc (Nat.le_refl _) _).alloc (by simp) _).alloc (by simp <;> omega) _)
  go_enter Tryz.func13, Tryz.ntmps13
  go_wp2_with fail
  refine (l_toProfile A L D ca cl cd a l d _ (HP.out.below (HB _ _ _).out) HN.out.few).mono ?_
  rintro e w1 ⟨p1, p2, p3, rfl, h1, b1⟩
  have K0 : Hid (BlkL w1 w.heap.size [.slice A a.length ca, .slice L l.length cl, .slice D d.length cd, .slice S n cs, .int .i64 c, .float .f32 hub, .float .f32 tip]) := Lib.hid (BlkL.below (((blkL_at w #[_, _, _, _, _, _, _] _ rfl).alloc _).alloc _) b1)
  have K1 : Hid (BlkL w1 (w.heap.size + 1) [_, _, _, _, _, _, _]) := Lib.hid (BlkL.below (w := Go.World.alloc _ _) ((blkL_at (w.alloc _) #[_, _, _, _, _, _, _] _ (by simp)).alloc _) b1)
  have K2 : Hid (BlkL w1 (w.heap.size + 1 + 1) [_, _, _, _, _, _, _]) := Lib.hid (BlkL.below (w := Go.World.alloc _ _) (blkL_at ((w.alloc _).alloc _) #[_, _, _, _, _, _, _] _ (by simp)) b1)
  have hz : w.heap.size + 3 ≤ p1 := by have := h1.1; simp at this; omega
  have hz1 : w.heap.size + 3 < w1.heap.size := by have := h1.2.2.2.1.1; omega
  have B1 : Hid (Below w.heap.size w w1) := Lib.hid (below_of (HB _ _ _).out (HB _ _ _).out.size b1)
  have H1 : Hid (OwnP w1 (w.heap.size + 1 + 1 + 1) p1 p2 p3 a l d) := Lib.hid (by simpa using h1)
  clear h1 b1
  have hb0 : w.heap.size ≤ w.heap.size + 1 + 1 := by omega
  have hb1 : w.heap.size ≤ w.heap.size + 1 := by omega
  have k3 := (K0.out.2 3 _ rfl).1
  obtain ⟨c0, f0⟩ := K2.out.2 0 _ rfl
  obtain ⟨c1, f1⟩ := K2.out.2 1 _ rfl
  obtain ⟨c2, f2⟩ := K2.out.2 2 _ rfl
  go_wp2_with fail
  clear k3 c0 f0 c1 f1 c2 f2
  refine (l_toStationS S n cs s _ (HS.out.below (((B1.out.setCell (p := ⟨w.heap.size + 1 + 1, 0, none⟩) hb0 _).setCell (p := ⟨w.heap.size + 1 + 1, 1, none⟩) hb0 _).setCell (p := ⟨w.heap.size + 1 + 1, 2, none⟩) hb0 _)) HN.out.1 (by have := HN.out.2; omega)).mono ?_
  rintro e w2 ⟨rfl, h2, b2⟩
  have hz2 : w1.heap.size < w2.heap.size := by have := h2.1; simp at this; omega
  have n0 : (w.heap.size + 1 + 1) ≠ w.heap.size := by omega
  have n1 : (w.heap.size + 1 + 1) ≠ w.heap.size + 1 := by omega
  have K0' : Hid (BlkL w2 w.heap.size [.slice A a.length ca, .slice L l.length cl, .slice D d.length cd, .slice S n cs, .int .i64 c, .float .f32 hub, .float .f32 tip]) := Lib.hid ((((K0.out.other (p := ⟨_, 0, none⟩) n0 _).other (p := ⟨_, 1, none⟩) n0 _).other (p := ⟨_, 2, none⟩) n0 _).below b2)
  have K1' : Hid (BlkL w2 (w.heap.size + 1) [_, _, _, _, _, _, _]) := Lib.hid ((((K1.out.other (p := ⟨_, 0, none⟩) n1 _).other (p := ⟨_, 1, none⟩) n1 _).other (p := ⟨_, 2, none⟩) n1 _).below b2)
  have K2' : Hid (BlkL w2 (w.heap.size + 1 + 1) [.slice (some ⟨p1, 0, none⟩) a.length a.length, .slice (some ⟨p2, 0, none⟩) l.length l.length, .slice (some ⟨p3, 0, none⟩) d.length d.length, _, _, _, _]) := Lib.hid ((((K2.out.set (i := 0) (by simp) _).set (i := 1) (by simp) _).set (i := 2) (by simp) _).below b2)
  have B2 : Hid (Below w.heap.size w w2) := Lib.hid ((((B1.out.setCell (p := ⟨w.heap.size + 1 + 1, 0, none⟩) hb0 _).setCell (p := ⟨w.heap.size + 1 + 1, 1, none⟩) hb0 _).setCell (p := ⟨w.heap.size + 1 + 1, 2, none⟩) hb0 _).trans (b2.mono (by simp <;> omega)))
  have hp0 : (w.heap.size + 1 + 1) ≠ p1 ∧ (w.heap.size + 1 + 1) ≠ p2 ∧ (w.heap.size + 1 + 1) ≠ p3 := by have := H1.out.2.1; have := H1.out.2.2.1; omega
  have hset : ∀ (W : World) i v, OwnP W (w.heap.size + 1 + 1 + 1) p1 p2 p3 a l d → OwnP (W.setCell ⟨w.heap.size + 1 + 1, i, none⟩ v) (w.heap.size + 1 + 1 + 1) p1 p2 p3 a l d := fun W i v hh => ⟨hh.1, hh.2.1, hh.2.2.1, hh.2.2.2.1.setCell hp0.1 v, hh.2.2.2.2.1.setCell hp0.2.1 v, hh.2.2.2.2.2.setCell hp0.2.2 v⟩
  have H1' : Hid (OwnP w2 (w.heap.size + 1 + 1 + 1) p1 p2 p3 a l d) := Lib.hid ((hset _ 2 _ (hset _ 1 _ (hset _ 0 _ H1.out))).below b2)
  have H2 : Hid (Own w2 w1.heap.size s) := Lib.hid (by simpa using h2)
  have hp3 : p3 < w1.heap.size := H1.out.2.2.2.2.2.1
  have HP0 : Hid (w.heap.size + 3 ≤ p1 ∧ p1 < p2 ∧ p2 < p3) := Lib.hid ⟨hz, H1.out.2.1, H1.out.2.2.1⟩
  clear h2 b2 H1 K0 K1 K2 hset hp0
  obtain ⟨k4, -⟩ := K0'.out.2 4 _ rfl
  obtain ⟨k5, -⟩ := K0'.out.2 5 _ rfl
  obtain ⟨k6, -⟩ := K0'.out.2 6 _ rfl
  obtain ⟨c0, f0⟩ := K2'.out.2 0 _ rfl
  obtain ⟨c1, f1⟩ := K2'.out.2 1 _ rfl
  obtain ⟨c2, f2⟩ := K2'.out.2 2 _ rfl
  obtain ⟨c3, f3⟩ := K2'.out.2 3 _ rfl
  obtain ⟨c4, f4⟩ := K2'.out.2 4 _ rfl
  obtain ⟨c5, f5⟩ := K2'.out.2 5 _ rfl
  obtain ⟨c6, f6⟩ := K2'.out.2 6 _ rfl
  obtain ⟨d0, g0⟩ := K1'.out.2 0 _ rfl
  obtain ⟨d1, g1⟩ := K1'.out.2 1 _ rfl
  obtain ⟨d2, g2⟩ := K1'.out.2 2 _ rfl
  obtain ⟨d3, g3⟩ := K1'.out.2 3 _ rfl
  obtain ⟨d4, g4⟩ := K1'.out.2 4 _ rfl
  obtain ⟨d5, g5⟩ := K1'.out.2 5 _ rfl
  obtain ⟨d6, g6⟩ := K1'.out.2 6 _ rfl
  go_wp2
  refine bodyPost_ret (v := .agg #[.slice (some ⟨p1, 0, none⟩) a.length a.length, .slice (some ⟨p2, 0, none⟩) l.length l.length, .slice (some ⟨p3, 0, none⟩) d.length d.length, .slice (some ⟨w1.heap.size, 0, none⟩) n n, .int .i64 c, .float .f32 hub, .float .f32 tip]) ?_ rfl ?_
  · simp [results, Tryz.results13, go_sem, d0, d1, d2, d3, d4, d5, d6]
  · have q1 : ∀ (W : World) B i v, (B = w.heap.size + 1 ∨ B = w.heap.size + 1 + 1) → OwnP W (w.heap.size + 1 + 1 + 1) p1 p2 p3 a l d → OwnP (W.setCell ⟨B, i, none⟩ v) (w.heap.size + 1 + 1 + 1) p1 p2 p3 a l d := fun W B i v hB hh =>
      have hp := HP0.out
      ⟨hh.1, hh.2.1, hh.2.2.1, hh.2.2.2.1.setCell (by show B ≠ _; omega) v, hh.2.2.2.2.1.setCell (by show B ≠ _; omega) v, hh.2.2.2.2.2.setCell (by show B ≠ _; omega) v⟩
    have q2 : ∀ (W : World) B i v, (B = w.heap.size + 1 ∨ B = w.heap.size + 1 + 1) → Own W w1.heap.size s → Own (W.setCell ⟨B, i, none⟩ v) w1.heap.size s := fun W B i v hB hh => hh.setCell (by show B ≠ _; omega) v
    have q3 : ∀ (W : World) B i v, (B = w.heap.size + 1 ∨ B = w.heap.size + 1 + 1) → Below w.heap.size w W → Below w.heap.size w (W.setCell ⟨B, i, none⟩ v) := fun W B i v hB hh => hh.setCell (by show w.heap.size ≤ B; omega) v
    refine ⟨p1, p2, p3, w1.heap.size, rfl, ⟨?_, hp3, ?_⟩, ?_⟩
    · have : OwnP w2 w.heap.size p1 p2 p3 a l d → True := fun _ => trivial
      refine (fun hh : OwnP _ (w.heap.size + 1 + 1 + 1) p1 p2 p3 a l d => ⟨by have := hh.1; omega, hh.2⟩) ?_
      repeat (refine q1 _ _ _ _ (by first | exact .inl rfl | exact .inr rfl) ?_)
      exact H1'.out
    · repeat (refine q2 _ _ _ _ (by first | exact .inl rfl | exact .inr rfl) ?_)
      exact H2.out
    · repeat (refine q3 _ _ _ _ (by first | exact .inl rfl | exact .inr rfl) ?_)
      exact B2.out
set_option maxHeartbeats 4000000 in
theorem l_eqStation (x y z : Nat) (w : World) :
    Calls Tryz.prog 84 #[.agg #[.float .f32 x, .float .f32 y, .float .f32 z], .agg #[.float .f32 x, .float .f32 y, .float .f32 z]] w fun e w' => e = .returned (.bool true) ∧ Below w.heap.size w w' := by
  have HB : ∀ o1 o2, Hid (Below w.heap.size w ((w.alloc o1).alloc o2)) := fun _ _ => Lib.hid (((Below.refl _ _).alloc (Nat.le_refl _) _).alloc (by simp) _)
  go_enter Tryz.func84, Tryz.ntmps84
  go_wp2_with fail
  refine (sameFloat_yes _ _ _ (by rw [canon_wideV, canon_wideV])).mono ?_
  rintro e w' ⟨m1, rfl, rfl⟩
  go_wp2_with fail
  refine (sameFloat_yes _ _ _ (by rw [canon_wideV, canon_wideV])).mono ?_
  rintro e w' ⟨m2, rfl, rfl⟩
  go_wp2_with fail
  refine (sameFloat_yes _ _ _ (by rw [canon_wideV, canon_wideV])).mono ?_
  rintro e w' ⟨m3, rfl, rfl⟩
  go_wp2
  go_ret
  exact ⟨rfl, by first | exact below_draws (HB _ _).out _ | exact below_draws (below_draws (HB _ _).out _) _⟩
set_option maxHeartbeats 4000000 in
theorem l_eqStationS (A B : Option Addr) (n cap cap' : Nat) (s : List Nat) (w : World) (h : Fl w A s) (h' : Fl w B s) (hs : s.length = n * 3) (hn : n ≤ 1048576) :
    Calls Tryz.prog 48 #[.slice A n cap, .slice B n cap'] w fun e w' => e = .returned (.bool true) ∧ Below w.heap.size w w' := by
  have HF := Lib.hid h; clear h
  have HG := Lib.hid h'; clear h'
  go_enter Tryz.func48, Tryz.ntmps48
  go_wp2
  go_loopw [5] (fun i wr => ∃ k : Nat, k ≤ n ∧ i = .int .i64 k ∧ Hid (Below w.heap.size w wr)) (fun i _ => n - (intOf i).toNat)
  case atStart => exact ⟨0, Nat.zero_le _, rfl, Lib.hid (Below.refl _ _)⟩
  case round =>
    obtain ⟨k, hk, rfl, HB⟩ := hrel
    by_cases hlt : k < n
    · have hF := HF.out.below HB.out
      have hG := HG.out.below HB.out
      obtain ⟨b, off, rfl, -, hc0⟩ := hF.at_ (k := k * 3) (by omega)
      obtain ⟨b', off', rfl, -, hd0⟩ := hG.at_ (k := k * 3) (by omega)
      have hc1 := hF.same rfl (k := k * 3 + 1) (by omega)
      have hc2 := hF.same rfl (k := k * 3 + 2) (by omega)
      have hd1 := hG.same rfl (k := k * 3 + 1) (by omega)
      have hd2 := hG.same rfl (k := k * 3 + 2) (by omega)
      rw [← Nat.add_assoc] at hc1 hc2 hd1 hd2
      clear hF hG
      generalize s.getD (k * 3) 0 = x at hc0 hd0
      generalize s.getD (k * 3 + 1) 0 = y at hc1 hd1
      generalize s.getD (k * 3 + 2) 0 = z at hc2 hd2
      have HBD : Hid (Below w.heap.size w wr.drew) := Lib.hid HB.out.drew
      go_wp2_with fail
      go_region_with (go_at_call 84; refine (l_eqStation x y z _).mono ?_; rintro e w1 ⟨rfl, b1⟩; have B1 : Hid (Below w.heap.size w w1) := Lib.hid (below_of HBD.out HBD.out.size b1); clear b1)
      all_goals
        go_wp2
        go_roundw
        case rel => exact ⟨k + 1, by omega, by go_num, B1⟩
        case measure => simp [intOf]; omega
    · go_wp2
      go_ret
      exact ⟨rfl, HB.out⟩
set_option maxHeartbeats 4000000 in
theorem l_eqRotor (A L D S A' L' D' S' : Option Addr) (ca cl cd ca' cl' cd' n cs cs' : Nat) (c : Int) (hub tip : Nat) (a l d s : List Nat) (w : World) (h : Rt w A L D S a l d s) (h' : Rt w A' L' D' S' a l d s) (hn : FewR a l d s n) :
    Calls Tryz.prog 16 #[.agg #[.slice A a.length ca, .slice L l.length cl, .slice D d.length cd, .slice S n cs, .int .i64 c, .float .f32 hub, .float .f32 tip], .agg #[.slice A' a.length ca', .slice L' l.length cl', .slice D' d.length cd', .slice S' n cs', .int .i64 c, .float .f32 hub, .float .f32 tip]] w fun e w' => e = .returned (.bool true) ∧ Below w.heap.size w w' := by
  have HB : ∀ o1 o2, Hid (Below w.heap.size w ((w.alloc o1).alloc o2)) := fun _ _ => Lib.hid (((Below.refl _ _).alloc (Nat.le_refl _) _).alloc (by simp) _)
  have HP := Lib.hid h; clear h
  have HP' := Lib.hid h'; clear h'
  have HN := Lib.hid hn; clear hn
  go_enter Tryz.func16, Tryz.ntmps16
  go_wp2_with fail
  refine (l_eqProfile A L D A' L' D' ca cl cd ca' cl' cd' a l d _ (HP.out.1.below (HB _ _).out) (HP'.out.1.below (HB _ _).out) HN.out.few).mono ?_
  rintro e w1 ⟨rfl, b1⟩
  have K0 : Hid (BlkL w1 w.heap.size [.slice A a.length ca, .slice L l.length cl, .slice D d.length cd, .slice S n cs, .int .i64 c, .float .f32 hub, .float .f32 tip]) := Lib.hid (BlkL.below ((blkL_at w #[_, _, _, _, _, _, _] _ rfl).alloc _) b1)
  have K1 : Hid (BlkL w1 (w.heap.size + 1) [.slice A' a.length ca', .slice L' l.length cl', .slice D' d.length cd', .slice S' n cs', .int .i64 c, .float .f32 hub, .float .f32 tip]) := Lib.hid (BlkL.below (w := Go.World.alloc _ _) (blkL_at (w.alloc _) #[_, _, _, _, _, _, _] _ (by simp)) b1)
  have B1 : Hid (Below w.heap.size w w1) := Lib.hid (below_of (HB _ _).out (HB _ _).out.size b1)
  clear b1
  obtain ⟨k3, -⟩ := K0.out.2 3 _ rfl
  obtain ⟨l3, -⟩ := K1.out.2 3 _ rfl
  go_wp2_with fail
  refine (l_eqStationS S S' n cs cs' s _ (HP.out.2.below B1.out) (HP'.out.2.below B1.out) HN.out.1 (by have := HN.out.2; omega)).mono ?_
  rintro e w2 ⟨rfl, b2⟩
  have K0' := Lib.hid (K0.out.below b2)
  have K1' := Lib.hid (K1.out.below b2)
  have B2 : Hid (Below w.heap.size w w2) := Lib.hid (below_of B1.out B1.out.size b2)
  clear b2 k3 l3 K0 K1
  obtain ⟨k4, -⟩ := K0'.out.2 4 _ rfl
  obtain ⟨l4, -⟩ := K1'.out.2 4 _ rfl
  obtain ⟨k5, -⟩ := K0'.out.2 5 _ rfl
  obtain ⟨l5, -⟩ := K1'.out.2 5 _ rfl
  obtain ⟨k6, -⟩ := K0'.out.2 6 _ rfl
  obtain ⟨l6, -⟩ := K1'.out.2 6 _ rfl
  go_wp2_with fail
  refine (sameFloat_yes _ _ _ (by rw [canon_wideV, canon_wideV])).mono ?_
  rintro e w' ⟨m1, rfl, rfl⟩
  go_wp2_with fail
  refine (sameFloat_yes _ _ _ (by rw [canon_wideV, canon_wideV])).mono ?_
  rintro e w' ⟨m2, rfl, rfl⟩
  go_wp2
  go_ret
  exact ⟨rfl, by first | exact below_draws B2.out _ | exact below_draws (below_draws B2.out _) _⟩
end Go.Proofs.YtahbcpjipomcgaaGreat
