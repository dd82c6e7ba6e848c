/- MovePlace: the program. No statement is proved here. -/
import Derived.Test.YtiiiigldpbomkaaPlaC
import Derived.Deep.Cut
namespace Go.Proofs.Ytiiiigldpbomkaa
open Go Go.RowKit
theorem i_hasRotor (X Y : Option Addr) (cx cy : Nat) (fx fy : List Nat) (fr fd fs : Nat) (i : Int) (w : World) :
    Calls Try.prog 134 #[.agg #[.slice X fx.length cx, .slice Y fy.length cy, .float .f32 fr, .float .f32 fd, .float .f32 fs], .int .i64 i] w fun e w' => e = .returned (.bool (hasF fx.length i)) ∧ Below w.heap.size w w' := by
  have HB : ∀ o, Hid (Below w.heap.size w (w.alloc o)) := fun _ => Lib.hid ((Below.refl _ _).alloc (Nat.le_refl _) _)
  have k0 : ∀ t, (w.alloc (.cells #[.slice X fx.length cx, .slice Y fy.length cy, .float .f32 fr, .float .f32 fd, .float .f32 fs] t)).cell? ⟨w.heap.size, 0, none⟩ = some (.slice X fx.length cx) := fun t => ((blkL_at w #[.slice X fx.length cx, .slice Y fy.length cy, .float .f32 fr, .float .f32 fd, .float .f32 fs] t rfl).2 0 _ rfl).1
  by_cases h0 : 0 ≤ i
  · go_enter Try.func134, Try.ntmps134
    go_wp2
    go_ret
    exact ⟨by unfold hasF; rw [Bool.decide_and, decide_eq_true h0, Bool.true_and]; rfl, (HB _).out⟩
  · go_enter Try.func134, Try.ntmps134
    go_wp2
    go_ret
    exact ⟨by unfold hasF; rw [Bool.decide_and, decide_eq_false (by omega : ¬ 0 ≤ i), Bool.false_and]; rfl, (HB _).out⟩
set_option maxHeartbeats 16000000 in
set_option maxRecDepth 100000 in
theorem i_MovePlace (X Y : Option Addr) (cx cy : Nat) (fx fy : List Nat) (fr fd fs : Nat) (i : Int) (x y : Nat) (w : World) (h : Rs w X Y fx fy) (hn : FewS fx fy) :
    Calls Try.prog 57 #[.agg #[.slice X fx.length cx, .slice Y fy.length cy, .float .f32 fr, .float .f32 fd, .float .f32 fs], .int .i64 i, .float .f32 x, .float .f32 y] w fun e w' => ∃ (R1 R2 : Option Addr) (c1 c2 g1 g2 : Nat), e = .returned (.tuple #[.agg #[.slice R1 (gL (plcO fx fy fr fd fs (hasF fx.length i) (fx.set i.toNat x) (fy.set i.toNat y)) (fx.set i.toNat x)).length c1, .slice R2 (gL (plcO fx fy fr fd fs (hasF fx.length i) (fx.set i.toNat x) (fy.set i.toNat y)) (fy.set i.toNat y)).length c2, .float .f32 (gF (plcO fx fy fr fd fs (hasF fx.length i) (fx.set i.toNat x) (fy.set i.toNat y)) fr), .float .f32 (gF (plcO fx fy fr fd fs (hasF fx.length i) (fx.set i.toNat x) (fy.set i.toNat y)) fd), .float .f32 (gF (plcO fx fy fr fd fs (hasF fx.length i) (fx.set i.toNat x) (fy.set i.toNat y)) fs)], .bool (plcO fx fy fr fd fs (hasF fx.length i) (fx.set i.toNat x) (fy.set i.toNat y))]) ∧ OwnR2 w' w.heap.size R1 R2 g1 g2 (gL (plcO fx fy fr fd fs (hasF fx.length i) (fx.set i.toNat x) (fy.set i.toNat y)) (fx.set i.toNat x)) (gL (plcO fx fy fr fd fs (hasF fx.length i) (fx.set i.toNat x) (fy.set i.toNat y)) (fy.set i.toNat y)) ∧ Below w.heap.size w w' := by
  have HP := Lib.hid h; clear h
  have HON : Hid (frmV fx fy fr fd fs = false → plcO fx fy fr fd fs (hasF fx.length i) (fx.set i.toNat x) (fy.set i.toNat y) = false) := Lib.hid plcO_v
  have HOK : Hid (hasF fx.length i = false → plcO fx fy fr fd fs (hasF fx.length i) (fx.set i.toNat x) (fy.set i.toNat y) = false) := Lib.hid plcO_k
  have HOY : Hid (frmV fx fy fr fd fs = true → hasF fx.length i = true → plcO fx fy fr fd fs (hasF fx.length i) (fx.set i.toNat x) (fy.set i.toNat y) = frmV (fx.set i.toNat x) (fy.set i.toNat y) fr fd fs) := Lib.hid (fun h1 h2 => plcO_y h1 h2)
  generalize plcO fx fy fr fd fs (hasF fx.length i) (fx.set i.toNat x) (fy.set i.toNat y) = O at HON HOK HOY ⊢
  obtain ⟨X', HXE⟩ : ∃ z, Hid (z = (fx.set i.toNat x)) := ⟨_, rfl⟩
  obtain ⟨Y', HYE⟩ : ∃ z, Hid (z = (fy.set i.toNat y)) := ⟨_, rfl⟩
  rw [← HXE.out, ← HYE.out] at HOY ⊢
  obtain ⟨w0, hw0⟩ : ∃ x, x = (w.alloc (.cells #[.slice X fx.length cx, .slice Y fy.length cy, .float .f32 fr, .float .f32 fd, .float .f32 fs] 79)).alloc (.cells #[.slice none 0 0, .slice none 0 0, .float .f32 0, .float .f32 0, .float .f32 0] 79) := ⟨_, rfl⟩
  have K0 : Hid (BlkL w0 w.heap.size [.slice X fx.length cx, .slice Y fy.length cy, .float .f32 fr, .float .f32 fd, .float .f32 fs]) := Lib.hid (by rw [hw0]; exact (blkL_at w #[.slice X fx.length cx, .slice Y fy.length cy, .float .f32 fr, .float .f32 fd, .float .f32 fs] _ rfl).alloc _)
  have KR : Hid (BlkL w0 (w.heap.size + 1) [.slice none 0 0, .slice none 0 0, .float .f32 0, .float .f32 0, .float .f32 0]) := Lib.hid (by rw [hw0]; exact blkL_at (w.alloc _) #[.slice none 0 0, .slice none 0 0, .float .f32 0, .float .f32 0, .float .f32 0] _ (by simp))
  have B0 : Hid (Below w.heap.size w w0) := Lib.hid (by rw [hw0]; exact ((Below.refl _ _).alloc (Nat.le_refl _) _).alloc (by simp) _)
  have Z0 : Hid (w0.heap.size = w.heap.size + 2) := Lib.hid (by rw [hw0]; simp)
  go_enter Try.func57, Try.ntmps57
  go_wp2_with fail
  rw [← hw0]
  clear hw0
  refine (i_ValidFarm X Y cx cy fx fy fr fd fs _ ⟨HP.out.1.below B0.out, HP.out.2.below B0.out⟩ hn).mono ?_
  rintro e w1 ⟨rfl, b1⟩
  have L0 : Hid (BlkL w1 w.heap.size [.slice X fx.length cx, .slice Y fy.length cy, .float .f32 fr, .float .f32 fd, .float .f32 fs]) := Lib.hid (K0.out.below b1)
  have LR : Hid (BlkL w1 (w.heap.size + 1) [.slice none 0 0, .slice none 0 0, .float .f32 0, .float .f32 0, .float .f32 0]) := Lib.hid (KR.out.below b1)
  have B1 : Hid (Below w.heap.size w w1) := Lib.hid (below_of B0.out B0.out.size b1)
  have Z1 : Hid (w.heap.size + 2 ≤ w1.heap.size) := Lib.hid (by have := b1.size; have := Z0.out; omega)
  clear b1 K0 KR B0 Z0
  cases v0 : frmV fx fy fr fd fs
  · have HN := Lib.hid (HON.out v0)
    clear v0
    have p0 := (LR.out.2 0 _ rfl).1
    have q0 := (LR.out.2 0 _ rfl).2
    have p1 := (LR.out.2 1 _ rfl).1
    have q1 := (LR.out.2 1 _ rfl).2
    have p2 := (LR.out.2 2 _ rfl).1
    have q2 := (LR.out.2 2 _ rfl).2
    have p3 := (LR.out.2 3 _ rfl).1
    have q3 := (LR.out.2 3 _ rfl).2
    have p4 := (LR.out.2 4 _ rfl).1
    have q4 := (LR.out.2 4 _ rfl).2
    go_wp2
    refine bodyPost_ret (v := .tuple #[.agg #[.slice none 0 0, .slice none 0 0, .float .f32 0, .float .f32 0, .float .f32 0], .bool false]) ?_ rfl ?_
    · simp [results, Try.results57, go_sem, p0, p1, p2, p3, p4]
    · rw [HN.out]
      exact ⟨none, none, 0, 0, 0, 1, rfl, ⟨.inl rfl, .inl rfl, by decide⟩, (((((B1.out).setCell (p := ⟨w.heap.size + 1, 0, none⟩) (by show w.heap.size ≤ w.heap.size + 1; omega) _).setCell (p := ⟨w.heap.size + 1, 1, none⟩) (by show w.heap.size ≤ w.heap.size + 1; omega) _).setCell (p := ⟨w.heap.size + 1, 2, none⟩) (by show w.heap.size ≤ w.heap.size + 1; omega) _).setCell (p := ⟨w.heap.size + 1, 3, none⟩) (by show w.heap.size ≤ w.heap.size + 1; omega) _).setCell (p := ⟨w.heap.size + 1, 4, none⟩) (by show w.heap.size ≤ w.heap.size + 1; omega) _⟩
  · obtain ⟨hx, hx2, hy2⟩ := frmV_sized v0
    have hy : 1 ≤ fy.length := by omega
    have hy12 : fy.length ≤ 12 := by omega
    have HYL : Hid (fy.length = fx.length) := Lib.hid hy2
    have V0 := Lib.hid v0
    clear v0 hy2
    obtain ⟨m0, m1, m2, m3, m4⟩ := L0.out.five
    go_wp2_with fail
    refine (i_hasRotor X Y cx cy fx fy fr fd fs i _).mono ?_
    rintro e w2 ⟨rfl, b2⟩
    clear m0 m1 m2 m3 m4
    have L2 : Hid (BlkL w2 w.heap.size [.slice X fx.length cx, .slice Y fy.length cy, .float .f32 fr, .float .f32 fd, .float .f32 fs]) := Lib.hid (L0.out.below b2)
    have LR2 : Hid (BlkL w2 (w.heap.size + 1) [.slice none 0 0, .slice none 0 0, .float .f32 0, .float .f32 0, .float .f32 0]) := Lib.hid (LR.out.below b2)
    have B2 : Hid (Below w.heap.size w w2) := Lib.hid (below_of B1.out B1.out.size b2)
    have Z2 : Hid (w.heap.size + 2 ≤ w2.heap.size) := Lib.hid (by have := b2.size; have := Z1.out; omega)
    clear b2 L0 LR B1 Z1
    cases v1 : hasF fx.length i
    · have HN := Lib.hid (HOK.out v1)
      clear v1
      have p0 := (LR2.out.2 0 _ rfl).1
      have q0 := (LR2.out.2 0 _ rfl).2
      have p1 := (LR2.out.2 1 _ rfl).1
      have q1 := (LR2.out.2 1 _ rfl).2
      have p2 := (LR2.out.2 2 _ rfl).1
      have q2 := (LR2.out.2 2 _ rfl).2
      have p3 := (LR2.out.2 3 _ rfl).1
      have q3 := (LR2.out.2 3 _ rfl).2
      have p4 := (LR2.out.2 4 _ rfl).1
      have q4 := (LR2.out.2 4 _ rfl).2
      go_wp2
      refine bodyPost_ret (v := .tuple #[.agg #[.slice none 0 0, .slice none 0 0, .float .f32 0, .float .f32 0, .float .f32 0], .bool false]) ?_ rfl ?_
      · simp [results, Try.results57, go_sem, p0, p1, p2, p3, p4]
      · rw [HN.out]
        exact ⟨none, none, 0, 0, 0, 1, rfl, ⟨.inl rfl, .inl rfl, by decide⟩, (((((B2.out).setCell (p := ⟨w.heap.size + 1, 0, none⟩) (by show w.heap.size ≤ w.heap.size + 1; omega) _).setCell (p := ⟨w.heap.size + 1, 1, none⟩) (by show w.heap.size ≤ w.heap.size + 1; omega) _).setCell (p := ⟨w.heap.size + 1, 2, none⟩) (by show w.heap.size ≤ w.heap.size + 1; omega) _).setCell (p := ⟨w.heap.size + 1, 3, none⟩) (by show w.heap.size ≤ w.heap.size + 1; omega) _).setCell (p := ⟨w.heap.size + 1, 4, none⟩) (by show w.heap.size ≤ w.heap.size + 1; omega) _⟩
    · have HO := Lib.hid (HOY.out V0.out v1)
      unfold hasF at v1
      obtain ⟨k, hik⟩ : ∃ k : Nat, i = k := ⟨i.toNat, by have := of_decide_eq_true v1; omega⟩
      have hlt : k < fx.length := by have := of_decide_eq_true v1; omega
      have hlt2 : k < fy.length := by have := HYL.out; omega
      subst hik
      clear v1 HON HOK HOY
      have HXE' : Hid (X' = fx.set k x) := Lib.hid HXE.out
      have HYE' : Hid (Y' = fy.set k y) := Lib.hid HYE.out
      clear HXE HYE V0
      obtain ⟨m0, m1, m2, m3, m4⟩ := L2.out.five
      go_wp2_with fail
      refine (i_copyF X Y cx cy fx fy fr fd fs _ ⟨HP.out.1.below B2.out, HP.out.2.below B2.out⟩ hn hx hy).mono ?_
      rintro e w3 ⟨bx, cp1, by', cp2, rfl, ox, oy, hne, lx, ly, b3⟩
      clear m0 m1 m2 m3 m4
      obtain ⟨wb, hwb⟩ : ∃ z, z = w3.alloc (.cells #[.slice (some ⟨bx, 0, none⟩) fx.length cp1, .slice (some ⟨by', 0, none⟩) fy.length cp2, .float .f32 fr, .float .f32 fd, .float .f32 fs] 79) := ⟨_, rfl⟩
      have bb : Below w3.heap.size w3 wb := by rw [hwb]; exact (Below.refl _ _).alloc (Nat.le_refl _) _
      have HB2 : Hid (BlkL wb w3.heap.size [.slice (some ⟨bx, 0, none⟩) fx.length cp1, .slice (some ⟨by', 0, none⟩) fy.length cp2, .float .f32 fr, .float .f32 fd, .float .f32 fs]) := Lib.hid (by rw [hwb]; exact blkL_at w3 #[_, _, _, _, _] _ rfl)
      have HOX := Lib.hid (ox.below bb)
      have HOY := Lib.hid (oy.below bb)
      have HLX0 : Hid (bx < w3.heap.size ∧ by' < w3.heap.size) := Lib.hid ⟨ox.1, oy.1⟩
      have HLV : Hid (w2.heap.size ≤ bx ∧ w2.heap.size ≤ by' ∧ bx ≠ by') := Lib.hid ⟨lx, ly, hne⟩
      have bq := (below_of b3 b3.size bb)
      have LF : Hid (BlkL wb w.heap.size [.slice X fx.length cx, .slice Y fy.length cy, .float .f32 fr, .float .f32 fd, .float .f32 fs]) := Lib.hid (L2.out.below bq)
      have LB : Hid (BlkL wb (w.heap.size + 1) [.slice none 0 0, .slice none 0 0, .float .f32 0, .float .f32 0, .float .f32 0]) := Lib.hid (LR2.out.below bq)
      have BB : Hid (Below w2.heap.size w2 wb) := Lib.hid bq
      have z2 := Z2.out
      have hz3 : w2.heap.size ≤ w3.heap.size := b3.size
      clear lx ly ox oy hne bb b3 L2 LR2 bq
      go_upto_region 4 with fail
      rw [← hwb]
      clear hwb
      have k0 := (HB2.out.2 0 _ rfl).1
      have k1 := (HB2.out.2 1 _ rfl).1
      obtain ⟨c0, f0⟩ := HOX.out.2 k hlt
      obtain ⟨c1, f1⟩ := HOY.out.2 k hlt2
      have e1 : (⟨bx, k, none⟩ : Addr) ≠ ⟨by', k, none⟩ := by intro hh; simp only [Addr.mk.injEq] at hh; exact HLV.out.2.2 hh.1
      have e2 : bx ≠ by' := HLV.out.2.2
      have e3 : bx ≠ w3.heap.size := by have := HLX0.out; omega
      have e4 : by' ≠ w3.heap.size := by have := HLX0.out; omega
      go_region
      all_goals
        clear k0 k1 c0 f0 c1 f1
        obtain ⟨wr, hwr⟩ : ∃ z, z = ((wb.setCell ⟨bx, k, none⟩ (.float .f32 x)).setCell ⟨by', k, none⟩ (.float .f32 y)).drew := ⟨_, rfl⟩
        have hlv := HLV.out
        have hlx := HLX0.out
        have HB5 : Hid (BlkL wr w3.heap.size [.slice (some ⟨bx, 0, none⟩) fx.length cp1, .slice (some ⟨by', 0, none⟩) fy.length cp2, .float .f32 fr, .float .f32 fd, .float .f32 fs]) := Lib.hid (by rw [hwr]; exact ((HB2.out.other (by show bx ≠ _; omega) _).other (by show by' ≠ _; omega) _).draws 1)
        have LF5 : Hid (BlkL wr w.heap.size [.slice X fx.length cx, .slice Y fy.length cy, .float .f32 fr, .float .f32 fd, .float .f32 fs]) := Lib.hid (by rw [hwr]; exact ((LF.out.other (by show bx ≠ _; omega) _).other (by show by' ≠ _; omega) _).draws 1)
        have LR5 : Hid (BlkL wr (w.heap.size + 1) [.slice none 0 0, .slice none 0 0, .float .f32 0, .float .f32 0, .float .f32 0]) := Lib.hid (by rw [hwr]; exact ((LB.out.other (by show bx ≠ _; omega) _).other (by show by' ≠ _; omega) _).draws 1)
        have X5 : Hid (Own wr bx X') := Lib.hid (by rw [hwr, HXE'.out]; exact ((HOX.out.putF hlt).setCell (by show by' ≠ _; omega) _).below (below_draws (Below.refl _ _) 1))
        have Y5 : Hid (Own wr by' Y') := Lib.hid (by rw [hwr, HYE'.out]; exact ((HOY.out.setCell (by show bx ≠ _; omega) _).putF hlt2).below (below_draws (Below.refl _ _) 1))
        have B5 : Hid (Below w2.heap.size w2 wr) := Lib.hid (by rw [hwr]; exact below_draws ((BB.out.setCell (by show w2.heap.size ≤ bx; omega) _).setCell (by show w2.heap.size ≤ by'; omega) _) 1)
        rw [← hwr]
        have HLX : Hid (X'.length = fx.length) := Lib.hid (by rw [HXE'.out]; simp)
        have HLY : Hid (Y'.length = fy.length) := Lib.hid (by rw [HYE'.out]; simp)
        have HSM : Hid (fx.length ≤ 12 ∧ fy.length ≤ 12) := Lib.hid (by omega)
        clear hwr HB2 LF LB HOX HOY BB hlv hlx e1 e2 e3 e4
        obtain ⟨k0, k1, k2, k3, k4⟩ := HB5.out.five
        obtain ⟨m0, m1, m2, m3, m4⟩ := LF5.out.five
        go_wp2_with fail
        refine (i_withPl _ _ _ _ _ _ bx by' cp1 cp2 fx.length fy.length w2.heap.size fr fd fs X' Y' O wr HLX.out HLY.out X5.out Y5.out HLV.out.1 HLV.out.2.1 HLV.out.2.2 (by have h1 := HLX.out; have h2 := HLY.out; have h3 := HSM.out; unfold FewS; omega) HO.out).mono ?_
        rintro e w6 ⟨v6, rfl, hg, b6⟩
        obtain ⟨Ra, Rb, da, db, ka, kb, rfl, ho⟩ := hg
        have HO6 := Lib.hid ho
        have LR6 : Hid (BlkL w6 (w.heap.size + 1) [.slice none 0 0, .slice none 0 0, .float .f32 0, .float .f32 0, .float .f32 0]) := Lib.hid (LR5.out.below b6)
        have B6 : Hid (Below w.heap.size w w6) := Lib.hid (below_of (below_of B2.out B2.out.size B5.out) (below_of B2.out B2.out.size B5.out).size b6)
        clear ho b6 k0 k1 k2 k3 k4 m0 m1 m2 m3 m4
        have p0 := (LR6.out.2 0 _ rfl).1
        have q0 := (LR6.out.2 0 _ rfl).2
        have p1 := (LR6.out.2 1 _ rfl).1
        have q1 := (LR6.out.2 1 _ rfl).2
        have p2 := (LR6.out.2 2 _ rfl).1
        have q2 := (LR6.out.2 2 _ rfl).2
        have p3 := (LR6.out.2 3 _ rfl).1
        have q3 := (LR6.out.2 3 _ rfl).2
        have p4 := (LR6.out.2 4 _ rfl).1
        have q4 := (LR6.out.2 4 _ rfl).2
        go_wp2
        refine bodyPost_ret (v := .tuple #[.agg #[.slice Ra (gL O X').length da, .slice Rb (gL O Y').length db, .float .f32 (gF O fr), .float .f32 (gF O fd), .float .f32 (gF O fs)], .bool O]) ?_ rfl ?_
        · simp [results, Try.results57, go_sem, p0, p1, p2, p3, p4]
        · exact ⟨Ra, Rb, da, db, ka, kb, rfl, ((((((HO6.out).setB (p := ⟨w.heap.size + 1, 0, none⟩) (by show w.heap.size + 1 < _; omega) _).setB (p := ⟨w.heap.size + 1, 1, none⟩) (by show w.heap.size + 1 < _; omega) _).setB (p := ⟨w.heap.size + 1, 2, none⟩) (by show w.heap.size + 1 < _; omega) _).setB (p := ⟨w.heap.size + 1, 3, none⟩) (by show w.heap.size + 1 < _; omega) _).setB (p := ⟨w.heap.size + 1, 4, none⟩) (by show w.heap.size + 1 < _; omega) _).baseB (by omega), (((((B6.out).setCell (p := ⟨w.heap.size + 1, 0, none⟩) (by show w.heap.size ≤ w.heap.size + 1; omega) _).setCell (p := ⟨w.heap.size + 1, 1, none⟩) (by show w.heap.size ≤ w.heap.size + 1; omega) _).setCell (p := ⟨w.heap.size + 1, 2, none⟩) (by show w.heap.size ≤ w.heap.size + 1; omega) _).setCell (p := ⟨w.heap.size + 1, 3, none⟩) (by show w.heap.size ≤ w.heap.size + 1; omega) _).setCell (p := ⟨w.heap.size + 1, 4, none⟩) (by show w.heap.size ≤ w.heap.size + 1; omega) _⟩
end Go.Proofs.Ytiiiigldpbomkaa
