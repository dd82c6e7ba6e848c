/- EvenRose: both sides. No statement is proved here. -/
import Derived.Test.YtleimkejjpggmaaRep
import Derived.Test.YtleimkejjpggmaaTurJ
namespace Go.Proofs.Ytleimkejjpggmaa
open Go Go.RowKit
def evnQ (n : Nat) : Nat := fop .quo .f32 1065353216 (floatOfInt .f32 (n : Int))
theorem evnQ_num : ∀ n : Fin 17, n.val = 0 ∨ isn .f32 (fop .quo .f32 1065353216 (floatOfInt .f32 (n.val : Int))) = false := by decide +kernel
theorem evnQ_sure {n : Nat} (h1 : 1 ≤ n) (h2 : n ≤ 16) : (∀ w, fopV .quo .f32 1065353216 (floatOfInt .f32 (n : Int)) w = evnQ n) ∧ fopN .quo .f32 1065353216 (floatOfInt .f32 (n : Int)) = 0 := by
  rcases evnQ_num ⟨n, by omega⟩ with h | h
  · have h : n = 0 := h
    omega
  · exact fop_sure h
def evnX (c : Int) : List Nat := List.replicate c.toNat (evnQ c.toNat)
def evnY (c : Int) (s : Nat) : List Nat := List.replicate c.toNat s
def evnO (c : Int) (s : Nat) : Bool := decide (1 ≤ c ∧ c ≤ 16) && rosV (evnX c) (evnY c s)
theorem evn_few (c : Int) (s : Nat) : FewS (gLn (evnO c s) (evnX c)) (gLn (evnO c s) (evnY c s)) := by
  unfold gLn
  cases h : evnO c s
  · simp [FewS]
  · unfold evnO at h
    simp only [Bool.and_eq_true, decide_eq_true_eq] at h
    simp only [if_true, FewS, evnX, evnY, List.length_replicate]
    omega
theorem evnO_no {c : Int} {s : Nat} (h : ¬ (1 ≤ c ∧ c ≤ 16)) : evnO c s = false := by unfold evnO; rw [decide_eq_false h]; rfl
theorem evnO_yes {c : Int} {s : Nat} (h : 1 ≤ c ∧ c ≤ 16) : evnO c s = rosV (evnX c) (evnY c s) := by unfold evnO; rw [decide_eq_true h]; rfl
set_option maxHeartbeats 8000000 in
set_option maxRecDepth 20000 in
theorem i_EvenRose (c : Int) (s : Nat) (w : World) :
    Calls Try.prog 22 #[.int .i64 c, .float .f32 s] w fun e w' => ∃ (R1 R2 : Option Addr) (c1 c2 g1 g2 : Nat), e = .returned (.tuple #[.agg #[.slice R1 (gLn (evnO c s) (evnX c)).length c1, .slice R2 (gLn (evnO c s) (evnY c s)).length c2], .bool (evnO c s)]) ∧ OwnR2 w' w.heap.size R1 R2 g1 g2 (gLn (evnO c s) (evnX c)) (gLn (evnO c s) (evnY c s)) ∧ Below w.heap.size w w' := by
  obtain ⟨w0, hw0⟩ : ∃ x, x = w.alloc (.cells #[.slice none 0 0, .slice none 0 0] 47) := ⟨_, rfl⟩
  have LR : Hid (BlkL w0 w.heap.size [.slice none 0 0, .slice none 0 0]) := Lib.hid (by rw [hw0]; exact blkL_at w #[.slice none 0 0, .slice none 0 0] _ rfl)
  have B0 : Hid (Below w.heap.size w w0) := Lib.hid (by rw [hw0]; exact (Below.refl _ _).alloc (Nat.le_refl _) _)
  have Z0 : Hid (w0.heap.size = w.heap.size + 1) := Lib.hid (by rw [hw0]; simp)
  go_enter Try.func22, Try.ntmps22
  go_wp2_with fail
  rw [← hw0]
  refine (i_isSectorCount _ _).mono ?_
  rintro e wq ⟨rfl, hwq⟩
  obtain rfl : wq = w0 := hwq
  clear hw0
  unfold secB
  by_cases hc : 1 ≤ c ∧ c ≤ 16
  · rw [decide_eq_true hc]
    have HY := Lib.hid (evnO_yes (s := s) hc)
    obtain ⟨n, rfl⟩ : ∃ n : Nat, c = n := ⟨c.toNat, by omega⟩
    have h1 : 1 ≤ n := by omega
    have h2 : n ≤ 16 := by omega
    clear hc
    obtain ⟨q1, q2⟩ := evnQ_sure h1 h2
    obtain ⟨q, hq⟩ : ∃ q, q = evnQ n := ⟨_, rfl⟩
    rw [← hq] at q1
    have HX : Hid (evnX (n : Int) = List.replicate n q) := Lib.hid (by unfold evnX; rw [hq]; rfl)
    have HW : Hid (evnY (n : Int) s = List.replicate n s) := Lib.hid rfl
    clear hq
    obtain ⟨w1, hw1⟩ : ∃ x, x = wq.alloc (.cells #[.float .f32 q] 26) := ⟨_, rfl⟩
    have b1 : Below wq.heap.size wq w1 := by rw [hw1]; exact (Below.refl _ _).alloc (Nat.le_refl _) _
    have LR1 : Hid (BlkL w1 w.heap.size [.slice none 0 0, .slice none 0 0]) := Lib.hid (LR.out.below b1)
    have B1 : Hid (Below w.heap.size w w1) := Lib.hid (below_of B0.out B0.out.size b1)
    have hc1 : w1.cell? ⟨wq.heap.size, 0, none⟩ = some (.float .f32 q) := by rw [hw1]; exact ((blkL_at wq #[.float .f32 q] _ rfl).2 0 _ rfl).1
    have hs1 : wq.heap.size < w1.heap.size := by rw [hw1]; simp
    have HE := Lib.hid (lib_Repeat1 q n wq.heap.size 0 1 w1 hc1 hs1 h1 h2)
    have Z1 : Hid (w.heap.size < w1.heap.size) := Lib.hid (by have := Z0.out; omega)
    clear b1 hc1 hs1
    go_wp2_with fail
    rw [← hw1]
    clear hw1
    refine HE.out.mono ?_
    rintro e w2 ⟨rfl, ho, b2⟩
    have LR2 : Hid (BlkL w2 w.heap.size [.slice none 0 0, .slice none 0 0]) := Lib.hid (LR1.out.below b2)
    have B2 : Hid (Below w.heap.size w w2) := Lib.hid (below_of B1.out B1.out.size b2)
    have HO2 := Lib.hid ho
    clear b2 ho HE q1 q2
    obtain ⟨w3, hw3⟩ : ∃ x, x = w2.alloc (.cells #[.float .f32 s] 26) := ⟨_, rfl⟩
    have b3 : Below w2.heap.size w2 w3 := by rw [hw3]; exact (Below.refl _ _).alloc (Nat.le_refl _) _
    have LR3 : Hid (BlkL w3 w.heap.size [.slice none 0 0, .slice none 0 0]) := Lib.hid (LR2.out.below b3)
    have B3 : Hid (Below w.heap.size w w3) := Lib.hid (below_of B2.out B2.out.size b3)
    have HO3 := Lib.hid (HO2.out.below b3)
    have hc1 : w3.cell? ⟨w2.heap.size, 0, none⟩ = some (.float .f32 s) := by rw [hw3]; exact ((blkL_at w2 #[.float .f32 s] _ rfl).2 0 _ rfl).1
    have hs1 : w2.heap.size < w3.heap.size := by rw [hw3]; simp
    have HE := Lib.hid (lib_Repeat1 s n w2.heap.size 0 1 w3 hc1 hs1 h1 h2)
    clear b3 hc1 hs1
    go_wp2_with fail
    rw [← hw3]
    clear hw3
    refine HE.out.mono ?_
    rintro e w4 ⟨rfl, ho, b4⟩
    have LR4 : Hid (BlkL w4 w.heap.size [.slice none 0 0, .slice none 0 0]) := Lib.hid (LR3.out.below b4)
    have B4 : Hid (Below w.heap.size w w4) := Lib.hid (below_of B3.out B3.out.size b4)
    have HOX := Lib.hid (HO3.out.below b4)
    have HOY := Lib.hid ho
    have ZX := Lib.hid HO3.out.1
    clear b4 ho HE HO2 HO3
    have HRS : Hid (Rs w4 (some ⟨w1.heap.size, 0, none⟩) (some ⟨w3.heap.size, 0, none⟩) (List.replicate n q) (List.replicate n s)) := Lib.hid ⟨HOX.out.fl, HOY.out.fl⟩
    have HFW : Hid (FewS (List.replicate n q) (List.replicate n s)) := Lib.hid (by unfold FewS; simp; omega)
    rw [HX.out, HW.out] at HY
    cases v : rosV (List.replicate n q) (List.replicate n s)
    · have HN : Hid (evnO (n : Int) s = false) := Lib.hid (by rw [HY.out, v])
      have HE := Lib.hid (i_GiveR_no (some ⟨w1.heap.size, 0, none⟩) (some ⟨w3.heap.size, 0, none⟩) n n (List.replicate n q) (List.replicate n s) w4 HRS.out HFW.out v)
      rw [List.length_replicate, List.length_replicate] at HE
      clear v
      go_wp2_with fail
      refine HE.out.mono ?_
      rintro e w6 ⟨rfl, b6⟩
      have B6 : Hid (Below w.heap.size w w6) := Lib.hid (below_of B4.out B4.out.size b6)
      have LR6 : Hid (BlkL w6 w.heap.size [.slice none 0 0, .slice none 0 0]) := Lib.hid (LR4.out.below b6)
      clear b6
      have p0 := (LR6.out.2 0 _ rfl).1
      have q0 := (LR6.out.2 0 _ rfl).2
      have p1 := (LR6.out.2 1 _ rfl).1
      have q1 := (LR6.out.2 1 _ rfl).2
      go_wp2
      refine bodyPost_ret (v := .tuple #[.agg #[.slice none 0 0, .slice none 0 0], .bool false]) ?_ rfl ?_
      · simp [results, Try.results22, go_sem, p0, p1]
      · rw [HN.out]
        exact ⟨none, none, 0, 0, 0, 1, rfl, ⟨.inl rfl, .inl rfl, by decide⟩, ((B6.out).setCell (p := ⟨w.heap.size, 0, none⟩) (Nat.le_refl _) _).setCell (p := ⟨w.heap.size, 1, none⟩) (Nat.le_refl _) _⟩
    · have HN : Hid (evnO (n : Int) s = true) := Lib.hid (by rw [HY.out, v])
      have HE := Lib.hid (i_GiveR_yes (some ⟨w1.heap.size, 0, none⟩) (some ⟨w3.heap.size, 0, none⟩) n n (List.replicate n q) (List.replicate n s) w4 HRS.out HFW.out v)
      rw [List.length_replicate, List.length_replicate] at HE
      clear v
      go_wp2_with fail
      refine HE.out.mono ?_
      rintro e w6 ⟨rfl, b6⟩
      have B6 : Hid (Below w.heap.size w w6) := Lib.hid (below_of B4.out B4.out.size b6)
      have LR6 : Hid (BlkL w6 w.heap.size [.slice none 0 0, .slice none 0 0]) := Lib.hid (LR4.out.below b6)
      have HX6 := Lib.hid (HOX.out.below b6)
      have HY6 := Lib.hid (HOY.out.below b6)
      clear b6
      have p0 := (LR6.out.2 0 _ rfl).1
      have q0 := (LR6.out.2 0 _ rfl).2
      have p1 := (LR6.out.2 1 _ rfl).1
      have q1 := (LR6.out.2 1 _ rfl).2
      go_wp2
      refine bodyPost_ret (v := .tuple #[.agg #[.slice (some ⟨w1.heap.size, 0, none⟩) n n, .slice (some ⟨w3.heap.size, 0, none⟩) n n], .bool true]) ?_ rfl ?_
      · simp [results, Try.results22, go_sem, p0, p1]
      · rw [HN.out, HX.out, HW.out]
        have z1 := Z1.out
        have zx : w1.heap.size < w3.heap.size := ZX.out
        refine ⟨some ⟨w1.heap.size, 0, none⟩, some ⟨w3.heap.size, 0, none⟩, n, n, w1.heap.size, w3.heap.size, ?_, ?_, ((B6.out).setCell (p := ⟨w.heap.size, 0, none⟩) (Nat.le_refl _) _).setCell (p := ⟨w.heap.size, 1, none⟩) (Nat.le_refl _) _⟩
        · show Ending.returned _ = Ending.returned (.tuple #[.agg #[.slice _ (List.replicate n q).length _, .slice _ (List.replicate n s).length _], _])
          rw [List.length_replicate, List.length_replicate]
        · exact OwnR2.of (((HX6.out).setCell (p := ⟨w.heap.size, 0, none⟩) (by show w.heap.size ≠ _; omega) _).setCell (p := ⟨w.heap.size, 1, none⟩) (by show w.heap.size ≠ _; omega) _) (((HY6.out).setCell (p := ⟨w.heap.size, 0, none⟩) (by show w.heap.size ≠ _; omega) _).setCell (p := ⟨w.heap.size, 1, none⟩) (by show w.heap.size ≠ _; omega) _) (by omega) (by omega)
  · rw [decide_eq_false hc]
    have HN := Lib.hid (evnO_no (s := s) hc)
    clear hc
    have p0 := (LR.out.2 0 _ rfl).1
    have q0 := (LR.out.2 0 _ rfl).2
    have p1 := (LR.out.2 1 _ rfl).1
    have q1 := (LR.out.2 1 _ rfl).2
    go_wp2
    refine bodyPost_ret (v := .tuple #[.agg #[.slice none 0 0, .slice none 0 0], .bool false]) ?_ rfl ?_
    · simp [results, Try.results22, go_sem, p0, p1]
    · rw [HN.out]
      exact ⟨none, none, 0, 0, 0, 1, rfl, ⟨.inl rfl, .inl rfl, by decide⟩, ((B0.out).setCell (p := ⟨w.heap.size, 0, none⟩) (Nat.le_refl _) _).setCell (p := ⟨w.heap.size, 1, none⟩) (Nat.le_refl _) _⟩
end Go.Proofs.Ytleimkejjpggmaa
