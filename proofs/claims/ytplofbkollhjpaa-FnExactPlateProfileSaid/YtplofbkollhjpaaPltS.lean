/- PlateProfile: the specification's side. No statement is proved here. -/
import Derived.Test.YtplofbkollhjpaaPut
import Derived.Test.YtplofbkollhjpaaSinW
import Derived.Test.YtplofbkollhjpaaPos
namespace Go.Proofs.Ytplofbkollhjpaa
open Go Go.RowKit
def pltX (n k : Nat) : Nat := fop .sub .f32 (fop .quo .f32 (canon .f32 (floatOfInt .f32 (k : Int))) (canon .f32 (floatOfInt .f32 ((n : Int) - 1)))) (canon .f32 1056964608)
def pltS (n k : Nat) : Nat := canon .f32 (sinT (pltX n k))
def pltC (n k : Nat) : Nat := canon .f32 (sinT (fop .add .f32 (pltX n k) (canon .f32 1048576000)))
def pltT (n k : Nat) : Nat := fop .mul .f32 (canon .f32 1073741824) (pltS n k)
def pltL (n k : Nat) : Nat := fop .mul .f32 (pltT n k) (pltC n k)
def pltD (n k : Nat) : Nat := fop .mul .f32 (pltT n k) (pltS n k)
def pltA (n : Nat) : List Nat := (List.range n).map (pltX n)
def pltB (n : Nat) : List Nat := (List.range n).map (pltL n)
def pltE (n : Nat) : List Nat := (List.range n).map (pltD n)
def pltO (c : Int) : Bool := decide (2 ≤ c ∧ c ≤ 24) && validP (pltA c.toNat) (pltB c.toNat) (pltE c.toNat)
theorem range_at {n k : Nat} {f : Nat → Nat} (h : k < n) : ((List.range n).map f).getD k 0 = f k := by simp [List.getD, h]
theorem pltA_length (n : Nat) : (pltA n).length = n := by simp [pltA]
theorem pltB_length (n : Nat) : (pltB n).length = n := by simp [pltB]
theorem pltE_length (n : Nat) : (pltE n).length = n := by simp [pltE]
theorem plt_few (c : Int) : Few (gLp (pltO c) (pltA c.toNat)) (gLp (pltO c) (pltB c.toNat)) (gLp (pltO c) (pltE c.toNat)) :=
  gL_few (fun h => by unfold pltO at h; rw [Bool.and_eq_true] at h; exact sized_of h.2)
theorem pltO_no {c : Int} (h : ¬ (2 ≤ c ∧ c ≤ 24)) : pltO c = false := by unfold pltO; rw [decide_eq_false h]; rfl
theorem pltO_yes {c : Int} (h : 2 ≤ c ∧ c ≤ 24) : pltO c = validP (pltA c.toNat) (pltB c.toNat) (pltE c.toNat) := by unfold pltO; rw [decide_eq_true h]; rfl
set_option maxHeartbeats 16000000 in
set_option maxRecDepth 100000 in
theorem s_l02Plate (n : Nat) (w : World) (h2 : 2 ≤ n) (hn : n ≤ 24) :
    Calls Try.prog 52 #[.int .i64 n] w fun e w' => ∃ (R1 R2 R3 : Option Addr) (d1 d2 d3 g1 g2 g3 : Nat) (xs ys zs : List Nat), e = .returned (.agg #[.slice R1 xs.length d1, .slice R2 ys.length d2, .slice R3 zs.length d3]) ∧ OwnQ w' w.heap.size R1 R2 R3 g1 g2 g3 xs ys zs ∧ CL xs (pltA n) ∧ CL ys (pltB n) ∧ CL zs (pltE n) ∧ Below w.heap.size w w' := by
  have HXA : Hid ((∀ k, k < n → (pltA n).getD k 0 = pltX n k) ∧ (pltA n).length = n) := Lib.hid ⟨fun k hk => range_at hk, pltA_length _⟩
  have HYA : Hid ((∀ k, k < n → (pltB n).getD k 0 = pltL n k) ∧ (pltB n).length = n) := Lib.hid ⟨fun k hk => range_at hk, pltB_length _⟩
  have HZA : Hid ((∀ k, k < n → (pltE n).getD k 0 = pltD n k) ∧ (pltE n).length = n) := Lib.hid ⟨fun k hk => range_at hk, pltE_length _⟩
  generalize pltA n = X at HXA ⊢
  generalize pltB n = Y at HYA ⊢
  generalize pltE n = Z at HZA ⊢
  obtain ⟨w1, hw1⟩ : ∃ x, x = w.alloc (.cells #[.slice none 0 0, .slice none 0 0, .slice none 0 0] 24) := ⟨_, rfl⟩
  have LR : Hid (BlkL w1 w.heap.size [.slice none 0 0, .slice none 0 0, .slice none 0 0]) := Lib.hid (by rw [hw1]; exact blkL_at w #[.slice none 0 0, .slice none 0 0, .slice none 0 0] _ rfl)
  have B1 : Hid (Below w.heap.size w w1) := Lib.hid (by rw [hw1]; exact (Below.refl _ _).alloc (Nat.le_refl _) _)
  have Z1 : Hid (w.heap.size + 1 ≤ w1.heap.size) := Lib.hid (by rw [hw1]; simp)
  have hws : IntKind.i64.wrap ((n : Int) - 1) = (n : Int) - 1 := IntWalk.i64_in _ (by omega)
  go_enter Try.func52, Try.ntmps52
  go_wp2_with fail
  rw [← hw1]
  clear hw1
  refine (s_l02New _).mono ?_
  rintro e w2 ⟨u1, u2, u3, rfl, b2, g2⟩
  have HQ0 := fun t => Lib.hid (g2.pq t)
  clear b2 g2
  go_wp2
  go_loopw [4] (fun i wr => ∃ k : Nat, k ≤ n ∧ i = .int .i64 k ∧ Hid (PQ w1 w2.heap.size (X.take k) (Y.take k) (Z.take k) wr)) (fun i _ => n - (intOf i).toNat)
  case atStart => exact ⟨0, Nat.zero_le _, rfl, HQ0 _⟩
  case round =>
    obtain ⟨k, hk, rfl, HQ⟩ := hrel
    clear HQ0
    by_cases hlt : k < n
    · have HTX : Hid (X.take (k + 1) = X.take k ++ [X.getD k 0]) := Lib.hid (take_snoc (by rw [HXA.out.2]; omega))
      have HTY : Hid (Y.take (k + 1) = Y.take k ++ [Y.getD k 0]) := Lib.hid (take_snoc (by rw [HYA.out.2]; omega))
      have HTZ : Hid (Z.take (k + 1) = Z.take k ++ [Z.getD k 0]) := Lib.hid (take_snoc (by rw [HZA.out.2]; omega))
      have HX1 : Hid (canon .f32 (X.getD k 0) = pltX n k) := Lib.hid (by rw [HXA.out.1 k hlt]; exact canon_fop ..)
      have HY1 : Hid (canon .f32 (Y.getD k 0) = pltL n k) := Lib.hid (by rw [HYA.out.1 k hlt]; exact canon_fop ..)
      have HZ1 : Hid (canon .f32 (Z.getD k 0) = pltD n k) := Lib.hid (by rw [HZA.out.1 k hlt]; exact canon_fop ..)
      have HLN : Hid ((X.take k).length ≤ 1048576 ∧ (Y.take k).length ≤ 1048576 ∧ (Z.take k).length ≤ 1048576) := Lib.hid (by simp only [List.length_take]; omega)
      generalize X.take k = X0 at HQ HTX HLN
      generalize Y.take k = Y0 at HQ HTY HLN
      generalize Z.take k = Z0 at HQ HTZ HLN
      generalize X.getD k 0 = x' at HTX HX1
      generalize Y.getD k 0 = y' at HTY HY1
      generalize Z.getD k 0 = z' at HTZ HZ1
      go_wp2_with fail
      refine (s_l01Sine _ _).mono ?_
      rintro e wa ⟨ra, na, rfl, hra, hwa⟩
      simp only [canon_fopV] at hra
      have HRA : Hid (canon .f32 ra = pltS n k) := Lib.hid hra
      have HQa : Hid (PQ w1 w2.heap.size X0 Y0 Z0 wa) := Lib.hid (by rw [hwa]; repeat (first | exact HQ.out | refine PQ.draws ?_ _))
      clear hra hwa HQ
      go_wp2_with fail
      refine (s_l01Sine _ _).mono ?_
      rintro e wb ⟨rb, nb, rfl, hrb, hwb⟩
      simp only [canon_fopV] at hrb
      have HRB : Hid (canon .f32 rb = pltC n k) := Lib.hid hrb
      have HQb : Hid (PQ w1 w2.heap.size X0 Y0 Z0 wb) := Lib.hid (by rw [hwb]; repeat (first | exact HQa.out | refine PQ.draws ?_ _))
      clear hrb hwb HQa
      go_wp2_with fail
      refine (s_l02Put _ _ _ x' y' z' _ _ _ _ w1 _ (by repeat (first | exact HQb.out | refine PQ.draws ?_ _)) HLN.out (by simp only [canon_fopV]; exact HX1.out.symm) (by simp only [canon_fopV]; rw [HRA.out, HRB.out]; exact HY1.out.symm) (by simp only [canon_fopV]; rw [HRA.out]; exact HZ1.out.symm)).mono ?_
      rintro e wc ⟨rfl, hQ⟩
      have HQ2 := Lib.hid hQ
      clear hQ HQb
      go_wp2
      go_roundw
      case rel => exact ⟨k + 1, by omega, by go_num, Lib.hid (by rw [HTX.out, HTY.out, HTZ.out]; exact HQ2.out)⟩
      case measure => simp [intOf]; omega
    · have hkk : k = n := by omega
      rw [List.take_of_length_le (by rw [HXA.out.2]; omega), List.take_of_length_le (by rw [HYA.out.2]; omega), List.take_of_length_le (by rw [HZA.out.2]; omega)] at HQ
      have HXL := Lib.hid HXA.out.2
      have HYL := Lib.hid HYA.out.2
      have HZL := Lib.hid HZA.out.2
      obtain ⟨v1, v2, v3, xs, ys, zs, hF, c1, c2, c3⟩ := HQ.out
      have hnx : xs ≠ [] := by intro e; have h1 := congrArg List.length e; have h2 := c1.1; have h3 := HXL.out; simp only [List.length_nil] at h1; omega
      have hny : ys ≠ [] := by intro e; have h1 := congrArg List.length e; have h2 := c2.1; have h3 := HYL.out; simp only [List.length_nil] at h1; omega
      have hnz : zs ≠ [] := by intro e; have h1 := congrArg List.length e; have h2 := c3.1; have h3 := HZL.out; simp only [List.length_nil] at h1; omega
      obtain ⟨R1, R2, R3, d1, d2, d3, g1, g2, g3, rfl, rfl, rfl, hown⟩ := hF.g.own hnx hny hnz
      have BL : Hid (BlkL wr w2.heap.size [.slice R1 xs.length d1, .slice R2 ys.length d2, .slice R3 zs.length d3]) := Lib.hid hF.blk
      have B6 : Hid (Below w.heap.size w wr) := Lib.hid (below_of B1.out B1.out.size hF.g.below)
      have LR6 : Hid (BlkL wr w.heap.size [.slice none 0 0, .slice none 0 0, .slice none 0 0]) := Lib.hid (LR.out.below hF.g.below)
      have HO6 := Lib.hid hown
      have HC := Lib.hid (show CL xs X ∧ CL ys Y ∧ CL zs Z from ⟨c1, c2, c3⟩)
      clear hF hown c1 c2 c3 hnx hny hnz HQ
      obtain ⟨o0, o1, o2⟩ := BL.out.three
      have p0 := (LR6.out.2 0 _ rfl).1
      have q0 := (LR6.out.2 0 _ rfl).2
      have p1 := (LR6.out.2 1 _ rfl).1
      have q1 := (LR6.out.2 1 _ rfl).2
      have p2 := (LR6.out.2 2 _ rfl).1
      have q2 := (LR6.out.2 2 _ rfl).2
      go_wp2
      refine bodyPost_ret (v := .agg #[.slice R1 xs.length d1, .slice R2 ys.length d2, .slice R3 zs.length d3]) ?_ rfl ?_
      · simp [results, Try.results52, go_sem, p0, p1, p2]
      · have z1 := Z1.out
        have hb : Below w.heap.size w _ := (((B6.out).setCell (p := ⟨w.heap.size, 0, none⟩) (Nat.le_refl _) (.slice R1 xs.length d1)).setCell (p := ⟨w.heap.size, 1, none⟩) (Nat.le_refl _) (.slice R2 ys.length d2)).setCell (p := ⟨w.heap.size, 2, none⟩) (Nat.le_refl _) (.slice R3 zs.length d3)
        have ho := (((HO6.out).setC (p := ⟨w.heap.size, 0, none⟩) (by show w.heap.size < _; omega) (.slice R1 xs.length d1)).setC (p := ⟨w.heap.size, 1, none⟩) (by show w.heap.size < _; omega) (.slice R2 ys.length d2)).setC (p := ⟨w.heap.size, 2, none⟩) (by show w.heap.size < _; omega) (.slice R3 zs.length d3)
        exact ⟨R1, R2, R3, d1, d2, d3, g1, g2, g3, xs, ys, zs, rfl, ho.base (by omega), HC.out.1, HC.out.2.1, HC.out.2.2, hb⟩
set_option maxHeartbeats 4000000 in
theorem s_GiveQ (R1 R2 R3 : Option Addr) (d1 d2 d3 b1 b2 b3 B0 : Nat) (xs ys zs X Y Z : List Nat) (O : Bool) (w : World) (h : OwnQ w B0 R1 R2 R3 b1 b2 b3 xs ys zs) (c1 : CL xs X) (c2 : CL ys Y) (c3 : CL zs Z) (hO : O = validP X Y Z) (hn : Few xs ys zs) :
    Calls Try.prog 51 #[.agg #[.slice R1 xs.length d1, .slice R2 ys.length d2, .slice R3 zs.length d3]] w fun e w' => ∃ (Ra Rb Rc : Option Addr) (da db dc ka kb kc : Nat), e = .returned (.tuple #[.agg #[.slice Ra (gLp O X).length da, .slice Rb (gLp O Y).length db, .slice Rc (gLp O Z).length dc], .bool O]) ∧
      OwnQ w' B0 Ra Rb Rc ka kb kc (gLp O X) (gLp O Y) (gLp O Z) ∧ Below w.heap.size w w' := by
  have hv := validP_CL c1 c2 c3
  cases v : validP X Y Z
  · refine (s_GiveP_no R1 R2 R3 d1 d2 d3 xs ys zs w h.pf hn (by rw [hv, v])).mono ?_
    rintro e w' ⟨rfl, hb⟩
    rw [hO, v]
    exact ⟨none, none, none, 0, 0, 0, 0, 1, 2, rfl, OwnQ.none _ _, hb⟩
  · obtain ⟨rfl, rfl, rfl⟩ := validP_eq c1 c2 c3 v
    refine (s_GiveP_yes R1 R2 R3 d1 d2 d3 xs ys zs w h.pf hn v).mono ?_
    rintro e w' ⟨rfl, hb⟩
    rw [hO, v]
    exact ⟨R1, R2, R3, d1, d2, d3, b1, b2, b3, rfl, h.below hb, hb⟩
set_option maxHeartbeats 8000000 in
theorem s_PlateProfile (c : Int) (w : World) :
    Calls Try.prog 15 #[.int .i64 c] w fun e w' => ∃ (R1 R2 R3 : Option Addr) (c1 c2 c3 g1 g2 g3 : Nat), e = .returned (.tuple #[.agg #[.slice R1 (gLp (pltO c) (pltA c.toNat)).length c1, .slice R2 (gLp (pltO c) (pltB c.toNat)).length c2, .slice R3 (gLp (pltO c) (pltE c.toNat)).length c3], .bool (pltO c)]) ∧ OwnQ w' w.heap.size R1 R2 R3 g1 g2 g3 (gLp (pltO c) (pltA c.toNat)) (gLp (pltO c) (pltB c.toNat)) (gLp (pltO c) (pltE c.toNat)) ∧ Below w.heap.size w w' := by
  have HON : Hid (¬ (2 ≤ c ∧ c ≤ 24) → pltO c = false) := Lib.hid pltO_no
  have HOY : Hid (2 ≤ c ∧ c ≤ 24 → pltO c = validP (pltA c.toNat) (pltB c.toNat) (pltE c.toNat)) := Lib.hid pltO_yes
  generalize pltO c = O at HON HOY ⊢
  obtain ⟨w0, hw0⟩ : ∃ x, x = w.alloc (.cells #[.slice none 0 0, .slice none 0 0, .slice none 0 0] 24) := ⟨_, rfl⟩
  have LR : Hid (BlkL w0 w.heap.size [.slice none 0 0, .slice none 0 0, .slice none 0 0]) := Lib.hid (by rw [hw0]; exact blkL_at w #[.slice none 0 0, .slice none 0 0, .slice none 0 0] _ rfl)
  have B0 : Hid (Below w.heap.size w w0) := Lib.hid (by rw [hw0]; exact (Below.refl _ _).alloc (Nat.le_refl _) _)
  have Z0 : Hid (w.heap.size + 1 ≤ w0.heap.size) := Lib.hid (by rw [hw0]; simp)
  go_enter Try.func15, Try.ntmps15
  go_wp2_with fail
  rw [← hw0]
  clear hw0
  refine (s_l00In _ _ _ _).mono ?_
  rintro e wq ⟨rfl, hwq⟩
  rw [hwq]
  clear hwq
  by_cases hc : 2 ≤ c ∧ c ≤ 24
  case neg =>
    have HN := Lib.hid (HON.out hc)
    rw [show (decide ((2 : Int) ≤ c) && decide (c ≤ (24 : Int))) = false by rw [← Bool.decide_and]; exact decide_eq_false hc]
    have p0 := (LR.out.2 0 _ rfl).1
    have q0 := (LR.out.2 0 _ rfl).2
    have p1 := (LR.out.2 1 _ rfl).1
    have q1 := (LR.out.2 1 _ rfl).2
    have p2 := (LR.out.2 2 _ rfl).1
    have q2 := (LR.out.2 2 _ rfl).2
    go_wp2
    refine bodyPost_ret (v := .tuple #[.agg #[.slice none 0 0, .slice none 0 0, .slice none 0 0], .bool false]) ?_ rfl ?_
    · simp [results, Try.results15, go_sem, p0, p1, p2]
    · rw [HN.out]
      exact ⟨none, none, none, 0, 0, 0, 0, 1, 2, rfl, OwnQ.none _ _, (((B0.out).setCell (p := ⟨w.heap.size, 0, none⟩) (Nat.le_refl _) _).setCell (p := ⟨w.heap.size, 1, none⟩) (Nat.le_refl _) _).setCell (p := ⟨w.heap.size, 2, none⟩) (Nat.le_refl _) _⟩
  case pos =>
    have HO := Lib.hid (HOY.out hc)
    rw [show (decide ((2 : Int) ≤ c) && decide (c ≤ (24 : Int))) = true by rw [← Bool.decide_and]; exact decide_eq_true hc]
    obtain ⟨n, rfl⟩ : ∃ n : Nat, c = n := ⟨c.toNat, by omega⟩
    rw [Int.toNat_natCast] at *
    have hXL := Lib.hid (pltA_length n)
    have hYL := Lib.hid (pltB_length n)
    have hZL := Lib.hid (pltE_length n)
    go_wp2_with fail
    refine (s_l02Plate n _ (by omega) (by omega)).mono ?_
    rintro e w1 ⟨R1, R2, R3, d1, d2, d3, g1, g2, g3, xs, ys, zs, rfl, ho, c1, c2, c3, b1⟩
    have HP := Lib.hid (s_GiveQ R1 R2 R3 d1 d2 d3 g1 g2 g3 w0.heap.size xs ys zs _ _ _ O w1 ho c1 c2 c3 HO.out (by unfold Few; rw [c1.1, c2.1, c3.1, hXL.out, hYL.out, hZL.out]; omega))
    have L1 : Hid (BlkL w1 w.heap.size [.slice none 0 0, .slice none 0 0, .slice none 0 0]) := Lib.hid (LR.out.below b1)
    have B1 : Hid (Below w.heap.size w w1) := Lib.hid (below_of B0.out B0.out.size b1)
    clear ho c1 c2 c3 b1
    go_wp2_with fail
    refine HP.out.mono ?_
    rintro e w6 ⟨Ra, Rb, Rc, da, db, dc, ka, kb, kc, rfl, ho, b6⟩
    have LR6 : Hid (BlkL w6 w.heap.size [.slice none 0 0, .slice none 0 0, .slice none 0 0]) := Lib.hid (L1.out.below b6)
    have B6 : Hid (Below w.heap.size w w6) := Lib.hid (below_of B1.out B1.out.size b6)
    have HO6 := Lib.hid ho
    clear ho b6
    have p0 := (LR6.out.2 0 _ rfl).1
    have q0 := (LR6.out.2 0 _ rfl).2
    have p1 := (LR6.out.2 1 _ rfl).1
    have q1 := (LR6.out.2 1 _ rfl).2
    have p2 := (LR6.out.2 2 _ rfl).1
    have q2 := (LR6.out.2 2 _ rfl).2
    go_wp2
    refine bodyPost_ret (v := .tuple #[.agg #[.slice Ra (gLp O (pltA n)).length da, .slice Rb (gLp O (pltB n)).length db, .slice Rc (gLp O (pltE n)).length dc], .bool O]) ?_ rfl ?_
    · simp [results, Try.results15, go_sem, p0, p1, p2]
    · have z0 := Z0.out
      refine ⟨Ra, Rb, Rc, da, db, dc, ka, kb, kc, rfl, ?_, ?_⟩
      · exact ((((HO6.out).setC (p := ⟨w.heap.size, 0, none⟩) (by show w.heap.size < _; omega) _).setC (p := ⟨w.heap.size, 1, none⟩) (by show w.heap.size < _; omega) _).setC (p := ⟨w.heap.size, 2, none⟩) (by show w.heap.size < _; omega) _).base (by omega)
      · exact (((B6.out).setCell (p := ⟨w.heap.size, 0, none⟩) (Nat.le_refl _) _).setCell (p := ⟨w.heap.size, 1, none⟩) (Nat.le_refl _) _).setCell (p := ⟨w.heap.size, 2, none⟩) (Nat.le_refl _) _
end Go.Proofs.Ytplofbkollhjpaa
