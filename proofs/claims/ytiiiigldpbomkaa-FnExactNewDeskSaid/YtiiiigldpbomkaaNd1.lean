/- The new desk: its profile. No statement is proved here. -/
import Derived.Test.YtiiiigldpbomkaaPgr
import Derived.Test.YtiiiigldpbomkaaSinW
import Derived.Test.YtiiiigldpbomkaaPos
import Derived.Test.YtiiiigldpbomkaaPim
namespace Go.Proofs.Ytiiiigldpbomkaa
open Go Go.RowKit
set_option maxHeartbeats 4000000 in
set_option maxRecDepth 100000 in
theorem s_l02New (w : World) :
    Calls Try.prog 189 #[] w fun e w' => ∃ p1 p2 p3 : Addr, e = .returned (.agg #[.slice (some p1) 0 0, .slice (some p2) 0 0, .slice (some p3) 0 0]) ∧ Below w.heap.size w w' ∧ G3 w w' (.slice (some p1) 0 0) (.slice (some p2) 0 0) (.slice (some p3) 0 0) [] [] [] := by
  go_enter Try.func189, Try.ntmps189
  go_wp2
  refine bodyPost_ret (v := .agg #[.slice (some ⟨w.heap.size + 1, 0, none⟩) 0 0, .slice (some ⟨w.heap.size + 1 + 1, 0, none⟩) 0 0, .slice (some ⟨w.heap.size + 1 + 1 + 1, 0, none⟩) 0 0]) ?_ rfl ?_
  · simp [results, Try.results189, go_sem]
  · have hb : ∀ o, Below w.heap.size w (w.alloc o) := fun o => (Below.refl _ _).alloc (Nat.le_refl _) o
    have h : ∀ o, G3 w ((((w.alloc o).alloc (.cells #[] 25)).alloc (.cells #[] 25)).alloc (.cells #[] 25)) (.slice (some ⟨w.heap.size + 1, 0, none⟩) 0 0) (.slice (some ⟨w.heap.size + 1 + 1, 0, none⟩) 0 0) (.slice (some ⟨w.heap.size + 1 + 1 + 1, 0, none⟩) 0 0) [] [] [] := by
      intro o
      have h := (G3.start (w.alloc o)).base (hb o)
      rw [show (w.alloc o).heap.size = w.heap.size + 1 by simp] at h
      exact h
    exact ⟨_, _, _, rfl, (h _).below, h _⟩
set_option maxHeartbeats 8000000 in
set_option maxRecDepth 100000 in
theorem s_l02Put (x y z x' y' z' Bo : Nat) (X Y Z : List Nat) (w0 w : World) (h : PQ w0 Bo X Y Z w) (hl : X.length ≤ 1048576 ∧ Y.length ≤ 1048576 ∧ Z.length ≤ 1048576) (hx : canon .f32 x = canon .f32 x') (hy : canon .f32 y = canon .f32 y') (hz : canon .f32 z = canon .f32 z') :
    Calls Try.prog 191 #[.pointer (some ⟨Bo, 0, none⟩), .float .f32 x, .float .f32 y, .float .f32 z] w fun e w' => e = .returned (.tuple #[]) ∧ PQ w0 Bo (X ++ [x']) (Y ++ [y']) (Z ++ [z']) w' := by
  obtain ⟨i0, hi, hz0, hz1, hz2⟩ := info_parts f32_info
  obtain ⟨v1, v2, v3, xs, ys, zs, hF, c1, c2, c3⟩ := h
  have HLx : Hid (xs.length ≤ 1048576) := Lib.hid (by rw [c1.1]; exact hl.1)
  have HLy : Hid (ys.length ≤ 1048576) := Lib.hid (by rw [c2.1]; exact hl.2.1)
  have HLz : Hid (zs.length ≤ 1048576) := Lib.hid (by rw [c3.1]; exact hl.2.2)
  have HC := Lib.hid (show CL (xs ++ [x]) (X ++ [x']) ∧ CL (ys ++ [y]) (Y ++ [y']) ∧ CL (zs ++ [z]) (Z ++ [z']) from ⟨c1.snoc hx, c2.snoc hy, c3.snoc hz⟩)
  clear hl c1 c2 c3 hx hy hz
  have HF := Lib.hid hF
  clear hF
  obtain ⟨A1, cp1, bb1, rfl, -⟩ := Gr.own HF.out.g.g1
  obtain ⟨A2, cp2, bb2, rfl, -⟩ := Gr.own HF.out.g.g2
  obtain ⟨A3, cp3, bb3, rfl, -⟩ := Gr.own HF.out.g.g3
  obtain ⟨k0, k1, k2⟩ := HF.out.blk.three
  have f0 := (HF.out.blk.2 0 _ rfl).2
  go_enter Try.func191, Try.ntmps191
  go_wp2_with (first
    | (at_builtin; refine wpList_append_own_at _ rfl _ _ 22 rfl w0.heap.size 25 i0 (.float .f32 0) 1 4 Try.underlying22 hi hz0 hz1 hz2 rfl (by decide) _ _ _ rfl (HF.out.g.g1.below ((Below.refl _ _).alloc (Nat.le_refl _) _)) ⟨_, 0, none⟩ 1 1 [.float .f32 x] rfl rfl ?c1 ?c2 ?c3 ?c4 ?c5 ?_)
    | fail)
  case c1 =>
    intro j u hj
    match j, hj with
    | 0, hj => simp at hj; subst hj; exact ((blkL_at w #[.float .f32 x] _ rfl).2 0 _ rfl).1
  case c2 => intro u hu; simp at hu; subst hu; rfl
  case c3 => have := HLx.out; simp; unfold maxLen; omega
  case c4 => have := HLx.out; simp; omega
  case c5 => have := HF.out.g.below.size; simp; omega
  · intro u0 w7 hown' hgrow _ hat
    clear k0 k1 k2 f0
    have HF2 := Lib.hid (FQ.put1 (m := 1) (ts := [x]) HF.out rfl (by simpa using hown') hgrow (by simpa using hat))
    have M := HF.out.mid1 hgrow
    have p0 := (M.2 0 _ rfl).1
    have p1 := (M.2 1 _ rfl).1
    have p2 := (M.2 2 _ rfl).1
    have q0 := (M.2 0 _ rfl).2
    obtain ⟨B0, cq0, bq0, rfl, -⟩ := Gr.own HF2.out.g.g1
    rw [show (xs ++ [x]).length = xs.length + 1 by simp] at HF2
    clear hown' hgrow hat M
    go_wp2_with (first
      | (at_builtin; refine wpList_append_own_at _ rfl _ _ 22 rfl w0.heap.size 25 i0 (.float .f32 0) 1 4 Try.underlying22 hi hz0 hz1 hz2 rfl (by decide) _ _ _ rfl (HF2.out.g.g2.below ((Below.refl _ _).alloc (Nat.le_refl _) _)) ⟨_, 0, none⟩ 1 1 [.float .f32 y] rfl rfl ?c1 ?c2 ?c3 ?c4 ?c5 ?_)
      | fail)
    case c1 =>
      intro j u hj
      match j, hj with
      | 0, hj => simp at hj; subst hj; exact ((blkL_at (World.setCell w7 _ _) #[.float .f32 y] _ (by simp)).2 0 _ rfl).1
    case c2 => intro u hu; simp at hu; subst hu; rfl
    case c3 => have := HLy.out; simp; unfold maxLen; omega
    case c4 => have := HLy.out; simp; omega
    case c5 => have := HF2.out.g.below.size; simp at this ⊢; omega
    · intro u1 w8 hown' hgrow _ hat
      clear p0 p1 p2 q0
      have HF3 := Lib.hid (FQ.put2 (m := 1) (ts := [y]) HF2.out rfl (by simpa using hown') hgrow (by simpa using hat))
      have M := HF2.out.mid2 hgrow
      have p0 := (M.2 0 _ rfl).1
      have p1 := (M.2 1 _ rfl).1
      have p2 := (M.2 2 _ rfl).1
      have q0 := (M.2 1 _ rfl).2
      obtain ⟨B1, cq1, bq1, rfl, -⟩ := Gr.own HF3.out.g.g2
      rw [show (ys ++ [y]).length = ys.length + 1 by simp] at HF3
      clear hown' hgrow hat M
      go_wp2_with (first
        | (at_builtin; refine wpList_append_own_at _ rfl _ _ 22 rfl w0.heap.size 25 i0 (.float .f32 0) 1 4 Try.underlying22 hi hz0 hz1 hz2 rfl (by decide) _ _ _ rfl (HF3.out.g.g3.below ((Below.refl _ _).alloc (Nat.le_refl _) _)) ⟨_, 0, none⟩ 1 1 [.float .f32 z] rfl rfl ?c1 ?c2 ?c3 ?c4 ?c5 ?_)
        | fail)
      case c1 =>
        intro j u hj
        match j, hj with
        | 0, hj => simp at hj; subst hj; exact ((blkL_at (World.setCell w8 _ _) #[.float .f32 z] _ (by simp)).2 0 _ rfl).1
      case c2 => intro u hu; simp at hu; subst hu; rfl
      case c3 => have := HLz.out; simp; unfold maxLen; omega
      case c4 => have := HLz.out; simp; omega
      case c5 => have := HF3.out.g.below.size; simp at this ⊢; omega
      · intro u2 w9 hown' hgrow _ hat
        clear p0 p1 p2 q0
        have HF4 := Lib.hid (FQ.put3 (m := 1) (ts := [z]) HF3.out rfl (by simpa using hown') hgrow (by simpa using hat))
        have M := HF3.out.mid3 hgrow
        have p0 := (M.2 0 _ rfl).1
        have p1 := (M.2 1 _ rfl).1
        have p2 := (M.2 2 _ rfl).1
        have q0 := (M.2 2 _ rfl).2
        obtain ⟨B2, cq2, bq2, rfl, -⟩ := Gr.own HF4.out.g.g3
        rw [show (zs ++ [z]).length = zs.length + 1 by simp] at HF4
        clear hown' hgrow hat M
        go_wp2
        exact bodyPost_end (v := .tuple #[]) (by simp [results, Try.results191, go_sem]) rfl ⟨rfl, _, _, _, _, _, _, HF4.out, HC.out⟩
def pltX (n k : Nat) : Nat := fop .sub .f32 (fop .quo .f32 (canon .f32 (floatOfInt .f32 (k : Int))) (canon .f32 (floatOfInt .f32 ((n : Int) - 1)))) (canon .f32 1056964608)
def pltS (n k : Nat) : Nat := canon .f32 (sinT (pltX n k))
def pltC (n k : Nat) : Nat := canon .f32 (sinT (fop .add .f32 (pltX n k) (canon .f32 1048576000)))
def pltT (n k : Nat) : Nat := fop .mul .f32 (canon .f32 1073741824) (pltS n k)
def pltL (n k : Nat) : Nat := fop .mul .f32 (pltT n k) (pltC n k)
def pltD (n k : Nat) : Nat := fop .mul .f32 (pltT n k) (pltS n k)
def pltA (n : Nat) : List Nat := (List.range n).map (pltX n)
def pltB (n : Nat) : List Nat := (List.range n).map (pltL n)
def pltE (n : Nat) : List Nat := (List.range n).map (pltD n)
def pltO (c : Int) : Bool := decide (2 ≤ c ∧ c ≤ 24) && validP (pltA c.toNat) (pltB c.toNat) (pltE c.toNat)
theorem range_at {n k : Nat} {f : Nat → Nat} (h : k < n) : ((List.range n).map f).getD k 0 = f k := by simp [List.getD, h]
theorem pltA_length (n : Nat) : (pltA n).length = n := by simp [pltA]
theorem pltB_length (n : Nat) : (pltB n).length = n := by simp [pltB]
theorem pltE_length (n : Nat) : (pltE n).length = n := by simp [pltE]
theorem plt_few (c : Int) : Few (gLp (pltO c) (pltA c.toNat)) (gLp (pltO c) (pltB c.toNat)) (gLp (pltO c) (pltE c.toNat)) :=
  gL_few (fun h => by unfold pltO at h; rw [Bool.and_eq_true] at h; exact sized_of h.2)
theorem pltO_no {c : Int} (h : ¬ (2 ≤ c ∧ c ≤ 24)) : pltO c = false := by unfold pltO; rw [decide_eq_false h]; rfl
theorem pltO_yes {c : Int} (h : 2 ≤ c ∧ c ≤ 24) : pltO c = validP (pltA c.toNat) (pltB c.toNat) (pltE c.toNat) := by unfold pltO; rw [decide_eq_true h]; rfl
set_option maxHeartbeats 16000000 in
set_option maxRecDepth 100000 in
theorem s_l02Plate (n : Nat) (w : World) (h2 : 2 ≤ n) (hn : n ≤ 24) :
    Calls Try.prog 147 #[.int .i64 n] w fun e w' => ∃ (R1 R2 R3 : Option Addr) (d1 d2 d3 g1 g2 g3 : Nat) (xs ys zs : List Nat), e = .returned (.agg #[.slice R1 xs.length d1, .slice R2 ys.length d2, .slice R3 zs.length d3]) ∧ OwnQ w' w.heap.size R1 R2 R3 g1 g2 g3 xs ys zs ∧ CL xs (pltA n) ∧ CL ys (pltB n) ∧ CL zs (pltE n) ∧ Below w.heap.size w w' := by
  have HXA : Hid ((∀ k, k < n → (pltA n).getD k 0 = pltX n k) ∧ (pltA n).length = n) := Lib.hid ⟨fun k hk => range_at hk, pltA_length _⟩
  have HYA : Hid ((∀ k, k < n → (pltB n).getD k 0 = pltL n k) ∧ (pltB n).length = n) := Lib.hid ⟨fun k hk => range_at hk, pltB_length _⟩
  have HZA : Hid ((∀ k, k < n → (pltE n).getD k 0 = pltD n k) ∧ (pltE n).length = n) := Lib.hid ⟨fun k hk => range_at hk, pltE_length _⟩
  generalize pltA n = X at HXA ⊢
  generalize pltB n = Y at HYA ⊢
  generalize pltE n = Z at HZA ⊢
  obtain ⟨w1, hw1⟩ : ∃ x, x = w.alloc (.cells #[.slice none 0 0, .slice none 0 0, .slice none 0 0] 27) := ⟨_, rfl⟩
  have LR : Hid (BlkL w1 w.heap.size [.slice none 0 0, .slice none 0 0, .slice none 0 0]) := Lib.hid (by rw [hw1]; exact blkL_at w #[.slice none 0 0, .slice none 0 0, .slice none 0 0] _ rfl)
  have B1 : Hid (Below w.heap.size w w1) := Lib.hid (by rw [hw1]; exact (Below.refl _ _).alloc (Nat.le_refl _) _)
  have Z1 : Hid (w.heap.size + 1 ≤ w1.heap.size) := Lib.hid (by rw [hw1]; simp)
  have hws : IntKind.i64.wrap ((n : Int) - 1) = (n : Int) - 1 := IntWalk.i64_in _ (by omega)
  go_enter Try.func147, Try.ntmps147
  go_wp2_with fail
  rw [← hw1]
  clear hw1
  refine (s_l02New _).mono ?_
  rintro e w2 ⟨u1, u2, u3, rfl, b2, g2⟩
  have HQ0 := fun t => Lib.hid (g2.pq t)
  clear b2 g2
  go_wp2
  go_loopw [4] (fun i wr => ∃ k : Nat, k ≤ n ∧ i = .int .i64 k ∧ Hid (PQ w1 w2.heap.size (X.take k) (Y.take k) (Z.take k) wr)) (fun i _ => n - (intOf i).toNat)
  case atStart => exact ⟨0, Nat.zero_le _, rfl, HQ0 _⟩
  case round =>
    obtain ⟨k, hk, rfl, HQ⟩ := hrel
    clear HQ0
    by_cases hlt : k < n
    · have HTX : Hid (X.take (k + 1) = X.take k ++ [X.getD k 0]) := Lib.hid (take_snoc (by rw [HXA.out.2]; omega))
      have HTY : Hid (Y.take (k + 1) = Y.take k ++ [Y.getD k 0]) := Lib.hid (take_snoc (by rw [HYA.out.2]; omega))
      have HTZ : Hid (Z.take (k + 1) = Z.take k ++ [Z.getD k 0]) := Lib.hid (take_snoc (by rw [HZA.out.2]; omega))
      have HX1 : Hid (canon .f32 (X.getD k 0) = pltX n k) := Lib.hid (by rw [HXA.out.1 k hlt]; exact canon_fop ..)
      have HY1 : Hid (canon .f32 (Y.getD k 0) = pltL n k) := Lib.hid (by rw [HYA.out.1 k hlt]; exact canon_fop ..)
      have HZ1 : Hid (canon .f32 (Z.getD k 0) = pltD n k) := Lib.hid (by rw [HZA.out.1 k hlt]; exact canon_fop ..)
      have HLN : Hid ((X.take k).length ≤ 1048576 ∧ (Y.take k).length ≤ 1048576 ∧ (Z.take k).length ≤ 1048576) := Lib.hid (by simp only [List.length_take]; omega)
      generalize X.take k = X0 at HQ HTX HLN
      generalize Y.take k = Y0 at HQ HTY HLN
      generalize Z.take k = Z0 at HQ HTZ HLN
      generalize X.getD k 0 = x' at HTX HX1
      generalize Y.getD k 0 = y' at HTY HY1
      generalize Z.getD k 0 = z' at HTZ HZ1
      go_wp2_with fail
      refine (s_l01Sine _ _).mono ?_
      rintro e wa ⟨ra, na, rfl, hra, hwa⟩
      simp only [canon_fopV] at hra
      have HRA : Hid (canon .f32 ra = pltS n k) := Lib.hid hra
      have HQa : Hid (PQ w1 w2.heap.size X0 Y0 Z0 wa) := Lib.hid (by rw [hwa]; repeat (first | exact HQ.out | refine PQ.draws ?_ _))
      clear hra hwa HQ
      go_wp2_with fail
      refine (s_l01Sine _ _).mono ?_
      rintro e wb ⟨rb, nb, rfl, hrb, hwb⟩
      simp only [canon_fopV] at hrb
      have HRB : Hid (canon .f32 rb = pltC n k) := Lib.hid hrb
      have HQb : Hid (PQ w1 w2.heap.size X0 Y0 Z0 wb) := Lib.hid (by rw [hwb]; repeat (first | exact HQa.out | refine PQ.draws ?_ _))
      clear hrb hwb HQa
      go_wp2_with fail
      refine (s_l02Put _ _ _ x' y' z' _ _ _ _ w1 _ (by repeat (first | exact HQb.out | refine PQ.draws ?_ _)) HLN.out (by simp only [canon_fopV]; exact HX1.out.symm) (by simp only [canon_fopV]; rw [HRA.out, HRB.out]; exact HY1.out.symm) (by simp only [canon_fopV]; rw [HRA.out]; exact HZ1.out.symm)).mono ?_
      rintro e wc ⟨rfl, hQ⟩
      have HQ2 := Lib.hid hQ
      clear hQ HQb
      go_wp2
      go_roundw
      case rel => exact ⟨k + 1, by omega, by go_num, Lib.hid (by rw [HTX.out, HTY.out, HTZ.out]; exact HQ2.out)⟩
      case measure => simp [intOf]; omega
    · have hkk : k = n := by omega
      rw [List.take_of_length_le (by rw [HXA.out.2]; omega), List.take_of_length_le (by rw [HYA.out.2]; omega), List.take_of_length_le (by rw [HZA.out.2]; omega)] at HQ
      have HXL := Lib.hid HXA.out.2
      have HYL := Lib.hid HYA.out.2
      have HZL := Lib.hid HZA.out.2
      obtain ⟨v1, v2, v3, xs, ys, zs, hF, c1, c2, c3⟩ := HQ.out
      have hnx : xs ≠ [] := by intro e; have h1 := congrArg List.length e; have h2 := c1.1; have h3 := HXL.out; simp only [List.length_nil] at h1; omega
      have hny : ys ≠ [] := by intro e; have h1 := congrArg List.length e; have h2 := c2.1; have h3 := HYL.out; simp only [List.length_nil] at h1; omega
      have hnz : zs ≠ [] := by intro e; have h1 := congrArg List.length e; have h2 := c3.1; have h3 := HZL.out; simp only [List.length_nil] at h1; omega
      obtain ⟨R1, R2, R3, d1, d2, d3, g1, g2, g3, rfl, rfl, rfl, hown⟩ := hF.g.own hnx hny hnz
      have BL : Hid (BlkL wr w2.heap.size [.slice R1 xs.length d1, .slice R2 ys.length d2, .slice R3 zs.length d3]) := Lib.hid hF.blk
      have B6 : Hid (Below w.heap.size w wr) := Lib.hid (below_of B1.out B1.out.size hF.g.below)
      have LR6 : Hid (BlkL wr w.heap.size [.slice none 0 0, .slice none 0 0, .slice none 0 0]) := Lib.hid (LR.out.below hF.g.below)
      have HO6 := Lib.hid hown
      have HC := Lib.hid (show CL xs X ∧ CL ys Y ∧ CL zs Z from ⟨c1, c2, c3⟩)
      clear hF hown c1 c2 c3 hnx hny hnz HQ
      obtain ⟨o0, o1, o2⟩ := BL.out.three
      have p0 := (LR6.out.2 0 _ rfl).1
      have q0 := (LR6.out.2 0 _ rfl).2
      have p1 := (LR6.out.2 1 _ rfl).1
      have q1 := (LR6.out.2 1 _ rfl).2
      have p2 := (LR6.out.2 2 _ rfl).1
      have q2 := (LR6.out.2 2 _ rfl).2
      go_wp2
      refine bodyPost_ret (v := .agg #[.slice R1 xs.length d1, .slice R2 ys.length d2, .slice R3 zs.length d3]) ?_ rfl ?_
      · simp [results, Try.results147, go_sem, p0, p1, p2]
      · have z1 := Z1.out
        have hb : Below w.heap.size w _ := (((B6.out).setCell (p := ⟨w.heap.size, 0, none⟩) (Nat.le_refl _) (.slice R1 xs.length d1)).setCell (p := ⟨w.heap.size, 1, none⟩) (Nat.le_refl _) (.slice R2 ys.length d2)).setCell (p := ⟨w.heap.size, 2, none⟩) (Nat.le_refl _) (.slice R3 zs.length d3)
        have ho := (((HO6.out).setC (p := ⟨w.heap.size, 0, none⟩) (by show w.heap.size < _; omega) (.slice R1 xs.length d1)).setC (p := ⟨w.heap.size, 1, none⟩) (by show w.heap.size < _; omega) (.slice R2 ys.length d2)).setC (p := ⟨w.heap.size, 2, none⟩) (by show w.heap.size < _; omega) (.slice R3 zs.length d3)
        exact ⟨R1, R2, R3, d1, d2, d3, g1, g2, g3, xs, ys, zs, rfl, ho.base (by omega), HC.out.1, HC.out.2.1, HC.out.2.2, hb⟩
theorem BlkL.oneP {w : World} {B : Nat} {v0 : Value} (h : BlkL w B [v0]) : w.cell? ⟨B, 0, none⟩ = some v0 := (h.2 0 _ rfl).1
section
variable {P : Program} (w : World) (a : Addr) (m : Mode)
@[go_sem] theorem run_store_funcP (f : Fn) (x y : Array Value) : (store a (.func f x y) m).run P w = stored P w a (.func f x y) m := run_store P w a _ m rfl
end
theorem i_pltA (Bc n k : Nat) (w : World) (hn : n ≤ 24) (kc : w.cell? ⟨Bc, 0, none⟩ = some (.int .i64 n)) :
    Calls Try.prog 193 #[.int .i64 k, .pointer (some ⟨Bc, 0, none⟩)] w fun e w' => ∃ r, e = .returned (.float .f32 r) ∧ canon .f32 r = pltX n k ∧ ∃ m, w' = w.drewN m := by
  have hws : IntKind.i64.wrap ((n : Int) - 1) = (n : Int) - 1 := IntWalk.i64_in _ (by omega)
  go_enter Try.func193, Try.ntmps193
  go_wp2
  go_ret
  exact ⟨_, rfl, by simp only [canon_fopV]; rfl, _, by first | rfl | (simp only [World.drewN_drewN]; rfl)⟩
theorem i_twice (B n k : Nat) (A : Option Addr) (cap : Nat) (xs : List Nat) (w : World) (h : Fl w A xs) (hl : xs.length = n) (hx : canon .f32 (xs.getD k 0) = pltX n k) (kb : w.cell? ⟨B, 0, none⟩ = some (.slice A n cap)) (hk : k < n) :
    Calls Try.prog 194 #[.int .i64 k, .pointer (some ⟨B, 0, none⟩)] w fun e w' => ∃ r, e = .returned (.float .f32 r) ∧ canon .f32 r = pltT n k ∧ ∃ m, w' = w.drewN m := by
  obtain ⟨b, off, rfl, -, hc⟩ := h.at_ (show k < xs.length by omega)
  have HX := Lib.hid hx
  clear h hl hx
  generalize xs.getD k 0 = x at hc HX
  go_enter Try.func194, Try.ntmps194
  go_wp2_with fail
  refine (i_SineTurns _ _).mono ?_
  rintro e w1 ⟨r, m, rfl, hr, rfl⟩
  rw [HX.out] at hr
  have HR : Hid (canon .f32 r = pltS n k) := Lib.hid hr
  clear hr
  go_wp2
  go_ret
  exact ⟨_, rfl, by simp only [canon_fopV]; rw [HR.out]; rfl, _, by first | rfl | (simp only [World.drewN_drewN]; rfl)⟩
set_option maxHeartbeats 8000000 in
set_option maxRecDepth 20000 in
theorem i_pltB (B4 B5 n k : Nat) (A : Option Addr) (cap : Nat) (xs : List Nat) (w : World) (h : Fl w A xs) (hl : xs.length = n) (hx : canon .f32 (xs.getD k 0) = pltX n k) (kb : w.cell? ⟨B4, 0, none⟩ = some (.slice A n cap)) (kf : w.cell? ⟨B5, 0, none⟩ = some (.func (.func 194) #[] #[.pointer (some ⟨B4, 0, none⟩)])) (hk : k < n) :
    Calls Try.prog 197 #[.int .i64 k, .pointer (some ⟨B5, 0, none⟩), .pointer (some ⟨B4, 0, none⟩)] w fun e w' => ∃ r, e = .returned (.float .f32 r) ∧ canon .f32 r = pltL n k ∧ ∃ m, w' = w.drewN m := by
  obtain ⟨b, off, rfl, -, hc⟩ := h.at_ (show k < xs.length by omega)
  have HT : Hid (∀ W, (∃ nn, W = w.drewN nn) → Calls Try.prog 194 #[.int .i64 k, .pointer (some ⟨B4, 0, none⟩)] W fun e w' => ∃ r, e = .returned (.float .f32 r) ∧ canon .f32 r = pltT n k ∧ ∃ m, w' = W.drewN m) := Lib.hid (by
    rintro W ⟨nn, rfl⟩
    exact i_twice B4 n k _ cap xs _ (h.below (below_draws (Below.refl _ _) nn)) hl hx kb hk)
  have HX := Lib.hid hx
  clear h hl hx
  generalize xs.getD k 0 = x at hc HX
  have hdd : ∀ nn j, ∃ mm, (w.drewN nn).drewN j = w.drewN mm := fun nn j => ⟨nn + j, World.drewN_drewN ..⟩
  go_enter Try.func197, Try.ntmps197
  go_wp2_with fail
  refine wp_region_inv3 (fun iq v => match iq with
    | 0 => v = .func (.func 194) #[] #[.pointer (some ⟨B4, 0, none⟩)]
    | 1 => v = .int .i64 k
    | 2 => ∃ r, v = .float .f32 r ∧ canon .f32 r = pltT n k
    | 3 => v = .slice (some ⟨b, off, none⟩) n cap
    | 4 => v = .int .i64 k
    | 5 => v = .pointer (some ⟨b, off + k, none⟩)
    | 6 => ∃ r, v = .float .f32 r ∧ canon .f32 r = pltX n k
    | 7 => ∃ r, v = .float .f32 r ∧ canon .f32 r = fop .add .f32 (pltX n k) (canon .f32 1048576000)
    | 8 => ∃ r, v = .float .f32 r ∧ canon .f32 r = canon .f32 (sinT (fop .add .f32 (pltX n k) (canon .f32 1048576000)))
    | 9 => ∃ r, v = .float .f32 r ∧ canon .f32 r = fop .mul .f32 (pltT n k) (canon .f32 (sinT (fop .add .f32 (pltX n k) (canon .f32 1048576000))))
    | 10 => ∃ r, v = .float .f32 r ∧ canon .f32 r = fop .mul .f32 (pltT n k) (canon .f32 (sinT (fop .add .f32 (pltX n k) (canon .f32 1048576000))))
    | _ => False) (fun _ ww => ∃ nn, ww = w.drewN nn) (by kernel_rfl) (by kernel_rfl) ⟨1, rfl⟩ ?hop ?hend
  case hop =>
    intro q o hq listed act w3 hI hnot hcl hall
    obtain ⟨nn, rfl⟩ := hI.cls
    rcases q with _ | _ | _ | _ | _ | _ | _ | _ | _ | _ | _ | q
    · simp at hq; subst hq
      have g1 : act.tmps[1]?.getD undef = .pointer (some ⟨B5, 0, none⟩) := hI.kept 1 (by kernel_rfl)
      clear hI hall hnot hcl
      refine .inl ⟨wanted_none rfl, ?_⟩
      unfold Oper.wp
      go_simp
      all_goals exact ⟨_, rfl, rfl, ⟨_, rfl⟩⟩
    · simp at hq; subst hq
      have g0 : act.tmps[0]?.getD undef = .int .i64 k := hI.kept 0 (by kernel_rfl)
      clear hI hall hnot hcl
      refine .inl ⟨wanted_none rfl, ?_⟩
      unfold Oper.wp
      go_simp
      all_goals exact ⟨_, rfl, rfl, ⟨_, rfl⟩⟩
    · simp at hq; subst hq
      have g5 : act.tmps[5]?.getD undef = .func (.func 194) #[] #[.pointer (some ⟨B4, 0, none⟩)] := hI.has 0 5 rfl (hall ⟨0, .data⟩ (by simp) rfl)
      have g6 : act.tmps[6]?.getD undef = .int .i64 k := hI.has 1 6 rfl (hall ⟨1, .data⟩ (by simp) rfl)
      clear hI hall hnot hcl
      refine .inl ⟨wanted_none rfl, ?_⟩
      unfold Oper.wp
      go_simp
      refine (HT.out _ ⟨nn, rfl⟩).mono ?_
      rintro e w4 ⟨r, rfl, hr, m, rfl⟩
      exact ⟨_, rfl, ⟨_, rfl, hr⟩, hdd _ _⟩
    · simp at hq; subst hq
      have g2 : act.tmps[2]?.getD undef = .pointer (some ⟨B4, 0, none⟩) := hI.kept 2 (by kernel_rfl)
      clear hI hall hnot hcl
      refine .inl ⟨wanted_none rfl, ?_⟩
      unfold Oper.wp
      go_simp
      all_goals exact ⟨_, rfl, rfl, ⟨_, rfl⟩⟩
    · simp at hq; subst hq
      have g0 : act.tmps[0]?.getD undef = .int .i64 k := hI.kept 0 (by kernel_rfl)
      clear hI hall hnot hcl
      refine .inl ⟨wanted_none rfl, ?_⟩
      unfold Oper.wp
      go_simp
      all_goals exact ⟨_, rfl, rfl, ⟨_, rfl⟩⟩
    · simp at hq; subst hq
      have g8 : act.tmps[8]?.getD undef = .slice (some ⟨b, off, none⟩) n cap := hI.has 3 8 rfl (hall ⟨3, .data⟩ (by simp) rfl)
      have g9 : act.tmps[9]?.getD undef = .int .i64 k := hI.has 4 9 rfl (hall ⟨4, .data⟩ (by simp) rfl)
      clear hI hall hnot hcl
      refine .inl ⟨wanted_none rfl, ?_⟩
      unfold Oper.wp
      go_simp
      all_goals exact ⟨_, rfl, rfl, ⟨_, rfl⟩⟩
    · simp at hq; subst hq
      have g10 : act.tmps[10]?.getD undef = .pointer (some ⟨b, off + k, none⟩) := hI.has 5 10 rfl (hall ⟨5, .data⟩ (by simp) rfl)
      clear hI hall hnot hcl
      refine .inl ⟨wanted_none rfl, ?_⟩
      unfold Oper.wp
      go_simp
      exact ⟨_, rfl, ⟨_, rfl, HX.out⟩, ⟨_, rfl⟩⟩
    · simp at hq; subst hq
      obtain ⟨r6, g11, h6a⟩ := hI.has 6 11 rfl (hall ⟨6, .data⟩ (by simp) rfl)
      clear hI hall hnot hcl
      refine .inl ⟨wanted_none rfl, ?_⟩
      unfold Oper.wp
      go_simp
      exact ⟨_, rfl, ⟨_, rfl, canonF h6a rfl⟩, by first | exact ⟨_, rfl⟩ | exact hdd _ _⟩
    · simp at hq; subst hq
      obtain ⟨r7, g12, h7a⟩ := hI.has 7 12 rfl (hall ⟨7, .data⟩ (by simp) rfl)
      clear hI hall hnot hcl
      refine .inl ⟨wanted_none rfl, ?_⟩
      unfold Oper.wp
      go_simp
      refine (i_SineTurns _ _).mono ?_
      rintro e w4 ⟨r, m, rfl, hr, rfl⟩
      rw [(h7a : canon .f32 _ = fop .add .f32 (pltX n k) (canon .f32 1048576000))] at hr
      exact ⟨_, rfl, ⟨_, rfl, hr⟩, hdd _ _⟩
    · simp at hq; subst hq
      obtain ⟨r2, g7, h2a⟩ := hI.has 2 7 rfl (hall ⟨2, .data⟩ (by simp) rfl)
      obtain ⟨r8, g13, h8a⟩ := hI.has 8 13 rfl (hall ⟨8, .data⟩ (by simp) rfl)
      clear hI hall hnot hcl
      refine .inl ⟨wanted_none rfl, ?_⟩
      unfold Oper.wp
      go_simp
      exact ⟨_, rfl, ⟨_, rfl, canonF h2a h8a⟩, by first | exact ⟨_, rfl⟩ | exact hdd _ _⟩
    · simp at hq; subst hq
      obtain ⟨r9, g14, h9a⟩ := hI.has 9 14 rfl (hall ⟨9, .data⟩ (by simp) rfl)
      clear hI hall hnot hcl
      refine .inl ⟨wanted_none rfl, ?_⟩
      unfold Oper.wp
      go_simp
      exact ⟨_, rfl, ⟨_, rfl, h9a⟩, ⟨_, rfl⟩⟩
    · simp at hq
  case hend =>
    intro listed act w3 hI hall
    obtain ⟨nn, rfl⟩ := hI.cls
    obtain ⟨rq, g4, hrq⟩ := hI.has 10 4 rfl (hall 10 (by decide))
    have hd := hI.defers
    clear hI hall
    go_wp2
    refine bodyPost_ret (v := .float .f32 rq) (by simp [results, Try.results197, g4, go_sem]) (by first | rfl | exact hd) ⟨rq, rfl, hrq, nn, rfl⟩
set_option maxHeartbeats 8000000 in
set_option maxRecDepth 20000 in
theorem i_pltE (B4 B5 n k : Nat) (A : Option Addr) (cap : Nat) (xs : List Nat) (w : World) (h : Fl w A xs) (hl : xs.length = n) (hx : canon .f32 (xs.getD k 0) = pltX n k) (kb : w.cell? ⟨B4, 0, none⟩ = some (.slice A n cap)) (kf : w.cell? ⟨B5, 0, none⟩ = some (.func (.func 194) #[] #[.pointer (some ⟨B4, 0, none⟩)])) (hk : k < n) :
    Calls Try.prog 198 #[.int .i64 k, .pointer (some ⟨B5, 0, none⟩), .pointer (some ⟨B4, 0, none⟩)] w fun e w' => ∃ r, e = .returned (.float .f32 r) ∧ canon .f32 r = pltD n k ∧ ∃ m, w' = w.drewN m := by
  obtain ⟨b, off, rfl, -, hc⟩ := h.at_ (show k < xs.length by omega)
  have HT : Hid (∀ W, (∃ nn, W = w.drewN nn) → Calls Try.prog 194 #[.int .i64 k, .pointer (some ⟨B4, 0, none⟩)] W fun e w' => ∃ r, e = .returned (.float .f32 r) ∧ canon .f32 r = pltT n k ∧ ∃ m, w' = W.drewN m) := Lib.hid (by
    rintro W ⟨nn, rfl⟩
    exact i_twice B4 n k _ cap xs _ (h.below (below_draws (Below.refl _ _) nn)) hl hx kb hk)
  have HX := Lib.hid hx
  clear h hl hx
  generalize xs.getD k 0 = x at hc HX
  have hdd : ∀ nn j, ∃ mm, (w.drewN nn).drewN j = w.drewN mm := fun nn j => ⟨nn + j, World.drewN_drewN ..⟩
  go_enter Try.func198, Try.ntmps198
  go_wp2_with fail
  refine wp_region_inv3 (fun iq v => match iq with
    | 0 => v = .func (.func 194) #[] #[.pointer (some ⟨B4, 0, none⟩)]
    | 1 => v = .int .i64 k
    | 2 => ∃ r, v = .float .f32 r ∧ canon .f32 r = pltT n k
    | 3 => v = .slice (some ⟨b, off, none⟩) n cap
    | 4 => v = .int .i64 k
    | 5 => v = .pointer (some ⟨b, off + k, none⟩)
    | 6 => ∃ r, v = .float .f32 r ∧ canon .f32 r = pltX n k
    | 7 => ∃ r, v = .float .f32 r ∧ canon .f32 r = canon .f32 (sinT (pltX n k))
    | 8 => ∃ r, v = .float .f32 r ∧ canon .f32 r = fop .mul .f32 (pltT n k) (canon .f32 (sinT (pltX n k)))
    | 9 => ∃ r, v = .float .f32 r ∧ canon .f32 r = fop .mul .f32 (pltT n k) (canon .f32 (sinT (pltX n k)))
    | _ => False) (fun _ ww => ∃ nn, ww = w.drewN nn) (by kernel_rfl) (by kernel_rfl) ⟨1, rfl⟩ ?hop ?hend
  case hop =>
    intro q o hq listed act w3 hI hnot hcl hall
    obtain ⟨nn, rfl⟩ := hI.cls
    rcases q with _ | _ | _ | _ | _ | _ | _ | _ | _ | _ | q
    · simp at hq; subst hq
      have g1 : act.tmps[1]?.getD undef = .pointer (some ⟨B5, 0, none⟩) := hI.kept 1 (by kernel_rfl)
      clear hI hall hnot hcl
      refine .inl ⟨wanted_none rfl, ?_⟩
      unfold Oper.wp
      go_simp
      all_goals exact ⟨_, rfl, rfl, ⟨_, rfl⟩⟩
    · simp at hq; subst hq
      have g0 : act.tmps[0]?.getD undef = .int .i64 k := hI.kept 0 (by kernel_rfl)
      clear hI hall hnot hcl
      refine .inl ⟨wanted_none rfl, ?_⟩
      unfold Oper.wp
      go_simp
      all_goals exact ⟨_, rfl, rfl, ⟨_, rfl⟩⟩
    · simp at hq; subst hq
      have g5 : act.tmps[5]?.getD undef = .func (.func 194) #[] #[.pointer (some ⟨B4, 0, none⟩)] := hI.has 0 5 rfl (hall ⟨0, .data⟩ (by simp) rfl)
      have g6 : act.tmps[6]?.getD undef = .int .i64 k := hI.has 1 6 rfl (hall ⟨1, .data⟩ (by simp) rfl)
      clear hI hall hnot hcl
      refine .inl ⟨wanted_none rfl, ?_⟩
      unfold Oper.wp
      go_simp
      refine (HT.out _ ⟨nn, rfl⟩).mono ?_
      rintro e w4 ⟨r, rfl, hr, m, rfl⟩
      exact ⟨_, rfl, ⟨_, rfl, hr⟩, hdd _ _⟩
    · simp at hq; subst hq
      have g2 : act.tmps[2]?.getD undef = .pointer (some ⟨B4, 0, none⟩) := hI.kept 2 (by kernel_rfl)
      clear hI hall hnot hcl
      refine .inl ⟨wanted_none rfl, ?_⟩
      unfold Oper.wp
      go_simp
      all_goals exact ⟨_, rfl, rfl, ⟨_, rfl⟩⟩
    · simp at hq; subst hq
      have g0 : act.tmps[0]?.getD undef = .int .i64 k := hI.kept 0 (by kernel_rfl)
      clear hI hall hnot hcl
      refine .inl ⟨wanted_none rfl, ?_⟩
      unfold Oper.wp
      go_simp
      all_goals exact ⟨_, rfl, rfl, ⟨_, rfl⟩⟩
    · simp at hq; subst hq
      have g8 : act.tmps[8]?.getD undef = .slice (some ⟨b, off, none⟩) n cap := hI.has 3 8 rfl (hall ⟨3, .data⟩ (by simp) rfl)
      have g9 : act.tmps[9]?.getD undef = .int .i64 k := hI.has 4 9 rfl (hall ⟨4, .data⟩ (by simp) rfl)
      clear hI hall hnot hcl
      refine .inl ⟨wanted_none rfl, ?_⟩
      unfold Oper.wp
      go_simp
      all_goals exact ⟨_, rfl, rfl, ⟨_, rfl⟩⟩
    · simp at hq; subst hq
      have g10 : act.tmps[10]?.getD undef = .pointer (some ⟨b, off + k, none⟩) := hI.has 5 10 rfl (hall ⟨5, .data⟩ (by simp) rfl)
      clear hI hall hnot hcl
      refine .inl ⟨wanted_none rfl, ?_⟩
      unfold Oper.wp
      go_simp
      exact ⟨_, rfl, ⟨_, rfl, HX.out⟩, ⟨_, rfl⟩⟩
    · simp at hq; subst hq
      obtain ⟨r6, g11, h6a⟩ := hI.has 6 11 rfl (hall ⟨6, .data⟩ (by simp) rfl)
      clear hI hall hnot hcl
      refine .inl ⟨wanted_none rfl, ?_⟩
      unfold Oper.wp
      go_simp
      refine (i_SineTurns _ _).mono ?_
      rintro e w4 ⟨r, m, rfl, hr, rfl⟩
      rw [(h6a : canon .f32 _ = pltX n k)] at hr
      exact ⟨_, rfl, ⟨_, rfl, hr⟩, hdd _ _⟩
    · simp at hq; subst hq
      obtain ⟨r2, g7, h2a⟩ := hI.has 2 7 rfl (hall ⟨2, .data⟩ (by simp) rfl)
      obtain ⟨r7, g12, h7a⟩ := hI.has 7 12 rfl (hall ⟨7, .data⟩ (by simp) rfl)
      clear hI hall hnot hcl
      refine .inl ⟨wanted_none rfl, ?_⟩
      unfold Oper.wp
      go_simp
      exact ⟨_, rfl, ⟨_, rfl, canonF h2a h7a⟩, by first | exact ⟨_, rfl⟩ | exact hdd _ _⟩
    · simp at hq; subst hq
      obtain ⟨r8, g13, h8a⟩ := hI.has 8 13 rfl (hall ⟨8, .data⟩ (by simp) rfl)
      clear hI hall hnot hcl
      refine .inl ⟨wanted_none rfl, ?_⟩
      unfold Oper.wp
      go_simp
      exact ⟨_, rfl, ⟨_, rfl, h8a⟩, ⟨_, rfl⟩⟩
    · simp at hq
  case hend =>
    intro listed act w3 hI hall
    obtain ⟨nn, rfl⟩ := hI.cls
    obtain ⟨rq, g4, hrq⟩ := hI.has 9 4 rfl (hall 9 (by decide))
    have hd := hI.defers
    clear hI hall
    go_wp2
    refine bodyPost_ret (v := .float .f32 rq) (by simp [results, Try.results198, g4, go_sem]) (by first | rfl | exact hd) ⟨rq, rfl, hrq, nn, rfl⟩
set_option maxHeartbeats 4000000 in
set_option maxRecDepth 100000 in
theorem i_listOf_plA (c0 : Value) (q : Nat → Nat) (n : Nat) (w : World) (hn : n ≤ 1048576)
    (hat : ∀ k, k < n → ∀ wr, Below w.heap.size w wr → Calls Try.prog 193 #[.int .i64 k, c0] wr fun e w' => ∃ r, e = .returned (.float .f32 r) ∧ canon .f32 r = q k ∧ Below wr.heap.size wr w') :
    Calls Try.prog 101 #[.int .i64 n, .func (.func 193) #[] #[c0]] w fun e w' => ∃ (A : Option Addr) (xs : List Nat), e = .returned (.slice A n n) ∧ xs.length = n ∧ Fl w' A xs ∧ (∀ k, k < n → canon .f32 (xs.getD k 0) = q k) ∧ Below w.heap.size w w' ∧ A = some ⟨w.heap.size, 0, none⟩ ∧ Own w' w.heap.size xs := by
  have hmk := make_f32 n w hn
  have HA := Lib.hid hat; clear hat
  go_enter Try.func101, Try.ntmps101
  go_wp2
  go_loopw [11] (fun i wr => ∃ (k : Nat) (ys : List Nat), k ≤ n ∧ i = .int .i64 k ∧ FlNew w wr w.heap.size n k ys ∧ ys.length = n ∧ Hid (∀ j, j < k → canon .f32 (ys.getD j 0) = q j)) (fun i _ => n - (intOf i).toNat)
  case atStart => exact ⟨0, List.replicate n 0, Nat.zero_le _, rfl, FlNew.start .., by simp, Lib.hid (fun j hj => absurd hj (Nat.not_lt_zero j))⟩
  case round =>
    obtain ⟨k, ys, hk, rfl, hnew, hlen, hq⟩ := hrel
    clear hmk
    by_cases hlt : k < n
    · have hcall := HA.out k hlt _ hnew.1
      have HN := Lib.hid hnew; clear hnew
      have hwr : IntKind.i64.wrap ((k : Int) + 1) = (k : Int) + 1 := IntWalk.i64_in _ (by omega)
      go_wp2_with fail
      refine hcall.mono ?_
      rintro e w1 ⟨r, rfl, hr, b1⟩
      have hn1 := HN.out.below b1
      obtain ⟨hc2, hc3⟩ := hn1.2.2.2 k hlt
      rw [if_neg (by omega)] at hc2
      have hst := (hn1.congr (ys := ys.set k r) (fun j hj => by rw [getD_lset (by omega), if_neg (by omega)])).step hlt
      rw [getD_lset (by omega), if_pos rfl] at hst
      have HS := Lib.hid hst
      have HQ : Hid (∀ j, j < k + 1 → canon .f32 ((ys.set k r).getD j 0) = q j) := Lib.hid (fun j hj => by
        rw [getD_lset (by omega)]
        by_cases e : k = j
        · rw [if_pos e, hr, e]
        · rw [if_neg e]; exact hq.out j (by omega))
      clear hst hn1 hr b1 hcall
      go_wp2
      go_roundw
      case rel => exact ⟨k + 1, ys.set k r, by omega, by go_num, HS.out, by simp [hlen], HQ⟩
      case measure => simp [intOf]; omega
    · have HN := Lib.hid hnew; clear hnew
      have hkk : k = n := by omega
      subst hkk
      go_wp2
      go_ret
      exact ⟨_, ys, rfl, hlen, by subst hlen; exact HN.out.done (Nat.le_refl _), hq.out, HN.out.1, rfl, by subst hlen; exact Own.of_new HN.out (Nat.le_refl _)⟩
set_option maxHeartbeats 4000000 in
set_option maxRecDepth 100000 in
theorem i_listOf_plB (c0 c1 : Value) (q : Nat → Nat) (n : Nat) (w : World) (hn : n ≤ 1048576)
    (hat : ∀ k, k < n → ∀ wr, Below w.heap.size w wr → Calls Try.prog 197 #[.int .i64 k, c0, c1] wr fun e w' => ∃ r, e = .returned (.float .f32 r) ∧ canon .f32 r = q k ∧ Below wr.heap.size wr w') :
    Calls Try.prog 101 #[.int .i64 n, .func (.func 197) #[] #[c0, c1]] w fun e w' => ∃ (A : Option Addr) (xs : List Nat), e = .returned (.slice A n n) ∧ xs.length = n ∧ Fl w' A xs ∧ (∀ k, k < n → canon .f32 (xs.getD k 0) = q k) ∧ Below w.heap.size w w' ∧ A = some ⟨w.heap.size, 0, none⟩ ∧ Own w' w.heap.size xs := by
  have hmk := make_f32 n w hn
  have HA := Lib.hid hat; clear hat
  go_enter Try.func101, Try.ntmps101
  go_wp2
  go_loopw [11] (fun i wr => ∃ (k : Nat) (ys : List Nat), k ≤ n ∧ i = .int .i64 k ∧ FlNew w wr w.heap.size n k ys ∧ ys.length = n ∧ Hid (∀ j, j < k → canon .f32 (ys.getD j 0) = q j)) (fun i _ => n - (intOf i).toNat)
  case atStart => exact ⟨0, List.replicate n 0, Nat.zero_le _, rfl, FlNew.start .., by simp, Lib.hid (fun j hj => absurd hj (Nat.not_lt_zero j))⟩
  case round =>
    obtain ⟨k, ys, hk, rfl, hnew, hlen, hq⟩ := hrel
    clear hmk
    by_cases hlt : k < n
    · have hcall := HA.out k hlt _ hnew.1
      have HN := Lib.hid hnew; clear hnew
      have hwr : IntKind.i64.wrap ((k : Int) + 1) = (k : Int) + 1 := IntWalk.i64_in _ (by omega)
      go_wp2_with fail
      refine hcall.mono ?_
      rintro e w1 ⟨r, rfl, hr, b1⟩
      have hn1 := HN.out.below b1
      obtain ⟨hc2, hc3⟩ := hn1.2.2.2 k hlt
      rw [if_neg (by omega)] at hc2
      have hst := (hn1.congr (ys := ys.set k r) (fun j hj => by rw [getD_lset (by omega), if_neg (by omega)])).step hlt
      rw [getD_lset (by omega), if_pos rfl] at hst
      have HS := Lib.hid hst
      have HQ : Hid (∀ j, j < k + 1 → canon .f32 ((ys.set k r).getD j 0) = q j) := Lib.hid (fun j hj => by
        rw [getD_lset (by omega)]
        by_cases e : k = j
        · rw [if_pos e, hr, e]
        · rw [if_neg e]; exact hq.out j (by omega))
      clear hst hn1 hr b1 hcall
      go_wp2
      go_roundw
      case rel => exact ⟨k + 1, ys.set k r, by omega, by go_num, HS.out, by simp [hlen], HQ⟩
      case measure => simp [intOf]; omega
    · have HN := Lib.hid hnew; clear hnew
      have hkk : k = n := by omega
      subst hkk
      go_wp2
      go_ret
      exact ⟨_, ys, rfl, hlen, by subst hlen; exact HN.out.done (Nat.le_refl _), hq.out, HN.out.1, rfl, by subst hlen; exact Own.of_new HN.out (Nat.le_refl _)⟩
set_option maxHeartbeats 4000000 in
set_option maxRecDepth 100000 in
theorem i_listOf_plE (c0 c1 : Value) (q : Nat → Nat) (n : Nat) (w : World) (hn : n ≤ 1048576)
    (hat : ∀ k, k < n → ∀ wr, Below w.heap.size w wr → Calls Try.prog 198 #[.int .i64 k, c0, c1] wr fun e w' => ∃ r, e = .returned (.float .f32 r) ∧ canon .f32 r = q k ∧ Below wr.heap.size wr w') :
    Calls Try.prog 101 #[.int .i64 n, .func (.func 198) #[] #[c0, c1]] w fun e w' => ∃ (A : Option Addr) (xs : List Nat), e = .returned (.slice A n n) ∧ xs.length = n ∧ Fl w' A xs ∧ (∀ k, k < n → canon .f32 (xs.getD k 0) = q k) ∧ Below w.heap.size w w' ∧ A = some ⟨w.heap.size, 0, none⟩ ∧ Own w' w.heap.size xs := by
  have hmk := make_f32 n w hn
  have HA := Lib.hid hat; clear hat
  go_enter Try.func101, Try.ntmps101
  go_wp2
  go_loopw [11] (fun i wr => ∃ (k : Nat) (ys : List Nat), k ≤ n ∧ i = .int .i64 k ∧ FlNew w wr w.heap.size n k ys ∧ ys.length = n ∧ Hid (∀ j, j < k → canon .f32 (ys.getD j 0) = q j)) (fun i _ => n - (intOf i).toNat)
  case atStart => exact ⟨0, List.replicate n 0, Nat.zero_le _, rfl, FlNew.start .., by simp, Lib.hid (fun j hj => absurd hj (Nat.not_lt_zero j))⟩
  case round =>
    obtain ⟨k, ys, hk, rfl, hnew, hlen, hq⟩ := hrel
    clear hmk
    by_cases hlt : k < n
    · have hcall := HA.out k hlt _ hnew.1
      have HN := Lib.hid hnew; clear hnew
      have hwr : IntKind.i64.wrap ((k : Int) + 1) = (k : Int) + 1 := IntWalk.i64_in _ (by omega)
      go_wp2_with fail
      refine hcall.mono ?_
      rintro e w1 ⟨r, rfl, hr, b1⟩
      have hn1 := HN.out.below b1
      obtain ⟨hc2, hc3⟩ := hn1.2.2.2 k hlt
      rw [if_neg (by omega)] at hc2
      have hst := (hn1.congr (ys := ys.set k r) (fun j hj => by rw [getD_lset (by omega), if_neg (by omega)])).step hlt
      rw [getD_lset (by omega), if_pos rfl] at hst
      have HS := Lib.hid hst
      have HQ : Hid (∀ j, j < k + 1 → canon .f32 ((ys.set k r).getD j 0) = q j) := Lib.hid (fun j hj => by
        rw [getD_lset (by omega)]
        by_cases e : k = j
        · rw [if_pos e, hr, e]
        · rw [if_neg e]; exact hq.out j (by omega))
      clear hst hn1 hr b1 hcall
      go_wp2
      go_roundw
      case rel => exact ⟨k + 1, ys.set k r, by omega, by go_num, HS.out, by simp [hlen], HQ⟩
      case measure => simp [intOf]; omega
    · have HN := Lib.hid hnew; clear hnew
      have hkk : k = n := by omega
      subst hkk
      go_wp2
      go_ret
      exact ⟨_, ys, rfl, hlen, by subst hlen; exact HN.out.done (Nat.le_refl _), hq.out, HN.out.1, rfl, by subst hlen; exact Own.of_new HN.out (Nat.le_refl _)⟩
set_option maxHeartbeats 16000000 in
set_option maxRecDepth 100000 in
theorem i_PlateProfile (c : Int) (w : World) :
    Calls Try.prog 150 #[.int .i64 c] w fun e w' => ∃ (R1 R2 R3 : Option Addr) (c1 c2 c3 g1 g2 g3 : Nat), e = .returned (.tuple #[.agg #[.slice R1 (gLp (pltO c) (pltA c.toNat)).length c1, .slice R2 (gLp (pltO c) (pltB c.toNat)).length c2, .slice R3 (gLp (pltO c) (pltE c.toNat)).length c3], .bool (pltO c)]) ∧ OwnQ w' w.heap.size R1 R2 R3 g1 g2 g3 (gLp (pltO c) (pltA c.toNat)) (gLp (pltO c) (pltB c.toNat)) (gLp (pltO c) (pltE c.toNat)) ∧ Below w.heap.size w w' := by
  have HON : Hid (¬ (2 ≤ c ∧ c ≤ 24) → pltO c = false) := Lib.hid pltO_no
  have HOY : Hid (2 ≤ c ∧ c ≤ 24 → pltO c = validP (pltA c.toNat) (pltB c.toNat) (pltE c.toNat)) := Lib.hid pltO_yes
  generalize pltO c = O at HON HOY ⊢
  generalize hX : pltA c.toNat = X at HOY ⊢
  generalize hY : pltB c.toNat = Y at HOY ⊢
  generalize hZ : pltE c.toNat = Z at HOY ⊢
  have HXE := Lib.hid hX.symm
  have HYE := Lib.hid hY.symm
  have HZE := Lib.hid hZ.symm
  clear hX hY hZ
  obtain ⟨w0, hw0⟩ : ∃ x, x = (w.alloc (.cells #[.int .i64 c] 2)).alloc (.cells #[.slice none 0 0, .slice none 0 0, .slice none 0 0] 27) := ⟨_, rfl⟩
  have K0 : Hid (BlkL w0 w.heap.size [.int .i64 c]) := Lib.hid (by rw [hw0]; exact (blkL_at w #[.int .i64 c] _ rfl).alloc _)
  have KR : Hid (BlkL w0 (w.heap.size + 1) [.slice none 0 0, .slice none 0 0, .slice none 0 0]) := Lib.hid (by rw [hw0]; exact blkL_at (w.alloc _) #[.slice none 0 0, .slice none 0 0, .slice none 0 0] _ (by simp))
  have B0 : Hid (Below w.heap.size w w0) := Lib.hid (by rw [hw0]; exact ((Below.refl _ _).alloc (Nat.le_refl _) _).alloc (by simp) _)
  have z0 : w0.heap.size = w.heap.size + 2 := by rw [hw0]; simp
  have HZ0 := Lib.hid z0
  clear z0
  by_cases hc1 : c < 2
  · have HN := Lib.hid (HON.out (by omega))
    go_enter Try.func150, Try.ntmps150
    go_wp2
    refine bodyPost_ret (v := .tuple #[.agg #[.slice none 0 0, .slice none 0 0, .slice none 0 0], .bool false]) ?_ rfl ?_
    · simp [results, Try.results150, go_sem]
    · rw [HN.out]
      have hb : ∀ o1 o2, Below w.heap.size w ((w.alloc o1).alloc o2) := fun _ _ => ((Below.refl _ _).alloc (Nat.le_refl _) _).alloc (by simp) _
      first | exact ⟨none, none, none, 0, 0, 0, 0, 1, 2, rfl, OwnQ.none _ _, hb _ _⟩ | exact ⟨none, none, none, ⟨0, 0, 0, rfl⟩, ⟨0, 1, 2, OwnQ.none _ _⟩, hb _ _⟩
  · by_cases hc2 : 24 < c
    · have HN := Lib.hid (HON.out (by omega))
      go_enter Try.func150, Try.ntmps150
      go_wp2
      refine bodyPost_ret (v := .tuple #[.agg #[.slice none 0 0, .slice none 0 0, .slice none 0 0], .bool false]) ?_ rfl ?_
      · simp [results, Try.results150, go_sem]
      · rw [HN.out]
        have hb : ∀ o1 o2, Below w.heap.size w ((w.alloc o1).alloc o2) := fun _ _ => ((Below.refl _ _).alloc (Nat.le_refl _) _).alloc (by simp) _
        first | exact ⟨none, none, none, 0, 0, 0, 0, 1, 2, rfl, OwnQ.none _ _, hb _ _⟩ | exact ⟨none, none, none, ⟨0, 0, 0, rfl⟩, ⟨0, 1, 2, OwnQ.none _ _⟩, hb _ _⟩
    · obtain ⟨n, rfl⟩ : ∃ n : Nat, c = n := ⟨c.toNat, by omega⟩
      have h2 : 2 ≤ n := by omega
      have hn : n ≤ 24 := by omega
      have HO := Lib.hid (HOY.out (by omega))
      rw [Int.toNat_natCast] at HXE HYE HZE
      have HLEN : Hid (X.length ≤ 24 ∧ Y.length ≤ 24 ∧ Z.length ≤ 24) := Lib.hid (by rw [HXE.out, HYE.out, HZE.out, pltA_length, pltB_length, pltE_length]; omega)
      clear hc1 hc2
      have k0 := K0.out.oneP
      go_enter Try.func150, Try.ntmps150
      go_wp2_with fail
      rw [← hw0]
      clear hw0
      refine (i_listOf_plA _ (pltX n) n _ (by omega) (fun k hk wr hb => (i_pltA w.heap.size n k wr hn (K0.out.below hb).oneP).mono fun e w' ⟨r, he, hr, m, hw⟩ => ⟨r, he, hr, by rw [hw]; exact below_draws (Below.refl _ _) _⟩)).mono ?_
      rintro e w5 ⟨Y5, xs0, rfl, hlen, -, hq, b5, rfl, hown⟩
      obtain ⟨gA, hgA⟩ : ∃ g, g = w0.heap.size := ⟨_, rfl⟩
      rw [← hgA] at hown ⊢
      have HXN := Lib.hid hlen
      have HQX := Lib.hid hq
      have HCX : Hid (CL xs0 X) := Lib.hid (by rw [HXE.out]; exact CL.of_canon hlen (pltA_length _) hq (fun k hk => by unfold pltA; rw [range_at hk]; exact canon_fop ..))
      obtain ⟨w1, hw1⟩ : ∃ x, x = (w5.alloc (.cells #[.slice (some ⟨gA, 0, none⟩) n n] 22)).alloc (.cells #[.func (.func 194) #[] #[.pointer (some ⟨w5.heap.size, 0, none⟩)]] 136) := ⟨_, rfl⟩
      have b1 : Below w5.heap.size w5 w1 := by rw [hw1]; exact ((Below.refl _ _).alloc (Nat.le_refl _) _).alloc (by simp) _
      have L4 : Hid (BlkL w1 w5.heap.size [.slice (some ⟨gA, 0, none⟩) n n]) := Lib.hid (by rw [hw1]; exact (blkL_at w5 #[.slice (some ⟨gA, 0, none⟩) n n] _ rfl).alloc _)
      have L5 : Hid (BlkL w1 (w5.heap.size + 1) [.func (.func 194) #[] #[.pointer (some ⟨w5.heap.size, 0, none⟩)]]) := Lib.hid (by rw [hw1]; exact blkL_at (w5.alloc _) #[.func (.func 194) #[] #[.pointer (some ⟨w5.heap.size, 0, none⟩)]] _ (by simp))
      have L0 : Hid (BlkL w1 w.heap.size [.int .i64 n]) := Lib.hid ((K0.out.below b5).below b1)
      have LR : Hid (BlkL w1 (w.heap.size + 1) [.slice none 0 0, .slice none 0 0, .slice none 0 0]) := Lib.hid ((KR.out.below b5).below b1)
      have LOX : Hid (Own w1 gA xs0) := Lib.hid (hown.below b1)
      have B1 : Hid (Below w.heap.size w w1) := Lib.hid (below_of (below_of B0.out B0.out.size b5) (Nat.le_trans B0.out.size b5.size) b1)
      have hg5 : gA < w5.heap.size := hown.1
      have hz51 : w5.heap.size + 2 ≤ w1.heap.size := by rw [hw1]; simp
      have hz05 : w0.heap.size ≤ w5.heap.size := b5.size
      have hgw : w.heap.size + 1 < gA := by have := HZ0.out; omega
      have hgB : w0.heap.size ≤ gA := by omega
      have hRB : w.heap.size + 1 < w0.heap.size := by have := HZ0.out; omega
      have HLB : Hid (∀ W, Own W gA xs0 → BlkL W w5.heap.size [.slice (some ⟨gA, 0, none⟩) n n] → BlkL W (w5.heap.size + 1) [.func (.func 194) #[] #[.pointer (some ⟨w5.heap.size, 0, none⟩)]] → Calls Try.prog 101 #[.int .i64 n, .func (.func 197) #[] #[.pointer (some ⟨w5.heap.size + 1, 0, none⟩), .pointer (some ⟨w5.heap.size, 0, none⟩)]] W fun e w' => ∃ c g zs, e = .returned (.slice (some ⟨g, 0, none⟩) zs.length c) ∧ Own w' g zs ∧ W.heap.size ≤ g ∧ CL zs Y ∧ Below W.heap.size W w') := Lib.hid (fun W h1 h2 h3 => (i_listOf_plB _ _ (pltL n) n W (by omega) (fun k hk wr hb => (i_pltB w5.heap.size (w5.heap.size + 1) n k _ n xs0 wr (h1.fl.below hb) HXN.out (HQX.out k hk) (h2.below hb).oneP (h3.below hb).oneP hk).mono fun e w' ⟨r, he, hr, m, hw⟩ => ⟨r, he, hr, by rw [hw]; exact below_draws (Below.refl _ _) _⟩)).mono (by
      rintro e w8 ⟨Y8, zs, rfl, hlen, -, hq, b3, rfl, hown⟩
      exact ⟨n, _, zs, by rw [hlen], hown, Nat.le_refl _, CL.of_canon hlen (by rw [HYE.out, pltB_length]) hq (fun k hk => by rw [HYE.out]; unfold pltB; rw [range_at hk]; exact canon_fop ..), b3⟩))
      have HLE : Hid (∀ W, Own W gA xs0 → BlkL W w5.heap.size [.slice (some ⟨gA, 0, none⟩) n n] → BlkL W (w5.heap.size + 1) [.func (.func 194) #[] #[.pointer (some ⟨w5.heap.size, 0, none⟩)]] → Calls Try.prog 101 #[.int .i64 n, .func (.func 198) #[] #[.pointer (some ⟨w5.heap.size + 1, 0, none⟩), .pointer (some ⟨w5.heap.size, 0, none⟩)]] W fun e w' => ∃ c g zs, e = .returned (.slice (some ⟨g, 0, none⟩) zs.length c) ∧ Own w' g zs ∧ W.heap.size ≤ g ∧ CL zs Z ∧ Below W.heap.size W w') := Lib.hid (fun W h1 h2 h3 => (i_listOf_plE _ _ (pltD n) n W (by omega) (fun k hk wr hb => (i_pltE w5.heap.size (w5.heap.size + 1) n k _ n xs0 wr (h1.fl.below hb) HXN.out (HQX.out k hk) (h2.below hb).oneP (h3.below hb).oneP hk).mono fun e w' ⟨r, he, hr, m, hw⟩ => ⟨r, he, hr, by rw [hw]; exact below_draws (Below.refl _ _) _⟩)).mono (by
      rintro e w8 ⟨Y8, zs, rfl, hlen, -, hq, b3, rfl, hown⟩
      exact ⟨n, _, zs, by rw [hlen], hown, Nat.le_refl _, CL.of_canon hlen (by rw [HZE.out, pltE_length]) hq (fun k hk => by rw [HZE.out]; unfold pltE; rw [range_at hk]; exact canon_fop ..), b3⟩))
      have HGA := Lib.hid hgA
      clear hown hq hlen b5 b1 hgA
      go_wp2_with fail
      rw [← hw1]
      clear hw1 k0
      have hFin := PFin.below ((w.heap.size + 1)) w0.heap.size O X Y Z
      refine wp_region_inv7 (fun iq wv v => match iq with
        | 0 => v = .slice (some ⟨gA, 0, none⟩) n n
        | 1 => v = .int .i64 n
        | 2 => v = .func (.func 197) #[] #[.pointer (some ⟨(w5.heap.size + 1), 0, none⟩), .pointer (some ⟨w5.heap.size, 0, none⟩)]
        | 3 => ∃ cp bk xs, v = .slice (some ⟨bk, 0, none⟩) xs.length cp ∧ Own wv bk xs ∧ w1.heap.size ≤ bk ∧ CL xs Y
        | 4 => v = .int .i64 n
        | 5 => v = .func (.func 198) #[] #[.pointer (some ⟨(w5.heap.size + 1), 0, none⟩), .pointer (some ⟨w5.heap.size, 0, none⟩)]
        | 6 => ∃ cp bk xs, v = .slice (some ⟨bk, 0, none⟩) xs.length cp ∧ Own wv bk xs ∧ w1.heap.size ≤ bk ∧ CL xs Z
        | 7 => ∃ da ka xa db kb xb dc kc xc, v = .agg #[.slice (some ⟨ka, 0, none⟩) xa.length da, .slice (some ⟨kb, 0, none⟩) xb.length db, .slice (some ⟨kc, 0, none⟩) xc.length dc] ∧ OwnQ wv w0.heap.size (some ⟨ka, 0, none⟩) (some ⟨kb, 0, none⟩) (some ⟨kc, 0, none⟩) ka kb kc xa xb xc ∧ (CL xa X ∧ CL xb Y ∧ CL xc Z)
        | 8 => PGiv w0.heap.size O X Y Z wv v
        | 9 => PAgg w0.heap.size O X Y Z wv v
        | 10 => v = .bool O
        | 11 => True
        | 12 => v = .bool O
        | _ => False) (fun listed aa ww => StC w1 ((w.heap.size + 1)) 3 11 (PFin ((w.heap.size + 1)) w0.heap.size O X Y Z) listed ww ∧ AP [20, 23] aa ww) (fun wa wb => Turn wa wb (fun b => b = (w.heap.size + 1))) ?hmono (by kernel_rfl) (by kernel_rfl) ⟨StC.start LR.out rfl, AP.start (by rfl)⟩ ?hop ?hend
      case hmono =>
        intro i wa wb v hR hV
        rcases i with _ | _ | _ | _ | _ | _ | _ | _ | _ | _ | _ | _ | _ | i
        · exact hV
        · exact hV
        · exact hV
        · obtain ⟨cp, bk, xs, rfl, ho, hb, hr⟩ := hV; exact ⟨cp, bk, xs, rfl, ho.turn hR (by show ¬ bk = _; omega), hb, hr⟩
        · exact hV
        · exact hV
        · obtain ⟨cp, bk, xs, rfl, ho, hb, hr⟩ := hV; exact ⟨cp, bk, xs, rfl, ho.turn hR (by show ¬ bk = _; omega), hb, hr⟩
        · obtain ⟨da, ka, xa, db, kb, xb, dc, kc, xc, rfl, ho, hr⟩ := hV; exact ⟨da, ka, xa, db, kb, xb, dc, kc, xc, rfl, OwnQ.turn' ho hR (fun b h1 _ hb => by have hb : b = _ := hb; omega), hr⟩
        · exact hV.turn hR (by omega)
        · exact hV.turn hR (by omega)
        · exact hV
        · exact hV
        · exact hV
        · exact hV
      case hop =>
        intro q o hq listed act w3 hI hCA hnot hcl hall
        obtain ⟨hC, hA⟩ := hCA
        have hlen : listed.size = 13 := hI.len
        have kx0 := (L0.out.turnS hC.1 (by intro e; omega)).oneP
        have kx4 := (L4.out.turnS hC.1 (by intro e; omega)).oneP
        rcases q with _ | _ | _ | _ | _ | _ | _ | _ | _ | _ | _ | _ | _ | q
        · simp at hq; subst hq
          have g4 : act.tmps[4]?.getD undef = .pointer (some ⟨w5.heap.size, 0, none⟩) := hI.kept 4 (by kernel_rfl)
          have hA2 := fun v => AP.other (k := 17) hA (by decide) v
          clear hI hall hnot hcl
          refine .inl ⟨wanted_none rfl, ?_⟩
          unfold Oper.wp
          go_simp
          all_goals exact ⟨_, rfl, Turn.refl _ _, rfl, StC.step (k := 0) hC (Below.refl _ _) hFin (by decide) (by rw [hlen]; decide), hA2 _⟩
        · simp at hq; subst hq
          have g1 : act.tmps[1]?.getD undef = .pointer (some ⟨w.heap.size, 0, none⟩) := hI.kept 1 (by kernel_rfl)
          have hA2 := fun v => AP.other (k := 18) hA (by decide) v
          clear hI hall hnot hcl
          refine .inl ⟨wanted_none rfl, ?_⟩
          unfold Oper.wp
          go_simp
          all_goals exact ⟨_, rfl, Turn.refl _ _, rfl, StC.step (k := 1) hC (Below.refl _ _) hFin (by decide) (by rw [hlen]; decide), hA2 _⟩
        · simp at hq; subst hq
          have g5 : act.tmps[5]?.getD undef = .pointer (some ⟨(w5.heap.size + 1), 0, none⟩) := hI.kept 5 (by kernel_rfl)
          have g4 : act.tmps[4]?.getD undef = .pointer (some ⟨w5.heap.size, 0, none⟩) := hI.kept 4 (by kernel_rfl)
          have hA2 := fun v => AP.other (k := 19) hA (by decide) v
          clear hI hall hnot hcl
          refine .inl ⟨wanted_none rfl, ?_⟩
          unfold Oper.wp
          go_simp
          all_goals exact ⟨_, rfl, Turn.refl _ _, rfl, StC.step (k := 2) hC (Below.refl _ _) hFin (by decide) (by rw [hlen]; decide), hA2 _⟩
        · simp at hq; subst hq
          have g18 : act.tmps[18]?.getD undef = .int .i64 n := hI.has 1 18 rfl (hall ⟨1, .data⟩ (by simp) rfl)
          have g19 : act.tmps[19]?.getD undef = .func (.func 197) #[] #[.pointer (some ⟨(w5.heap.size + 1), 0, none⟩), .pointer (some ⟨w5.heap.size, 0, none⟩)] := hI.has 2 19 rfl (hall ⟨2, .data⟩ (by simp) rfl)
          clear hI hall hnot hcl
          refine .inl ⟨wanted_none rfl, ?_⟩
          unfold Oper.wp
          go_simp
          refine (HLB.out w3 (LOX.out.turn hC.1 (by show ¬ gA = _; omega)) (L4.out.turnS hC.1 (by intro e; omega)) (L5.out.turnS hC.1 (by intro e; omega))).mono ?_
          rintro e w4 ⟨cp, bk, xs, rfl, ho, hlo, hcx, b4⟩
          have hz := hC.1.1
          exact ⟨_, rfl, Turn.of_below b4 _, ⟨cp, bk, xs, rfl, ho, by omega, hcx⟩, StC.step (k := 3) hC b4 hFin (by decide) (by rw [hlen]; decide), AP.new hA b4.size hlo ho.1⟩
        · simp at hq; subst hq
          have g1 : act.tmps[1]?.getD undef = .pointer (some ⟨w.heap.size, 0, none⟩) := hI.kept 1 (by kernel_rfl)
          have hA2 := fun v => AP.other (k := 21) hA (by decide) v
          clear hI hall hnot hcl
          refine .inl ⟨wanted_none rfl, ?_⟩
          unfold Oper.wp
          go_simp
          all_goals exact ⟨_, rfl, Turn.refl _ _, rfl, StC.step (k := 4) hC (Below.refl _ _) hFin (by decide) (by rw [hlen]; decide), hA2 _⟩
        · simp at hq; subst hq
          have g5 : act.tmps[5]?.getD undef = .pointer (some ⟨(w5.heap.size + 1), 0, none⟩) := hI.kept 5 (by kernel_rfl)
          have g4 : act.tmps[4]?.getD undef = .pointer (some ⟨w5.heap.size, 0, none⟩) := hI.kept 4 (by kernel_rfl)
          have hA2 := fun v => AP.other (k := 22) hA (by decide) v
          clear hI hall hnot hcl
          refine .inl ⟨wanted_none rfl, ?_⟩
          unfold Oper.wp
          go_simp
          all_goals exact ⟨_, rfl, Turn.refl _ _, rfl, StC.step (k := 5) hC (Below.refl _ _) hFin (by decide) (by rw [hlen]; decide), hA2 _⟩
        · simp at hq; subst hq
          have g21 : act.tmps[21]?.getD undef = .int .i64 n := hI.has 4 21 rfl (hall ⟨4, .data⟩ (by simp) rfl)
          have g22 : act.tmps[22]?.getD undef = .func (.func 198) #[] #[.pointer (some ⟨(w5.heap.size + 1), 0, none⟩), .pointer (some ⟨w5.heap.size, 0, none⟩)] := hI.has 5 22 rfl (hall ⟨5, .data⟩ (by simp) rfl)
          clear hI hall hnot hcl
          refine .inl ⟨wanted_none rfl, ?_⟩
          unfold Oper.wp
          go_simp
          refine (HLE.out w3 (LOX.out.turn hC.1 (by show ¬ gA = _; omega)) (L4.out.turnS hC.1 (by intro e; omega)) (L5.out.turnS hC.1 (by intro e; omega))).mono ?_
          rintro e w4 ⟨cp, bk, xs, rfl, ho, hlo, hcx, b4⟩
          have hz := hC.1.1
          exact ⟨_, rfl, Turn.of_below b4 _, ⟨cp, bk, xs, rfl, ho, by omega, hcx⟩, StC.step (k := 6) hC b4 hFin (by decide) (by rw [hlen]; decide), AP.new hA b4.size hlo ho.1⟩
        · simp at hq; subst hq
          have g17 : act.tmps[17]?.getD undef = .slice (some ⟨gA, 0, none⟩) n n := hI.has 0 17 rfl (hall ⟨0, .data⟩ (by simp) rfl)
          obtain ⟨cp3, bk3, xs3, g20, h3a, h3b, h3c⟩ := hI.has 3 20 rfl (hall ⟨3, .data⟩ (by simp) rfl)
          obtain ⟨cp6, bk6, xs6, g23, h6a, h6b, h6c⟩ := hI.has 6 23 rfl (hall ⟨6, .data⟩ (by simp) rfl)
          have hA2 := fun v => AP.other (k := 24) hA (by decide) v
          clear hI hall hnot hcl
          refine .inl ⟨wanted_none rfl, ?_⟩
          unfold Oper.wp
          go_simp
          have e12 := (show gA ≠ bk3 by omega)
          have e13 := (show gA ≠ bk6 by omega)
          have e23 := (hA.2 20 (by decide) 23 (by decide) (by decide) _ _ _ _ _ _ _ _ (by rw [Array.getD_eq_getD_getElem?]; exact g20) (by rw [Array.getD_eq_getD_getElem?]; exact g23))
          exact ⟨_, rfl, Turn.refl _ _, ⟨n, gA, xs0, cp3, bk3, xs3, cp6, bk6, xs6, by rw [HXN.out], ⟨Own.o (LOX.out.turn hC.1 (by show ¬ gA = _; omega)) (by omega), Own.o h3a (by omega), Own.o h6a (by omega), e12, e13, e23⟩, HCX.out, h3c, h6c⟩, StC.step (k := 7) hC (Below.refl _ _) hFin (by decide) (by rw [hlen]; decide), hA2 _⟩
        · simp at hq; subst hq
          obtain ⟨da7, ka7, xa7, db7, kb7, xb7, dc7, kc7, xc7, g24, h7a, h7b⟩ := hI.has 7 24 rfl (hall ⟨7, .data⟩ (by simp) rfl)
          have hA2 := fun v => AP.other (k := 25) hA (by decide) v
          clear hI hall hnot hcl
          refine .inl ⟨wanted_none rfl, ?_⟩
          unfold Oper.wp
          go_simp
          refine (i_GiveQ _ _ _ _ _ _ _ _ _ w0.heap.size xa7 xb7 xc7 X Y Z O w3 h7a h7b.1 h7b.2.1 h7b.2.2 HO.out (by have h1 := h7b.1.1; have h2 := h7b.2.1.1; have h3 := h7b.2.2.1; have h4 := HLEN.out; unfold Few; omega)).mono ?_
          rintro e w4 ⟨Ra, Rb, Rc, da, db, dc, ka, kb, kc, rfl, ho, b4⟩
          exact ⟨_, rfl, Turn.of_below b4 _, PGiv.mk' ho, StC.step (k := 8) hC b4 hFin (by decide) (by rw [hlen]; decide), (hA2 _).grow b4.size⟩
        · simp at hq; subst hq
          obtain ⟨Ra8, Rb8, Rc8, da8, db8, dc8, ka8, kb8, kc8, g25, h8a⟩ := hI.has 8 25 rfl (hall ⟨8, .data⟩ (by simp) rfl)
          have hA2 := fun v => AP.other (k := 26) hA (by decide) v
          clear hI hall hnot hcl
          refine .inl ⟨wanted_none rfl, ?_⟩
          unfold Oper.wp
          go_simp
          exact ⟨_, rfl, Turn.refl _ _, PAgg.mk' h8a, StC.step (k := 9) hC (Below.refl _ _) hFin (by decide) (by rw [hlen]; decide), hA2 _⟩
        · simp at hq; subst hq
          obtain ⟨Ra8, Rb8, Rc8, da8, db8, dc8, ka8, kb8, kc8, g25, h8a⟩ := hI.has 8 25 rfl (hall ⟨8, .data⟩ (by simp) rfl)
          have hA2 := fun v => AP.other (k := 27) hA (by decide) v
          clear hI hall hnot hcl
          refine .inl ⟨wanted_none rfl, ?_⟩
          unfold Oper.wp
          go_simp
          all_goals exact ⟨_, rfl, Turn.refl _ _, rfl, StC.step (k := 10) hC (Below.refl _ _) hFin (by decide) (by rw [hlen]; decide), hA2 _⟩
        · simp at hq; subst hq
          have g2 : act.tmps[2]?.getD undef = .pointer (some ⟨(w.heap.size + 1), 0, none⟩) := hI.kept 2 (by kernel_rfl)
          obtain ⟨Ra9, Rb9, Rc9, da9, db9, dc9, ka9, kb9, kc9, g26, h9a⟩ := hI.has 9 26 rfl (hall ⟨9, .data⟩ (by simp) rfl)
          have hA2 := fun v => AP.skip hA v
          clear hI hall hnot hcl
          refine .inl ⟨wanted_none rfl, ?_⟩
          unfold Oper.wp
          go_simp
          obtain ⟨vs, hvs, hvl⟩ := hC.2.1
          match vs, hvs, hvl with
          | [a0, a1, a2], hvs, _ =>
          have p0 := (hvs.2 0 _ rfl).1
          have q0 := (hvs.2 0 _ rfl).2
          have p1 := (hvs.2 1 _ rfl).1
          have q1 := (hvs.2 1 _ rfl).2
          have p2 := (hvs.2 2 _ rfl).1
          have q2 := (hvs.2 2 _ rfl).2
          go_simp
          have hf := (((hvs.set (i := 0) (by simp) (.slice Ra9 (gLp O X).length da9)).set (i := 1) (by simp) (.slice Rb9 (gLp O Y).length db9)).set (i := 2) (by simp) (.slice Rc9 (gLp O Z).length dc9))
          have ht := (((Turn.set w3 (B := (w.heap.size + 1)) ⟨(w.heap.size + 1), 0, none⟩ rfl (.slice Ra9 (gLp O X).length da9)).trans (Turn.set _ (B := (w.heap.size + 1)) ⟨(w.heap.size + 1), 1, none⟩ rfl (.slice Rb9 (gLp O Y).length db9))).trans (Turn.set _ (B := (w.heap.size + 1)) ⟨(w.heap.size + 1), 2, none⟩ rfl (.slice Rc9 (gLp O Z).length dc9)))
          have hn := (((h9a.setC (p := ⟨(w.heap.size + 1), 0, none⟩) (by show (w.heap.size + 1) < _; omega) (.slice Ra9 (gLp O X).length da9)).setC (p := ⟨(w.heap.size + 1), 1, none⟩) (by show (w.heap.size + 1) < _; omega) (.slice Rb9 (gLp O Y).length db9)).setC (p := ⟨(w.heap.size + 1), 2, none⟩) (by show (w.heap.size + 1) < _; omega) (.slice Rc9 (gLp O Z).length dc9))
          have hst := StC.store (st := 11) hC ht hf rfl ⟨Ra9, Rb9, Rc9, da9, db9, dc9, ka9, kb9, kc9, hf, hn⟩
          have hap := (hA2 undef).grow ht.1
          first | exact ⟨ht, trivial, hst, hap⟩ | exact ⟨ht, hst, hap⟩
        · simp at hq; subst hq
          have g27 : act.tmps[27]?.getD undef = .bool O := hI.has 10 27 rfl (hall ⟨10, .data⟩ (by simp) rfl)
          have hA2 := fun v => AP.other (k := 3) hA (by decide) v
          clear hI hall hnot hcl
          refine .inl ⟨wanted_none rfl, ?_⟩
          unfold Oper.wp
          go_simp
          all_goals exact ⟨_, rfl, Turn.refl _ _, rfl, StC.step (k := 12) hC (Below.refl _ _) hFin (by decide) (by rw [hlen]; decide), hA2 _⟩
        · simp at hq
      case hend =>
        intro listed act w3 hI hCA hall
        obtain ⟨hC, hA⟩ := hCA
        have hlen : listed.size = 13 := hI.len
        have kx0 := (L0.out.turnS hC.1 (by intro e; omega)).oneP
        have kx4 := (L4.out.turnS hC.1 (by intro e; omega)).oneP
        obtain ⟨Ra, Rb, Rc, da, db, dc, ka, kb, kc, hf, hown⟩ := hC.2.2 (hall 11 (by decide))
        have ht := hC.1
        have g2 : act.tmps[2]?.getD undef = .pointer (some ⟨(w.heap.size + 1), 0, none⟩) := hI.kept 2 (by kernel_rfl)
        have g3 : act.tmps[3]?.getD undef = .bool O := hI.has 12 3 rfl (hall 12 (by decide))
        have hd := hI.defers
        clear hI hall hFin hC hA
        have c0 := (hf.2 0 _ rfl).1
        have c1 := (hf.2 1 _ rfl).1
        have c2 := (hf.2 2 _ rfl).1
        go_wp2
        refine bodyPost_ret (v := .tuple #[.agg #[.slice Ra (gLp O X).length da, .slice Rb (gLp O Y).length db, .slice Rc (gLp O Z).length dc], .bool O]) (by simp [results, Try.results150, g2, g3, c0, c1, c2, go_sem]) (by first | rfl | exact hd) ?_
        have hbw := ht.2.2.2 w B1.out (fun b hb => by have hb : b = (w.heap.size + 1) := hb; omega)
        first | exact ⟨Ra, Rb, Rc, da, db, dc, ka, kb, kc, rfl, hown.base B0.out.size, hbw⟩ | exact ⟨Ra, Rb, Rc, ⟨da, db, dc, rfl⟩, ⟨ka, kb, kc, hown.base B0.out.size⟩, hbw⟩
end Go.Proofs.Ytiiiigldpbomkaa
