/- Profiles without knots, and a knot that is put behind the others. No statement is proved here. -/
import Derived.Test.YtplofbkollhjpaaPgr
namespace Go.Proofs.Ytplofbkollhjpaa
open Go Go.RowKit
set_option maxHeartbeats 4000000 in
set_option maxRecDepth 100000 in
theorem s_l02New (w : World) :
    Calls Try.prog 65 #[] w fun e w' => ∃ p1 p2 p3 : Addr, e = .returned (.agg #[.slice (some p1) 0 0, .slice (some p2) 0 0, .slice (some p3) 0 0]) ∧ Below w.heap.size w w' ∧ G3 w w' (.slice (some p1) 0 0) (.slice (some p2) 0 0) (.slice (some p3) 0 0) [] [] [] := by
  go_enter Try.func65, Try.ntmps65
  go_wp2
  refine bodyPost_ret (v := .agg #[.slice (some ⟨w.heap.size + 1, 0, none⟩) 0 0, .slice (some ⟨w.heap.size + 1 + 1, 0, none⟩) 0 0, .slice (some ⟨w.heap.size + 1 + 1 + 1, 0, none⟩) 0 0]) ?_ rfl ?_
  · simp [results, Try.results65, go_sem]
  · have hb : ∀ o, Below w.heap.size w (w.alloc o) := fun o => (Below.refl _ _).alloc (Nat.le_refl _) o
    have h : ∀ o, G3 w ((((w.alloc o).alloc (.cells #[] 31)).alloc (.cells #[] 31)).alloc (.cells #[] 31)) (.slice (some ⟨w.heap.size + 1, 0, none⟩) 0 0) (.slice (some ⟨w.heap.size + 1 + 1, 0, none⟩) 0 0) (.slice (some ⟨w.heap.size + 1 + 1 + 1, 0, none⟩) 0 0) [] [] [] := by
      intro o
      have h := (G3.start (w.alloc o)).base (hb o)
      rw [show (w.alloc o).heap.size = w.heap.size + 1 by simp] at h
      exact h
    exact ⟨_, _, _, rfl, (h _).below, h _⟩
set_option maxHeartbeats 8000000 in
set_option maxRecDepth 100000 in
theorem s_l02Put (x y z x' y' z' Bo : Nat) (X Y Z : List Nat) (w0 w : World) (h : PQ w0 Bo X Y Z w) (hl : X.length ≤ 1048576 ∧ Y.length ≤ 1048576 ∧ Z.length ≤ 1048576) (hx : canon .f32 x = canon .f32 x') (hy : canon .f32 y = canon .f32 y') (hz : canon .f32 z = canon .f32 z') :
    Calls Try.prog 66 #[.pointer (some ⟨Bo, 0, none⟩), .float .f32 x, .float .f32 y, .float .f32 z] w fun e w' => e = .returned (.tuple #[]) ∧ PQ w0 Bo (X ++ [x']) (Y ++ [y']) (Z ++ [z']) w' := by
  obtain ⟨i0, hi, hz0, hz1, hz2⟩ := info_parts f32_info
  obtain ⟨v1, v2, v3, xs, ys, zs, hF, c1, c2, c3⟩ := h
  have HLx : Hid (xs.length ≤ 1048576) := Lib.hid (by rw [c1.1]; exact hl.1)
  have HLy : Hid (ys.length ≤ 1048576) := Lib.hid (by rw [c2.1]; exact hl.2.1)
  have HLz : Hid (zs.length ≤ 1048576) := Lib.hid (by rw [c3.1]; exact hl.2.2)
  have HC := Lib.hid (show CL (xs ++ [x]) (X ++ [x']) ∧ CL (ys ++ [y]) (Y ++ [y']) ∧ CL (zs ++ [z]) (Z ++ [z']) from ⟨c1.snoc hx, c2.snoc hy, c3.snoc hz⟩)
  clear hl c1 c2 c3 hx hy hz
  have HF := Lib.hid hF
  clear hF
  obtain ⟨A1, cp1, bb1, rfl, -⟩ := Gr.own HF.out.g.g1
  obtain ⟨A2, cp2, bb2, rfl, -⟩ := Gr.own HF.out.g.g2
  obtain ⟨A3, cp3, bb3, rfl, -⟩ := Gr.own HF.out.g.g3
  obtain ⟨k0, k1, k2⟩ := HF.out.blk.three
  have f0 := (HF.out.blk.2 0 _ rfl).2
  go_enter Try.func66, Try.ntmps66
  go_wp2_with (first
    | (at_builtin; refine wpList_append_own_at _ rfl _ _ 22 rfl w0.heap.size 31 i0 (.float .f32 0) 1 4 Try.underlying22 hi hz0 hz1 hz2 rfl (by decide) _ _ _ rfl (HF.out.g.g1.below ((Below.refl _ _).alloc (Nat.le_refl _) _)) ⟨_, 0, none⟩ 1 1 [.float .f32 x] rfl rfl ?c1 ?c2 ?c3 ?c4 ?c5 ?_)
    | fail)
  case c1 =>
    intro j u hj
    match j, hj with
    | 0, hj => simp at hj; subst hj; exact ((blkL_at w #[.float .f32 x] _ rfl).2 0 _ rfl).1
  case c2 => intro u hu; simp at hu; subst hu; rfl
  case c3 => have := HLx.out; simp; unfold maxLen; omega
  case c4 => have := HLx.out; simp; omega
  case c5 => have := HF.out.g.below.size; simp; omega
  · intro u0 w7 hown' hgrow _ hat
    clear k0 k1 k2 f0
    have HF2 := Lib.hid (FQ.put1 (m := 1) (ts := [x]) HF.out rfl (by simpa using hown') hgrow (by simpa using hat))
    have M := HF.out.mid1 hgrow
    have p0 := (M.2 0 _ rfl).1
    have p1 := (M.2 1 _ rfl).1
    have p2 := (M.2 2 _ rfl).1
    have q0 := (M.2 0 _ rfl).2
    obtain ⟨B0, cq0, bq0, rfl, -⟩ := Gr.own HF2.out.g.g1
    rw [show (xs ++ [x]).length = xs.length + 1 by simp] at HF2
    clear hown' hgrow hat M
    go_wp2_with (first
      | (at_builtin; refine wpList_append_own_at _ rfl _ _ 22 rfl w0.heap.size 31 i0 (.float .f32 0) 1 4 Try.underlying22 hi hz0 hz1 hz2 rfl (by decide) _ _ _ rfl (HF2.out.g.g2.below ((Below.refl _ _).alloc (Nat.le_refl _) _)) ⟨_, 0, none⟩ 1 1 [.float .f32 y] rfl rfl ?c1 ?c2 ?c3 ?c4 ?c5 ?_)
      | fail)
    case c1 =>
      intro j u hj
      match j, hj with
      | 0, hj => simp at hj; subst hj; exact ((blkL_at (World.setCell w7 _ _) #[.float .f32 y] _ (by simp)).2 0 _ rfl).1
    case c2 => intro u hu; simp at hu; subst hu; rfl
    case c3 => have := HLy.out; simp; unfold maxLen; omega
    case c4 => have := HLy.out; simp; omega
    case c5 => have := HF2.out.g.below.size; simp at this ⊢; omega
    · intro u1 w8 hown' hgrow _ hat
      clear p0 p1 p2 q0
      have HF3 := Lib.hid (FQ.put2 (m := 1) (ts := [y]) HF2.out rfl (by simpa using hown') hgrow (by simpa using hat))
      have M := HF2.out.mid2 hgrow
      have p0 := (M.2 0 _ rfl).1
      have p1 := (M.2 1 _ rfl).1
      have p2 := (M.2 2 _ rfl).1
      have q0 := (M.2 1 _ rfl).2
      obtain ⟨B1, cq1, bq1, rfl, -⟩ := Gr.own HF3.out.g.g2
      rw [show (ys ++ [y]).length = ys.length + 1 by simp] at HF3
      clear hown' hgrow hat M
      go_wp2_with (first
        | (at_builtin; refine wpList_append_own_at _ rfl _ _ 22 rfl w0.heap.size 31 i0 (.float .f32 0) 1 4 Try.underlying22 hi hz0 hz1 hz2 rfl (by decide) _ _ _ rfl (HF3.out.g.g3.below ((Below.refl _ _).alloc (Nat.le_refl _) _)) ⟨_, 0, none⟩ 1 1 [.float .f32 z] rfl rfl ?c1 ?c2 ?c3 ?c4 ?c5 ?_)
        | fail)
      case c1 =>
        intro j u hj
        match j, hj with
        | 0, hj => simp at hj; subst hj; exact ((blkL_at (World.setCell w8 _ _) #[.float .f32 z] _ (by simp)).2 0 _ rfl).1
      case c2 => intro u hu; simp at hu; subst hu; rfl
      case c3 => have := HLz.out; simp; unfold maxLen; omega
      case c4 => have := HLz.out; simp; omega
      case c5 => have := HF3.out.g.below.size; simp at this ⊢; omega
      · intro u2 w9 hown' hgrow _ hat
        clear p0 p1 p2 q0
        have HF4 := Lib.hid (FQ.put3 (m := 1) (ts := [z]) HF3.out rfl (by simpa using hown') hgrow (by simpa using hat))
        have M := HF3.out.mid3 hgrow
        have p0 := (M.2 0 _ rfl).1
        have p1 := (M.2 1 _ rfl).1
        have p2 := (M.2 2 _ rfl).1
        have q0 := (M.2 2 _ rfl).2
        obtain ⟨B2, cq2, bq2, rfl, -⟩ := Gr.own HF4.out.g.g3
        rw [show (zs ++ [z]).length = zs.length + 1 by simp] at HF4
        clear hown' hgrow hat M
        go_wp2
        exact bodyPost_end (v := .tuple #[]) (by simp [results, Try.results66, go_sem]) rfl ⟨rfl, _, _, _, _, _, _, HF4.out, HC.out⟩
end Go.Proofs.Ytplofbkollhjpaa
