/- AddKnot: a number is put into a list. No statement is proved here. -/
import Derived.Test.YtplofbkollhjpaaPcc
import Derived.Test.YtplofbkollhjpaaDrpI
import Derived.Test.YtplofbkollhjpaaAddM
import Derived.Deep.AppendLies
import Derived.Deep.RegionLaw
import Derived.Deep.RegionLawGrows
namespace Go.Proofs.Ytplofbkollhjpaa
open Go Go.RowKit
theorem grow1 {w W w5 : World} {j x : Nat} {v' : Value} {xs : List Nat} (hb : Below w.heap.size w W) (hs : W.heap.size = w.heap.size + 1) (hl : (xs.take j).length = j)
    (ho : w5.ownsRow W.heap.size 31 1 v' (j + 1) ((xs.take j).map (Value.float .f32) ++ [.float .f32 x])) (hg : W.grownBy w5 none) :
    ∃ g c, v' = .slice (some ⟨g, 0, none⟩) (j + 1) c ∧ w.heap.size + 1 ≤ g ∧ j + 1 ≤ c ∧ Gr w5 (w.heap.size + 1) (.slice (some ⟨g, 0, none⟩) (j + 1) c) (xs.take j ++ [x]) ∧ Below w.heap.size w w5 := by
  have hbb := hb.grown hg hb.size (fun k hk => by cases hk)
  rw [hs] at ho
  have ho' := ho
  rcases ho.2 with ⟨-, h0⟩ | ⟨g, c, cur, rfl, h1, h2, h3, h4⟩
  · omega
  · refine ⟨g, c, rfl, h1, h3, ?_, hbb⟩
    unfold Gr
    rw [List.map_append, List.length_append, hl]
    exact ho'
theorem nil_cells (w : World) (ad : Addr) : ∀ (j : Nat) (u : Value), ([] : List Value)[j]? = some u → w.cell? (ad.add j) = some u := by
  intro j u h
  simp at h
theorem nil_one : ∀ u ∈ ([] : List Value), u.oneCell' = true := by
  intro u h
  simp at h
theorem nil_spare (w : World) (b o : Nat) : ∀ j, j < ([] : List Value).length → (w.cell? ⟨b, o + j, none⟩).isSome = true ∧ w.frozen? ⟨b, o + j, none⟩ = false := by
  intro j h
  simp at h
theorem setCells_nil (w : World) (b k : Nat) : w.setCells b k [] = w := rfl
theorem grow2 {w w5 w6 : World} {j n x g5 c5 g6 c6 : Nat} {xs : List Nat} (hl : (xs.take j).length = j) (hd : (xs.drop j).length = n - j) (hb : Below w.heap.size w w5)
    (h : Gr w5 (w.heap.size + 1) (.slice (some ⟨g5, 0, none⟩) (j + 1) c5) (xs.take j ++ [x]))
    (ho : w6.ownsRow (w.heap.size + 1) 31 1 (.slice (some ⟨g6, 0, none⟩) (j + 1 + (n - j)) c6) (j + 1 + (n - j)) ((xs.take j ++ [x]).map (Value.float .f32) ++ (xs.drop j).map (Value.float .f32))) (hg : w5.grownBy w6 (Value.slice (some ⟨g5, 0, none⟩) (j + 1) c5).ownBlock) :
    Own w6 g6 (xs.take j ++ x :: xs.drop j) ∧ w.heap.size ≤ g6 ∧ Below w.heap.size w w6 := by
  have hq : (xs.take j ++ [x]).length = j + 1 := by rw [List.length_append, hl]; rfl
  obtain ⟨g2, b2⟩ := Gr.moreP (w0 := w) (ys := xs.drop j) (m := n - j) h hb (by omega) hd.symm (by rw [hq]; exact ho) hg
  obtain ⟨A', c, g, e, hO⟩ := Gr.own g2
  have hy : (xs.take j ++ [x]) ++ xs.drop j = xs.take j ++ x :: xs.drop j := by simp
  rw [hy] at hO
  injection e with e1 e2 e3
  rcases hO with hO | ⟨h1, h2, h3⟩
  · exact absurd hO (by simp)
  · rw [← e1] at h1
    simp only [Option.some.injEq, Addr.mk.injEq] at h1
    obtain ⟨rfl, -, -⟩ := h1
    exact ⟨h3, by omega, b2⟩
theorem grow0 {w w5 : World} {j x g5 c5 : Nat} {xs : List Nat} (hd : xs.drop j = []) (hb : Below w.heap.size w w5) (hg5 : w.heap.size + 1 ≤ g5)
    (h : Gr w5 (w.heap.size + 1) (.slice (some ⟨g5, 0, none⟩) (j + 1) c5) (xs.take j ++ [x])) :
    Own w5 g5 (xs.take j ++ x :: xs.drop j) ∧ w.heap.size ≤ g5 ∧ Below w.heap.size w w5 := by
  obtain ⟨A', c, g, e, hO⟩ := Gr.own h
  injection e with e1 e2 e3
  rw [hd]
  rcases hO with hO | ⟨h1, h2, h3⟩
  · exact absurd hO (by simp)
  · rw [← e1] at h1
    simp only [Option.some.injEq, Addr.mk.injEq] at h1
    obtain ⟨rfl, -, -⟩ := h1
    exact ⟨h3, by omega, hb⟩
theorem gr_lt {w : World} {B0 g n c : Nat} {xs : List Nat} (h : Gr w B0 (.slice (some ⟨g, 0, none⟩) (n + 1) c) xs) (hn : xs.length = n + 1) : g < w.heap.size := by
  rcases h.2 with ⟨h1, -⟩ | ⟨g', cap, cur, e, hbg, hgg, -⟩
  · cases h1
  · injection e with e1 e2 e3
    simp only [Option.some.injEq, Addr.mk.injEq] at e1
    rw [e1.1]
    exact (Array.getElem?_eq_some_iff.1 hgg).1
set_option maxHeartbeats 8000000 in
set_option maxRecDepth 100000 in
theorem i_withNumber (j n cap x : Nat) (A : Option Addr) (xs : List Nat) (w : World) (h : Fl w A xs) (hl : xs.length = n) (hc : n ≤ cap) (hj : j ≤ n) (h2 : 2 ≤ n) (hn : n ≤ 24) :
    Calls Try.prog 71 #[.slice A n cap, .int .i64 j, .float .f32 x] w fun e w' => ∃ c g ys, e = .returned (.slice (some ⟨g, 0, none⟩) ys.length c) ∧ Own w' g ys ∧ w.heap.size ≤ g ∧ ys = xs.take j ++ x :: xs.drop j ∧ Below w.heap.size w w' := by
  obtain ⟨i0, hi, hz0, hz1, hz2⟩ := info_parts f32_info
  obtain ⟨b, off, rfl, hb, -⟩ := h.at_ (show 0 < xs.length by omega)
  have HJN : Hid (j ≤ n ∧ n ≤ 24) := Lib.hid ⟨hj, hn⟩
  have HT : Hid ((xs.take j).length = j) := Lib.hid (by rw [List.length_take]; omega)
  have HD : Hid ((xs.drop j).length = n - j) := Lib.hid (by rw [List.length_drop]; omega)
  have HFT : Hid (∀ W, Below w.heap.size w W → Fl W (some ⟨b, off, none⟩) (xs.take j)) := Lib.hid (fun W hW => (h.below hW).takeP (by omega))
  have HFD : Hid (∀ W, Below w.heap.size w W → Fl W (some ⟨b, off + j, none⟩) (xs.drop j)) := Lib.hid (fun W hW => (h.below hW).dropP)
  by_cases hlt : j < n
  · have he : ¬ cap = j := by omega
    have hjc : j ≤ cap := by omega
    clear h hl
    go_enter Try.func71, Try.ntmps71
    go_wp2_with fail
    go_region_law (first | (refine step_append_grows rfl (.tmp 10) (.tmp 12) 22 rfl 31 i0 (.float .f32 0) 1 4 Try.underlying22 hi hz0 hz1 hz2 rfl (by decide) (some ⟨b, off, none⟩) j j ((xs.take j).map (Value.float .f32)) (by simp [Act.eval, Act.put]) (by intro hh; cases hh) (by rw [List.length_map, HT.out]; omega) (fun b' hb' => by cases hb'; exact (HFT.out _ (by first | exact ((Below.refl _ _).alloc (Nat.le_refl _) _).drew | exact ((Below.refl _ _).drew).alloc (by simp) _ | exact (Below.refl _ _).alloc (Nat.le_refl _) _)).newsP) ⟨w.heap.size, 0, none⟩ 1 1 [.float .f32 x] (by simp [Act.eval, Act.put]) rfl (cell_one_new _ _ _) (by intro u hu; simp at hu; subst hu; rfl) (by omega) (by have := HJN.out; unfold maxLen; omega) (by have := HJN.out; omega) ?_; intro v' w5 ho5 hgr5; obtain ⟨g5, c5, rfl, hg5, hc5, hG5, hB5⟩ := grow1 (w := w) (by first | exact ((Below.refl _ _).alloc (Nat.le_refl _) _).drew | exact ((Below.refl _ _).drew).alloc (by simp) _ | exact (Below.refl _ _).alloc (Nat.le_refl _) _) (by simp) HT.out ho5 hgr5; have HG5 := Lib.hid hG5; have HB5 := Lib.hid hB5; have HK5 := Lib.hid hg5; have HC5 := Lib.hid hc5; clear ho5 hgr5 hG5 hB5 hg5 hc5) | (refine step_append_lies _ rfl (.tmp 13) (.tmp 16) 22 rfl (w.heap.size + 1) 31 i0 (.float .f32 0) 1 4 Try.underlying22 hi hz0 hz1 hz2 rfl (by decide) (.slice (some ⟨g5, 0, none⟩) (j + 1) c5) (j + 1) ((xs.take j ++ [x]).map (Value.float .f32)) (by simp [Act.eval, Act.put]) (by have hh := HG5.out; unfold Gr at hh; rw [List.length_append, HT.out] at hh; exact hh) ⟨b, off + j, none⟩ (n - j) (cap - j) ((xs.drop j).map (Value.float .f32)) (by simp [Act.eval, Act.put]) (by rw [List.length_map, HD.out]; omega) (HFD.out _ HB5.out).newsP (oneFP _) (by omega) (by have := HJN.out; unfold maxLen; omega) (by have := HJN.out; omega) (by have h1 := gr_lt HG5.out (by rw [List.length_append, HT.out]; rfl); have h2 := HK5.out; omega) _ rfl ?_; intro g6 c6 w6 ho6 hgr6 _ _; have HR : Hid (Own w6 g6 (xs.take j ++ x :: xs.drop j) ∧ w.heap.size ≤ g6 ∧ Below w.heap.size w w6) := Lib.hid (grow2 HT.out HD.out HB5.out HG5.out ho6 hgr6); clear ho6 hgr6))
    all_goals
      go_wp2
      go_ret
      obtain ⟨r1, r2, r3⟩ := HR.out
      have e0 : (xs.take j ++ x :: xs.drop j).length = j + 1 + (n - j) := by rw [List.length_append, List.length_cons, HT.out, HD.out]; omega
      exact ⟨c6, g6, _, by first | (rw [e0]; done) | (rw [e0]; simp [Act.put]; done) | (rw [e0]; simp [Act.put, Act.eval, results, go_sem]; done) | (rw [e0]; congr 2) | (rw [e0]; congr 2; omega) | (rw [e0]; congr 3; omega), r1, r2, rfl, r3⟩
  · obtain rfl : j = n := by omega
    have HD0 : Hid (xs.drop j = []) := Lib.hid (List.drop_of_length_le (by omega))
    by_cases he : cap = j
    · obtain rfl : j = cap := he.symm
      clear h hl
      go_enter Try.func71, Try.ntmps71
      go_wp2_with fail
      go_region_law (refine step_append_grows rfl (.tmp 10) (.tmp 12) 22 rfl 31 i0 (.float .f32 0) 1 4 Try.underlying22 hi hz0 hz1 hz2 rfl (by decide) (some ⟨b, off, none⟩) j j ((xs.take j).map (Value.float .f32)) (by simp [Act.eval, Act.put]) (by intro hh; cases hh) (by rw [List.length_map, HT.out]; omega) (fun b' hb' => by cases hb'; exact (HFT.out _ (by first | exact ((Below.refl _ _).alloc (Nat.le_refl _) _).drew | exact ((Below.refl _ _).drew).alloc (by simp) _ | exact (Below.refl _ _).alloc (Nat.le_refl _) _)).newsP) ⟨w.heap.size, 0, none⟩ 1 1 [.float .f32 x] (by simp [Act.eval, Act.put]) rfl (cell_one_new _ _ _) (by intro u hu; simp at hu; subst hu; rfl) (by omega) (by have := HJN.out; unfold maxLen; omega) (by have := HJN.out; omega) ?_; intro v' w5 ho5 hgr5; obtain ⟨g5, c5, rfl, hg5, hc5, hG5, hB5⟩ := grow1 (w := w) (by first | exact ((Below.refl _ _).alloc (Nat.le_refl _) _).drew | exact ((Below.refl _ _).drew).alloc (by simp) _ | exact (Below.refl _ _).alloc (Nat.le_refl _) _) (by simp) HT.out ho5 hgr5; have HG5 := Lib.hid hG5; have HB5 := Lib.hid hB5; have HK5 := Lib.hid hg5; have HC5 := Lib.hid hc5; clear ho5 hgr5 hG5 hB5 hg5)
      all_goals
        have HR : Hid (Own w5 g5 (xs.take j ++ x :: xs.drop j) ∧ w.heap.size ≤ g5 ∧ Below w.heap.size w w5) := Lib.hid (grow0 HD0.out HB5.out HK5.out HG5.out)
        go_wp2
        go_ret
        obtain ⟨r1, r2, r3⟩ := HR.out
        have e0 : (xs.take j ++ x :: xs.drop j).length = j + 1 := by rw [List.length_append, List.length_cons, HT.out, HD.out]; omega
        exact ⟨c5, g5, _, by first | (rw [e0]; done) | (rw [e0]; simp [Act.put]; done) | (rw [e0]; simp [Act.put, Act.eval, results, go_sem]; done) | (rw [e0]; congr 2) | (rw [e0]; congr 2; omega) | (rw [e0]; congr 3; omega), r1, r2, rfl, r3⟩
    · clear h hl
      go_enter Try.func71, Try.ntmps71
      go_wp2_with fail
      go_region_law (refine step_append_grows rfl (.tmp 10) (.tmp 12) 22 rfl 31 i0 (.float .f32 0) 1 4 Try.underlying22 hi hz0 hz1 hz2 rfl (by decide) (some ⟨b, off, none⟩) j j ((xs.take j).map (Value.float .f32)) (by simp [Act.eval, Act.put]) (by intro hh; cases hh) (by rw [List.length_map, HT.out]; omega) (fun b' hb' => by cases hb'; exact (HFT.out _ (by first | exact ((Below.refl _ _).alloc (Nat.le_refl _) _).drew | exact ((Below.refl _ _).drew).alloc (by simp) _ | exact (Below.refl _ _).alloc (Nat.le_refl _) _)).newsP) ⟨w.heap.size, 0, none⟩ 1 1 [.float .f32 x] (by simp [Act.eval, Act.put]) rfl (cell_one_new _ _ _) (by intro u hu; simp at hu; subst hu; rfl) (by omega) (by have := HJN.out; unfold maxLen; omega) (by have := HJN.out; omega) ?_; intro v' w5 ho5 hgr5; obtain ⟨g5, c5, rfl, hg5, hc5, hG5, hB5⟩ := grow1 (w := w) (by first | exact ((Below.refl _ _).alloc (Nat.le_refl _) _).drew | exact ((Below.refl _ _).drew).alloc (by simp) _ | exact (Below.refl _ _).alloc (Nat.le_refl _) _) (by simp) HT.out ho5 hgr5; have HG5 := Lib.hid hG5; have HB5 := Lib.hid hB5; have HK5 := Lib.hid hg5; have HC5 := Lib.hid hc5; clear ho5 hgr5 hG5 hB5 hg5)
      all_goals
        have HR : Hid (Own w5 g5 (xs.take j ++ x :: xs.drop j) ∧ w.heap.size ≤ g5 ∧ Below w.heap.size w w5) := Lib.hid (grow0 HD0.out HB5.out HK5.out HG5.out)
        go_wp2
        go_ret
        obtain ⟨r1, r2, r3⟩ := HR.out
        have e0 : (xs.take j ++ x :: xs.drop j).length = j + 1 := by rw [List.length_append, List.length_cons, HT.out, HD.out]; omega
        exact ⟨c5, g5, _, by first | (rw [e0]; done) | (rw [e0]; simp [Act.put]; done) | (rw [e0]; simp [Act.put, Act.eval, results, go_sem]; done) | (rw [e0]; congr 2) | (rw [e0]; congr 2; omega) | (rw [e0]; congr 3; omega), r1, r2, rfl, r3⟩
end Go.Proofs.Ytplofbkollhjpaa
