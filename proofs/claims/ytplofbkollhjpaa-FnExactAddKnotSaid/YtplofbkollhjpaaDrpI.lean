/- DropKnot: the program's side. No statement is proved here. -/
import Derived.Test.YtplofbkollhjpaaPcc
import Derived.Test.YtplofbkollhjpaaDrpS
import Derived.Test.YtplofbkollhjpaaSclI
namespace Go.Proofs.Ytplofbkollhjpaa
open Go Go.RowKit
theorem Fl.takeP {w : World} {b off j : Nat} {xs : List Nat} (h : Fl w (some ⟨b, off, none⟩) xs) (hj : j ≤ xs.length) : Fl w (some ⟨b, off, none⟩) (xs.take j) := by
  rcases h with h | ⟨b', o', e, h1, h2⟩
  · left; rw [h]; simp
  · refine .inr ⟨b', o', e, h1, fun k hk => ?_⟩
    rw [List.length_take] at hk
    rw [h2 k (by omega)]
    simp [List.getD, List.getElem?_take, show k < j by omega]
theorem Fl.dropP {w : World} {b off j : Nat} {xs : List Nat} (h : Fl w (some ⟨b, off, none⟩) xs) : Fl w (some ⟨b, off + j, none⟩) (xs.drop j) := by
  rcases h with h | ⟨b', o', e, h1, h2⟩
  · left; rw [h]; simp
  · simp only [Option.some.injEq, Addr.mk.injEq] at e
    obtain ⟨rfl, rfl, -⟩ := e
    refine .inr ⟨_, _, rfl, h1, fun k hk => ?_⟩
    rw [List.length_drop] at hk
    have := h2 (j + k) (by omega)
    rw [Nat.add_assoc, this]
    simp [List.getD, List.getElem?_drop]
theorem Fl.dropE {w : World} {p : Option Addr} {j : Nat} {xs : List Nat} (hj : xs.length ≤ j) : Fl w p (xs.drop j) := .inl (List.drop_of_length_le hj)
set_option maxHeartbeats 8000000 in
set_option maxRecDepth 100000 in
theorem i_without (B j n cap : Nat) (A : Option Addr) (xs : List Nat) (w : World) (h : Fl w A xs) (hl : xs.length = n) (hc : n ≤ cap) (hk : w.cell? ⟨B, 0, none⟩ = some (.int .i64 j)) (hj : j < n) (h2 : 2 ≤ n) (hn : n ≤ 24) :
    Calls Try.prog 72 #[.slice A n cap, .pointer (some ⟨B, 0, none⟩)] w fun e w' => ∃ c g ys, e = .returned (.slice (some ⟨g, 0, none⟩) ys.length c) ∧ Own w' g ys ∧ w.heap.size ≤ g ∧ ys = drpL xs j ∧ Below w.heap.size w w' := by
  obtain ⟨b, off, rfl, hb, -⟩ := h.at_ (show 0 < xs.length by omega)
  have HE : Hid (drpL xs j = xs.take j ++ xs.drop (j + 1)) := Lib.hid (drpL_eq (by omega))
  have HT : Hid ((xs.take j).length = j) := Lib.hid (by rw [List.length_take]; omega)
  have HD : Hid ((xs.drop (j + 1)).length = n - (j + 1)) := Lib.hid (by rw [List.length_drop]; omega)
  have HF := Lib.hid h; clear h
  have HLX := Lib.hid hl; clear hl
  have hw1 : IntKind.i64.wrap ((j : Int) + 1) = ((j + 1 : Nat) : Int) := by rw [IntWalk.i64_in _ (by omega)]; omega
  by_cases he : cap = j + 1
  · have HB2 : Hid (∀ W, Below w.heap.size w W → Fl W (some ⟨b, off, none⟩) (xs.take j) ∧ Fl W (some ⟨b, off, none⟩) (xs.drop (j + 1))) := Lib.hid (fun W hW => ⟨(HF.out.below hW).takeP (by have := HLX.out; omega), Fl.dropE (by have := HLX.out; omega)⟩)
    go_enter Try.func72, Try.ntmps72
    go_wp2_with fail
    go_region_with (refine (lib_Concat2N b off b off j (n - (j + 1)) _ _ w.heap.size (xs.take j) (xs.drop (j + 1)) _ HT.out HD.out (HB2.out _ (((Below.refl _ _).alloc (Nat.le_refl _) _).drew)).1 (HB2.out _ (((Below.refl _ _).alloc (Nat.le_refl _) _).drew)).2 (BlkL.draws (blkL_at w #[_, _] _ rfl) 1) (by omega) (by omega)).mono ?_; rintro e w4 ⟨c, g, ys, rfl, ho, hg, hy, b4⟩; have HR : Hid (Own w4 g ys ∧ w.heap.size ≤ g ∧ ys = xs.take j ++ xs.drop (j + 1) ∧ Below w.heap.size w w4) := Lib.hid ⟨ho, by have := hg; simp at this; omega, hy, below_of (((Below.refl _ _).alloc (Nat.le_refl _) _).drew) (by simp) b4⟩; clear ho hg hy b4)
    all_goals
      go_wp2
      go_ret
      obtain ⟨r1, r2, r3, r4⟩ := HR.out
      exact ⟨c, g, ys, rfl, r1, r2, by rw [HE.out]; exact r3, r4⟩
  · have HB2 : Hid (∀ W, Below w.heap.size w W → Fl W (some ⟨b, off, none⟩) (xs.take j) ∧ Fl W (some ⟨b, off + (j + 1), none⟩) (xs.drop (j + 1))) := Lib.hid (fun W hW => ⟨(HF.out.below hW).takeP (by have := HLX.out; omega), (HF.out.below hW).dropP⟩)
    go_enter Try.func72, Try.ntmps72
    go_wp2_with fail
    go_region_with (refine (lib_Concat2N b off b (off + (j + 1)) j (n - (j + 1)) _ _ w.heap.size (xs.take j) (xs.drop (j + 1)) _ HT.out HD.out (HB2.out _ (((Below.refl _ _).alloc (Nat.le_refl _) _).drew)).1 (HB2.out _ (((Below.refl _ _).alloc (Nat.le_refl _) _).drew)).2 (BlkL.draws (blkL_at w #[_, _] _ rfl) 1) (by omega) (by omega)).mono ?_; rintro e w4 ⟨c, g, ys, rfl, ho, hg, hy, b4⟩; have HR : Hid (Own w4 g ys ∧ w.heap.size ≤ g ∧ ys = xs.take j ++ xs.drop (j + 1) ∧ Below w.heap.size w w4) := Lib.hid ⟨ho, by have := hg; simp at this; omega, hy, below_of (((Below.refl _ _).alloc (Nat.le_refl _) _).drew) (by simp) b4⟩; clear ho hg hy b4)
    all_goals
      go_wp2
      go_ret
      obtain ⟨r1, r2, r3, r4⟩ := HR.out
      exact ⟨c, g, ys, rfl, r1, r2, by rw [HE.out]; exact r3, r4⟩
end Go.Proofs.Ytplofbkollhjpaa
