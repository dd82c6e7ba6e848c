/- Rotors in a row: both sides. No statement is proved here. -/
import Derived.Test.YtmadlabnhjhfiaaFrmG
namespace Go.Proofs.Ytmadlabnhjhfiaa
open Go Go.RowKit
def rowQ (g k : Nat) : Nat := fop .mul .f32 (canon .f32 (floatOfInt .f32 (k : Int))) (canon .f32 g)
def rowX (g : Nat) (c : Int) : List Nat := (List.range c.toNat).map (rowQ g)
def rowY (c : Int) : List Nat := List.replicate c.toNat 0
def rowO (c : Int) (g r d s : Nat) : Bool := decide (1 ≤ c ∧ c ≤ 12) && frmV (rowX g c) (rowY c) r d s
theorem rowO_no {c : Int} {g r d s : Nat} (h : ¬ (1 ≤ c ∧ c ≤ 12)) : rowO c g r d s = false := by unfold rowO; rw [decide_eq_false h]; rfl
theorem rowO_yes {c : Int} {g r d s : Nat} (h : 1 ≤ c ∧ c ≤ 12) : rowO c g r d s = frmV (rowX g c) (rowY c) r d s := by unfold rowO; rw [decide_eq_true h]; rfl
theorem rowX_at {g : Nat} {c : Int} {k : Nat} (h : k < c.toNat) : (rowX g c).getD k 0 = rowQ g k := by simp [rowX, List.getD, h]
theorem rowX_length (g : Nat) (c : Int) : (rowX g c).length = c.toNat := by simp [rowX]
theorem rowY_length (c : Int) : (rowY c).length = c.toNat := by simp [rowY]
theorem row_few (o : Bool) {c : Int} (g : Nat) (h : c ≤ 12 ∨ o = false) : FewS (gL o (rowX g c)) (gL o (rowY c)) := by
  cases o
  · simp [gL, FewS]
  · rcases h with h | h
    · simp only [gL, if_true, FewS, rowX_length, rowY_length]; omega
    · cases h
theorem rowO_few (c : Int) (g r d s : Nat) : FewS (gL (rowO c g r d s) (rowX g c)) (gL (rowO c g r d s) (rowY c)) := by
  refine row_few _ g ?_
  by_cases h : 1 ≤ c ∧ c ≤ 12
  · exact .inl h.2
  · exact .inr (rowO_no h)
theorem nearF_canon (x : Nat) : nearF (canon .f32 x) = nearF x := by
  unfold nearF within geq32 leq32
  cases h : isn .f32 x
  · rw [canon_of_not h]
  · rw [order_nan_left h, order_nan_left (by rw [isn_canon, h]), order_nan_left h, order_nan_left (by rw [isn_canon, h])]
theorem fars_congr {xs zs : List Nat} : ∀ n, (∀ k, k < n → canon .f32 (xs.getD k 0) = canon .f32 (zs.getD k 0)) → fars xs n = fars zs n := by
  intro n; induction n with
  | zero => intro _; rfl
  | succ n ih => intro h; simp only [fars, ih (fun k hk => h k (by omega))]; rw [← nearF_canon (xs.getD n 0), h n (by omega), nearF_canon]
theorem nearF_fin {x : Nat} (h : nearF x = true) : fin .f32 x = true := by
  unfold nearF within at h
  rw [Bool.and_eq_true] at h
  obtain ⟨h1, h2⟩ := h
  cases hd : FloatKind.f32.decode x with
  | number s m e => unfold fin; rw [hd]
  | nan s f =>
    unfold geq32 at h1
    rw [order_nan_left (isn_iff.2 ⟨s, f, hd⟩)] at h1
    cases h1
  | infinity s =>
    have hd' : FloatKind.f32.format.read x = .infinity s := hd
    cases s
    · unfold leq32 Ieee.Format.order at h2
      rw [hd', show FloatKind.f32.format.read 1203982336 = .number false 12800000 (-7) by decide +kernel] at h2
      exact absurd h2 (by decide)
    · unfold geq32 Ieee.Format.order at h1
      rw [hd', show FloatKind.f32.format.read 3351465984 = .number true 12800000 (-7) by decide +kernel] at h1
      exact absurd h1 (by decide)
/-- what lies in memory is what is told, where the farm is valid -/
theorem frmV_model {xs ys zs zt : List Nat} {r d s : Nat} (h1 : xs.length = zs.length) (h2 : ys.length = zt.length) (hx : ∀ k, k < xs.length → canon .f32 (xs.getD k 0) = canon .f32 (zs.getD k 0)) (hy : ∀ k, k < ys.length → canon .f32 (ys.getD k 0) = canon .f32 (zt.getD k 0)) : frmV xs ys r d s = frmV zs zt r d s := by
  unfold frmV
  rw [fars_congr _ hx, fars_congr _ hy, h1, h2]
  have : sizedF xs ys ↔ sizedF zs zt := by unfold sizedF; rw [h1, h2]
  by_cases h : sizedF xs ys
  · rw [decide_eq_true h, decide_eq_true (this.1 h)]
  · rw [decide_eq_false h, decide_eq_false (fun hh => h (this.2 hh))]
theorem list_same {xs zs : List Nat} (h1 : xs.length = zs.length) (hf : fars zs zs.length = true) (hx : ∀ k, k < xs.length → canon .f32 (xs.getD k 0) = canon .f32 (zs.getD k 0)) : xs = zs := by
  apply List.ext_getElem h1
  intro k h2 h3
  have ha := fars_at hf k h3
  have hb : nearF (xs.getD k 0) = true := by rw [← nearF_canon, hx k h2, nearF_canon, ha]
  have e := hx k h2
  rw [canon_of_not (isn_of_fin (nearF_fin ha)), canon_of_not (isn_of_fin (nearF_fin hb))] at e
  simpa [List.getD, h2, h3] using e
theorem own_zeros (w : World) (n : Nat) (E : TypeId) : Own (w.alloc (.cells (madeCells #[.float .f32 0] n) E)) w.heap.size (List.replicate n 0) := by
  obtain ⟨-, -, h3, h4⟩ := FlNew.start w n E []
  refine ⟨h3, fun j hj => ?_⟩
  rw [List.length_replicate] at hj
  obtain ⟨hc, hf⟩ := h4 j hj
  refine ⟨?_, hf⟩
  rw [hc, if_neg (Nat.not_lt_zero j)]
  simp [List.getD, hj]
end Go.Proofs.Ytmadlabnhjhfiaa
