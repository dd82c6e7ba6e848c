/- The spectrum of loads: sums of complex numbers, mathematics. No statement is proved here. -/
import Derived.Test.YtpmjikchlofebaaLoad
import Derived.Test.YtpmjikchlofebaaPhaW
import Derived.Test.YtpmjikchlofebaaMix
import Derived.Test.YtpmjikchlofebaaGrZ
import Derived.Laws.ComplexArith
namespace Go.Proofs.Ytpmjikchlofebaa
open Go Go.RowKit
section
variable {P : Program}
theorem run_floatArithV (op : BinOp) (hop : op = .add ∨ op = .sub ∨ op = .mul ∨ op = .quo) (k : FloatKind) (x y : Nat) (w : World) :
    (Op.floatArith op k x y).run P w = .ok (.float k (fopV op k x y w)) (w.drewN (fopN op k x y)) := by
  cases h : floatBits op k x y with
  | some r =>
    rw [run_floatArith w h]
    simp [fopV, fopN, h, World.drewN_zero]
  | none =>
    have h' := h
    unfold floatBits at h'
    rcases hop with rfl | rfl | rfl | rfl <;> simp only at h' <;>
      simp [Op.floatArith, h', fopV, fopN, h, Question.forced, World.drew_is_drewN]
theorem run_carithV (op : BinOp) (hop : op = .add ∨ op = .sub ∨ op = .mul ∨ op = .quo) (k : FloatKind) (x y : Nat) (w : World) :
    (Op.Complex.arith op k x y).run P w = .ok (fopV op k x y w) (w.drewN (fopN op k x y)) := by
  simp [Op.Complex.arith, run_floatArithV op hop]
@[go_sem] theorem run_cadd (t : TypeId) (k : FloatKind) (a b c d : Nat) (w : World) :
    (binOp .add t (.complex k a b) (.complex k c d)).run P w = .ok (.complex k (fopV .add k a c w) (fopV .add k b d (w.drewN (fopN .add k a c)))) ((w.drewN (fopN .add k a c)).drewN (fopN .add k b d)) := by
  simp [binOp, Op.complexOp, run_carithV]
end
/-- how far a load goes back around the circle -/
def spR (n m k : Nat) : Nat := (n - m * k % n) % n
/-- its turns -/
def spT (n m k : Nat) : Nat := fop .quo .f64 (floatOfInt .f64 (spR n m k : Int)) (floatOfInt .f64 (n : Int))
def spX (xs : List Nat) (m : Nat) : Nat → Nat
  | 0 => 0
  | k + 1 => fop .add .f32 (spX xs m k) (fop .mul .f32 (phA (spT xs.length m k)) (canon .f32 (xs.getD k 0)))
def spY (xs : List Nat) (m : Nat) : Nat → Nat
  | 0 => 0
  | k + 1 => fop .add .f32 (spY xs m k) (fop .mul .f32 (phB (spT xs.length m k)) (canon .f32 (xs.getD k 0)))
theorem canon_spX (xs : List Nat) (m : Nat) : ∀ k, canon .f32 (spX xs m k) = spX xs m k
  | 0 => canon_zero
  | _ + 1 => canon_fop ..
theorem canon_spY (xs : List Nat) (m : Nat) : ∀ k, canon .f32 (spY xs m k) = spY xs m k
  | 0 => canon_zero
  | _ + 1 => canon_fop ..
/-- a part of the spectrum -/
def spP (xs : List Nat) (m : Nat) : Nat × Nat := (spX xs m xs.length, spY xs m xs.length)
def spF (xs : List Nat) (m : Nat) : Bool := fin .f32 (spX xs m xs.length) && fin .f32 (spY xs m xs.length)
def spO (xs : List Nat) : Bool := ldV xs && alls (spF xs) xs.length
def spL (xs : List Nat) : List (Nat × Nat) := if spO xs then (List.range xs.length).map (spP xs) else []
theorem spO_v {xs : List Nat} (h : ldV xs = false) : spO xs = false := by unfold spO; rw [h]; rfl
theorem spO_a {xs : List Nat} {k : Nat} (h : alls (spF xs) k = false) (hk : k ≤ xs.length) : spO xs = false := by unfold spO; rw [alls_no h hk, Bool.and_false]
theorem spO_yes {xs : List Nat} (h : ldV xs = true) (h2 : alls (spF xs) xs.length = true) : spO xs = true := by unfold spO; rw [h, h2]; rfl
theorem spL_no {xs : List Nat} (h : spO xs = false) : spL xs = [] := by unfold spL; rw [h]; rfl
theorem spL_yes {xs : List Nat} (h : spO xs = true) : spL xs = (List.range xs.length).map (spP xs) := by unfold spL; rw [h]; rfl
theorem spL_len {xs : List Nat} (h : spO xs = true) : (spL xs).length = xs.length := by rw [spL_yes h]; simp
theorem spL_few (xs : List Nat) (h : xs.length ≤ 1048576) : (spL xs).length ≤ 1048576 := by
  cases ho : spO xs
  · rw [spL_no ho]; simp
  · rw [spL_len ho]; exact h
theorem range_snoc {α : Type} (f : Nat → α) (k : Nat) : (List.range k).map f ++ [f k] = (List.range (k + 1)).map f := by
  rw [List.range_succ, List.map_append]; rfl
/-- a number that is told by its canon -/
theorem exact_of_canon {b c : Nat} (h : canon .f32 b = c) (hf : fin .f32 c = true) : b = c := by
  have hn : isn .f32 b = false := by rw [← isn_canon, h]; exact isn_of_fin hf
  rw [← h, canon_of_not hn]
theorem exact_part {xs : List Nat} {m a b : Nat} (h1 : canon .f32 a = spX xs m xs.length) (h2 : canon .f32 b = spY xs m xs.length) (hf : spF xs m = true) : (a, b) = spP xs m := by
  unfold spF at hf
  rw [Bool.and_eq_true] at hf
  unfold spP
  rw [exact_of_canon h1 hf.1, exact_of_canon h2 hf.2]
theorem spF_of {xs : List Nat} {m a b : Nat} (h1 : canon .f32 a = spX xs m xs.length) (h2 : canon .f32 b = spY xs m xs.length) : (fin .f32 a && fin .f32 b) = spF xs m := by
  unfold spF
  rw [← h1, ← h2, fin_canon, fin_canon]
theorem getD_snocZ (ys : List (Nat × Nat)) (x : Nat × Nat) (j : Nat) (hj : j < ys.length + 1) : (ys ++ [x]).getD j (0, 0) = if j = ys.length then x else ys.getD j (0, 0) := by
  rw [List.getD_eq_getElem?_getD, List.getD_eq_getElem?_getD, List.getElem?_append]
  split
  · rename_i h
    split
    · rename_i h2; exact absurd h (by simp; omega)
    · rfl
  · rename_i h
    simp at h
    have : j = ys.length := by omega
    subst this
    simp
theorem list_exactZ {xs : List Nat} {ys : List (Nat × Nat)} {n : Nat} (hl : ys.length = n) (h : ∀ k, k < n → canon .f32 (ys.getD k (0, 0)).1 = spX xs k xs.length ∧ canon .f32 (ys.getD k (0, 0)).2 = spY xs k xs.length) (hf : ∀ k, k < n → spF xs k = true) : ys = (List.range n).map (spP xs) := by
  apply List.ext_getElem
  · simp [hl]
  · intro j h1 h2
    have hj : j < n := by omega
    obtain ⟨e1, e2⟩ := h j hj
    have eq : ys.getD j (0, 0) = ys[j] := by simp [List.getD, h1]
    rw [eq] at e1 e2
    have := exact_part e1 e2 (hf j hj)
    simp only [List.getElem_map, List.getElem_range]
    exact this
/-- where it is, as the program tells it -/
theorem spR_lt {n m k : Nat} (h : 1 ≤ n) : spR n m k < n := Nat.mod_lt _ (by omega)
theorem spR_i {n m k : Nat} (h1 : 1 ≤ n) : (-((m : Int) * (k : Int))) % (n : Int) = (spR n m k : Int) := by
  unfold spR
  have hq := Nat.mod_lt (m * k) (by omega : n > 0)
  have e : ((m : Int) * (k : Int)) = ((m * k : Nat) : Int) := by simp
  have hd := Nat.div_add_mod (m * k) n
  rw [e]
  obtain ⟨q, r, hr, hqr, hrd⟩ : ∃ q r, m * k % n = r ∧ m * k = n * q + r ∧ r < n := ⟨m * k / n, m * k % n, rfl, hd.symm, hq⟩
  rw [hr, hqr]
  have e2 : (-((n * q + r : Nat) : Int)) = ((n - r : Nat) : Int) + (n : Int) * (-(q : Int) - 1) := by
    rw [Int.mul_sub, Int.mul_one, Int.mul_neg]
    push_cast
    omega
  rw [e2, Int.add_mul_emod_self_left]
  simp
theorem quo_num64 {k : FloatKind} {x y : Nat} (hx : fin k x = true) (hy : fin k y = true) (hz : k.format.order y 0 ≠ some .eq) : isn k (fop .quo k x y) = false := by
  cases h1 : k.decode x with
  | nan s f => unfold fin at hx; rw [h1] at hx; cases hx
  | infinity s => unfold fin at hx; rw [h1] at hx; cases hx
  | number s m i =>
    cases h2 : k.decode y with
    | nan s f => unfold fin at hy; rw [h2] at hy; cases hy
    | infinity s => unfold fin at hy; rw [h2] at hy; cases hy
    | number t n j =>
      have hn : n ≠ 0 := by
        rintro rfl
        refine hz ?_
        have d0 : ∃ e, k.decode 0 = .number false 0 e := by
          cases k
          · exact ⟨-149, by decide +kernel⟩
          · exact ⟨-1074, by decide +kernel⟩
        obtain ⟨e, d0⟩ := d0
        rw [order_numbers h2 d0]
        have : ∀ s u, Ieee.signed s 0 u = 0 := by intro s u; unfold Ieee.signed; cases s <;> simp
        rw [this, this]; rfl
      have d1 : k.format.read x = .number s m i := h1
      have d2 : k.format.read y = .number t n j := h2
      have e : ∃ s' m' e', floatBits .quo k x y = some (k.encode (.number s' m' e')) := by
        unfold floatBits Ieee.Format.div
        rw [d1, d2]
        simp only [Ieee.Datum.quotient, if_neg hn]
        exact ⟨_, _, _, rfl⟩
      obtain ⟨s', m', e', e⟩ := e
      unfold fop
      rw [e, Option.getD_some, isn_canon]
      exact isn_encode rfl

theorem int_num (i : Int) (h : i.natAbs ≤ 2 ^ 24) : fin .f64 (floatOfInt .f64 i) = true := by
  have hb : Le2 i.natAbs 0 24 := ⟨h, fun h' => by omega⟩
  exact bd_fin (bd_write fmt64 hb (by decide) (by decide))
theorem cnt_nzs : ∀ n : Fin 65, n.val = 0 ∨ FloatKind.f64.format.order (floatOfInt .f64 (n.val : Int)) 0 ≠ some .eq := by decide +kernel
theorem cnt_nz {n : Nat} (h1 : 1 ≤ n) (h2 : n ≤ 64) : FloatKind.f64.format.order (floatOfInt .f64 (n : Int)) 0 ≠ some .eq := by
  rcases cnt_nzs ⟨n, by omega⟩ with h | h
  · simp at h; omega
  · exact h
theorem spT_sure {n m k : Nat} (h1 : 1 ≤ n) (h2 : n ≤ 64) : (∀ w, fopV .quo .f64 (floatOfInt .f64 (spR n m k : Int)) (floatOfInt .f64 (n : Int)) w = spT n m k) ∧ fopN .quo .f64 (floatOfInt .f64 (spR n m k : Int)) (floatOfInt .f64 (n : Int)) = 0 := by
  have hr := spR_lt (m := m) (k := k) h1
  refine fop_sure (quo_num64 (int_num _ (by omega)) (int_num _ (by omega)) ?_)
  exact cnt_nz h1 h2
theorem spT_lt (n m k : Nat) : spT n m k < 18446744073709551616 := fop_lt ..
end Go.Proofs.Ytpmjikchlofebaa
