/- Where loads turn: both sides. No statement is proved here. -/
import Derived.Test.YtpchkedgjikpfaaLoad
import Derived.Test.YtpchkedgjikpfaaApp
import Derived.Laws.OwnMore
import Derived.RegionTactic
import Derived.BigRegion
namespace Go.Proofs.Ytpchkedgjikpfaa
open Go Go.RowKit
def eqF (a b : Nat) : Bool := FloatKind.f32.format.order a b == some .eq
/-- a load goes on from two others -/
def goesB (p l x : Nat) : Bool := (lss32 p l && lss32 l x) || (gtr32 p l && gtr32 l x)
theorem order_swap (x y : Nat) : FloatKind.f32.format.order x y = (FloatKind.f32.format.order y x).map Ordering.swap := by
  unfold Ieee.Format.order
  generalize FloatKind.f32.format.read x = a
  generalize FloatKind.f32.format.read y = b
  cases a with
  | nan s f => cases b <;> rfl
  | infinity s => cases b with
    | nan t f => rfl
    | infinity t => cases s <;> cases t <;> rfl
    | number t n j => cases s <;> rfl
  | number s m i => cases b with
    | nan t f => rfl
    | infinity t => cases t <;> rfl
    | number t n j =>
      simp only [Ieee.Datum.order, Option.map_some, Option.some.injEq]
      rw [Int.min_comm j i]
      exact (Int.compare_swap _ _).symm
theorem lss_gtr (x y : Nat) : lss32 x y = gtr32 y x := by
  unfold lss32 gtr32
  rw [order_swap x y]
  cases h : FloatKind.f32.format.order y x with
  | none => rfl
  | some o => cases o <;> rfl
theorem goesB_swap (p l x : Nat) : goesB p l x = ((gtr32 l p && lss32 l x) || (lss32 l p && gtr32 l x)) := by
  unfold goesB
  rw [lss_gtr p l, show gtr32 p l = lss32 l p from (lss_gtr l p).symm]
/-- one load more -/
def enStep (ys : List Nat) (x : Nat) : List Nat :=
  if decide (1 ≤ ys.length) && eqF x (ys.getD (ys.length - 1) 0) then ys
  else if decide (2 ≤ ys.length) && goesB (ys.getD (ys.length - 2) 0) (ys.getD (ys.length - 1) 0) x then ys.set (ys.length - 1) x
  else ys ++ [x]
def enK (xs : List Nat) : Nat → List Nat
  | 0 => []
  | k + 1 => enStep (enK xs k) (xs.getD k 0)
theorem enStep_len (ys : List Nat) (x : Nat) : (enStep ys x).length ≤ ys.length + 1 := by
  unfold enStep
  split
  · omega
  · split <;> simp
theorem enK_len (xs : List Nat) : ∀ k, (enK xs k).length ≤ k := by
  intro k; induction k with
  | zero => exact Nat.le_refl _
  | succ k ih => have := enStep_len (enK xs k) (xs.getD k 0); simp only [enK]; omega
theorem enStep_same {ys : List Nat} {x : Nat} (h : 1 ≤ ys.length) (h2 : eqF x (ys.getD (ys.length - 1) 0) = true) : enStep ys x = ys := by unfold enStep; rw [decide_eq_true h, h2]; rfl
theorem enStep_set {ys : List Nat} {x : Nat} (h : 2 ≤ ys.length) (h2 : eqF x (ys.getD (ys.length - 1) 0) = false) (h3 : goesB (ys.getD (ys.length - 2) 0) (ys.getD (ys.length - 1) 0) x = true) : enStep ys x = ys.set (ys.length - 1) x := by
  unfold enStep; rw [h2, Bool.and_false, if_neg (by decide), decide_eq_true h, h3]; rfl
theorem enStep_app {ys : List Nat} {x : Nat} (h : ys.length = 0 ∨ eqF x (ys.getD (ys.length - 1) 0) = false) (h2 : ys.length ≤ 1 ∨ goesB (ys.getD (ys.length - 2) 0) (ys.getD (ys.length - 1) 0) x = false) : enStep ys x = ys ++ [x] := by
  unfold enStep
  rw [if_neg, if_neg]
  · rcases h2 with h2 | h2
    · rw [decide_eq_false (by omega)]; simp
    · rw [h2]; simp
  · rcases h with h | h
    · rw [decide_eq_false (by omega)]; simp
    · rw [h]; simp
def endO (xs : List Nat) : Bool := ldV xs
def endL (xs : List Nat) : List Nat := if ldV xs then enK xs xs.length else []
theorem endL_no {xs : List Nat} (h : ldV xs = false) : endL xs = [] := by unfold endL; rw [h]; rfl
theorem endL_yes {xs : List Nat} (h : ldV xs = true) : endL xs = enK xs xs.length := by unfold endL; rw [h]; rfl
theorem endL_few (xs : List Nat) (h : xs.length ≤ 1048576) : (endL xs).length ≤ 1048576 := by
  unfold endL
  split
  · have := enK_len xs xs.length; omega
  · simp
theorem Gr.parts {w : World} {B0 : Nat} {v : Value} {xs : List Nat} (h : Gr w B0 v xs) : (v = .slice none 0 0 ∧ xs = []) ∨ ∃ g cap, v = .slice (some ⟨g, 0, none⟩) xs.length cap ∧ xs.length ≤ cap ∧ B0 ≤ g ∧ (∀ j, j < xs.length → w.cell? ⟨g, j, none⟩ = some (.float .f32 (xs.getD j 0))) ∧ ∀ j, w.frozen? ⟨g, j, none⟩ = false := by
  have h0 := h
  rcases h.2 with ⟨rfl, hz⟩ | ⟨g, cap, cur, rfl, hbg, hgg, hnc, hcm, hcs, htake⟩
  · exact .inl ⟨rfl, List.eq_nil_of_length_eq_zero hz⟩
  · refine .inr ⟨g, cap, rfl, hnc, hbg, fun j hj => ?_, fun j => World.ownsRow.frozenAt h0 j⟩
    rw [World.ownsRow.cellAt h0 j (by omega)]
    simp [List.getD, hj]
theorem Gr.set {w : World} {B0 g cap j x : Nat} {xs : List Nat} (h : Gr w B0 (.slice (some ⟨g, 0, none⟩) xs.length cap) xs) : Gr (w.setCell ⟨g, j, none⟩ (.float .f32 x)) B0 (.slice (some ⟨g, 0, none⟩) xs.length cap) (xs.set j x) := by
  have := (World.ownsRow.stored h j (.float .f32 x)).1
  unfold Gr
  rw [List.length_set, List.map_set]
  exact this
@[go_sem] theorem arr2_at (A : Option Addr) (c : Nat) (w : World) : (Instr.arrayAt 94 (.slice A 2 c)).run Try.prog w = .ok (.pointer A) w := by
  have h : Try.prog.underlying 94 = some (.array 2 22) := by kernel_rfl
  simp [Instr.arrayAt, run_underlying h]
set_option maxHeartbeats 2000000 in
theorem i_goesOn (p l x : Nat) (w : World) :
    Calls Try.prog 101 #[.agg #[.float .f32 p, .float .f32 l], .float .f32 x] w fun e w' => e = .returned (.bool (goesB p l x)) ∧ Below w.heap.size w w' := by
  have HB : ∀ o1, Hid (Below w.heap.size w (w.alloc o1)) := fun _ => Lib.hid ((Below.refl _ _).alloc (Nat.le_refl _) _)
  unfold goesB
  cases h1 : lss32 p l
  · cases h3 : gtr32 p l
    · unfold lss32 at h1
      unfold gtr32 at h3
      go_enter Try.func101, Try.ntmps101
      go_wp2
      go_ret
      exact ⟨rfl, (HB _).out⟩
    · cases h4 : gtr32 l x
      all_goals
        unfold lss32 at h1
        unfold gtr32 at h3 h4
        go_enter Try.func101, Try.ntmps101
        go_wp2
        go_ret
        exact ⟨rfl, (HB _).out⟩
  · cases h2 : lss32 l x
    · cases h3 : gtr32 p l
      · unfold lss32 at h1 h2
        unfold gtr32 at h3
        go_enter Try.func101, Try.ntmps101
        go_wp2
        go_ret
        exact ⟨rfl, (HB _).out⟩
      · cases h4 : gtr32 l x
        all_goals
          unfold lss32 at h1 h2
          unfold gtr32 at h3 h4
          go_enter Try.func101, Try.ntmps101
          go_wp2
          go_ret
          exact ⟨rfl, (HB _).out⟩
    · unfold lss32 at h1 h2
      go_enter Try.func101, Try.ntmps101
      go_wp2
      go_ret
      exact ⟨rfl, (HB _).out⟩
end Go.Proofs.Ytpchkedgjikpfaa
