/- Contracts of the functions on bits of numbers. No statement is proved here. -/
import Derived.Test.YtknabmknboffgaaDoorFloat
import Derived.Test.YtknabmknboffgaaDoorChecked
import Derived.Outline
namespace Go.Proofs.YtknabmknboffgaaDoor
open Go Go.RowKit
@[go_sem] theorem ext_bits32 (b : Nat) (w : World) : (callFunc 68 #[.float .f32 b]).run Tryd.prog w = .ok (.value (.int .u32 b)) w := by
  rw [run_callFunc_extern Tryd.func68 (by kernel_rfl) (by kernel_rfl) (by kernel_rfl) (e := Extern.MathFloatBits.float32bits) (by kernel_rfl)]
  rfl
@[go_sem] theorem ext_from32 (n : Int) (w : World) : (callFunc 60 #[.int .u32 n]).run Tryd.prog w = .ok (.value (.float .f32 n.toNat)) w := by
  rw [run_callFunc_extern Tryd.func60 (by kernel_rfl) (by kernel_rfl) (by kernel_rfl) (e := Extern.MathFloatBits.float32frombits) (by kernel_rfl)]
  rfl
@[go_sem] theorem conv_wide (b : Nat) (w : World) : (convert 76 65 (.float .f32 b)).run Tryd.prog w = .ok (.float .f64 (wideV b w)) (w.drewN (wideN b)) :=
  run_wide w _ _ b (by kernel_rfl) (by kernel_rfl)
@[go_sem] theorem conv_narrow (b : Nat) (w : World) : (convert 65 76 (.float .f64 b)).run Tryd.prog w = .ok (.float .f32 (narrowV b w)) (w.drewN (narrowN b)) :=
  run_narrow w _ _ b (by kernel_rfl) (by kernel_rfl)
theorem isNaN_any (b : Nat) (w : World) :
    Calls Tryd.prog 89 #[.float .f64 b] w fun e w' => e = .returned (.bool (isn .f64 b)) ∧ w' = w := by
  go_enter Tryd.func89, Tryd.ntmps89
  go_wp2
  go_ret
  refine ⟨?_, rfl⟩
  rw [order_self]; cases isn .f64 b <;> rfl
theorem bitsOf_any (b : Nat) (w : World) (hb : canon .f32 b < 4294967296) :
    Calls Tryd.prog 73 #[.float .f32 b] w fun e w' => ∃ n, e = .returned (.int .i64 (canon .f32 b)) ∧ w' = w.drewN n := by
  cases hn : isn .f32 b
  · have hc := canon_of_not hn
    rw [hc] at hb ⊢
    clear hc
    have hw := isn_wideV b w
    rw [hn] at hw
    go_enter Tryd.func73, Tryd.ntmps73
    go_wp2_with fail
    refine (isNaN_any _ _).mono ?_
    rintro e w' ⟨rfl, rfl⟩
    go_wp2
    go_ret
    exact ⟨_, rfl, rfl⟩
  · have hc := canon_of_nan hn
    rw [hc]
    clear hc
    have hw := isn_wideV b w
    rw [hn] at hw
    go_enter Tryd.func73, Tryd.ntmps73
    go_wp2_with fail
    refine (isNaN_any _ _).mono ?_
    rintro e w' ⟨rfl, rfl⟩
    go_wp2
    go_ret
    exact ⟨_, rfl, rfl⟩
theorem l01Bits_any (b : Nat) (w : World) (hb : canon .f32 b < 4294967296) :
    Calls Tryd.prog 57 #[.float .f32 b] w fun e w' => e = .returned (.int .i64 (canon .f32 b)) ∧ w' = w := by
  cases hn : isn .f32 b
  · have hc := canon_of_not hn
    rw [hc] at hb ⊢
    have ho : FloatKind.f32.format.order b b = some .eq := by rw [order_self, hn]; rfl
    clear hc hn
    go_enter Tryd.func57, Tryd.ntmps57
    go_wp2
    go_ret
    exact ⟨rfl, rfl⟩
  · have hc := canon_of_nan hn
    rw [hc]
    have ho : FloatKind.f32.format.order b b = none := by rw [order_self, hn]; rfl
    clear hc hn
    go_enter Tryd.func57, Tryd.ntmps57
    go_wp2
    go_ret
    exact ⟨rfl, rfl⟩
/-- the answer of FromBits -/
def fromBits (n : Int) : Nat := if 0 ≤ n ∧ n ≤ 4294967295 then n.toNat else 0
theorem l01From_any (n : Int) (w : World) (h0 : 0 ≤ n) (h1 : n ≤ 4294967295) :
    Calls Tryd.prog 56 #[.int .i64 n] w fun e w' => e = .returned (.float .f32 n.toNat) ∧ w' = w := by
  go_enter Tryd.func56, Tryd.ntmps56
  go_wp2
  go_ret
  exact ⟨rfl, rfl⟩
/-- sameFloat says yes of the same numbers. -/
theorem sameFloat_yes (a b : Nat) (w : World) (h : canon .f64 a = canon .f64 b) :
    Calls Tryd.prog 49 #[.float .f64 a, .float .f64 b] w fun e w' => ∃ n, e = .returned (.bool true) ∧ w' = w.drewN n := by
  have hi := isn_of_canon h
  cases hn : isn .f64 a
  · rw [hn] at hi
    rw [canon_of_not hn, canon_of_not hi.symm] at h
    subst h
    have ho : FloatKind.f64.format.order a a = some .eq := by rw [order_self, hn]; rfl
    clear hi hn
    cases hz : FloatKind.f64.format.order a 0 == some .eq
    · go_enter Tryd.func49, Tryd.ntmps49
      go_wp2
      go_ret
      exact ⟨0, rfl, rfl⟩
    · go_enter Tryd.func49, Tryd.ntmps49
      go_wp2
      go_ret
      exact ⟨_, by simp [order_fopV_l], rfl⟩
  · rw [hn] at hi
    have ho : FloatKind.f64.format.order a a = none := by rw [order_self, hn]; rfl
    have ho' : FloatKind.f64.format.order b b = none := by rw [order_self, ← hi]; rfl
    clear hi hn
    go_enter Tryd.func49, Tryd.ntmps49
    go_wp2
    go_ret
    exact ⟨0, rfl, rfl⟩
end Go.Proofs.YtknabmknboffgaaDoor
