/- Contracts of square roots. No statement is proved here. -/
import Derived.Test.YtpmjikchlofebaaBits
import Derived.Test.YtpmjikchlofebaaSin
namespace Go.Proofs.Ytpmjikchlofebaa
open Go Go.RowKit
/-- the square root of a 32-bit number -/
def rootF (c : Nat) : Nat := narrow (fsqrt (canon .f64 (wide c)))

/-- the root of a number that float32 has is one that it has, too -/
theorem root_over (c : Nat) : over (fsqrt (canon .f64 (wide c))) = false := by
  cases hd : FloatKind.f32.decode c with
  | nan s f =>
    have hn : isn .f32 c = true := isn_iff.2 ⟨s, f, hd⟩
    have h1 : isn .f64 (canon .f64 (wide c)) = true := by rw [isn_canon, isn_wide, hn]
    unfold fsqrt
    rw [sqrt_nan h1]; decide +kernel
  | infinity s =>
    have hn : isn .f32 c = false := by unfold isn; rw [hd]; rfl
    have hw : wide c = FloatKind.f64.encode (.infinity s) := by unfold wide; rw [if_neg (by rw [hn]; decide), hd]
    rw [hw]
    cases s <;> decide +kernel
  | number s m e =>
    have hn : isn .f32 c = false := by unfold isn; rw [hd]; rfl
    obtain ⟨h1, h2, h3⟩ := f32_number hd
    have hl : Le2 m e (2 * 64) := ⟨Nat.le_trans h1 (Nat.le_trans (show 16777215 ≤ 2 ^ 24 by decide) (Nat.pow_le_pow_right (by decide) (by omega))), fun hh => by omega⟩
    have hw : wide c = FloatKind.f64.encode (.number s m e) := by unfold wide; rw [if_neg (by rw [hn]; decide), hd]
    have hb := bd_write fmt64 (s := s) hl (by decide) (by decide)
    rw [← hw] at hb
    rw [bd_canon hb]
    obtain ⟨t, n, i, hd', hl'⟩ := hb
    cases t with
    | false =>
      obtain ⟨-, hr⟩ := bdp_sqrt (j := 64) ⟨n, i, hd', hl'⟩ (by decide) (by decide)
      exact (narrow_bd (bdp_bd hr) (by decide) (by decide)).1
    | true =>
      have d1 : FloatKind.f64.format.read (wide c) = .number true n i := hd'
      by_cases h0 : n = 0
      · subst h0
        have hs : FloatKind.f64.format.sqrt (wide c) = some (FloatKind.f64.encode (.number true 0 i)) := by
          unfold Ieee.Format.sqrt; rw [d1]; rfl
        have hz : FloatKind.f64.encode (.number true 0 i) = 9223372036854775808 := by
          show FloatKind.f64.format.nearest true 0 i = _
          unfold Ieee.Format.nearest; rw [if_pos rfl]; decide +kernel
        unfold fsqrt
        rw [hs, hz]; decide +kernel
      · have hs : FloatKind.f64.format.sqrt (wide c) = none := by
          unfold Ieee.Format.sqrt
          rw [d1]
          simp only [Ieee.Datum.root, if_neg h0, if_true]
          rfl
        unfold fsqrt
        rw [hs]; decide +kernel
@[go_sem] theorem ext_sqrt (b : Nat) (w : World) : (callFunc 154 #[.float .f64 b]).run Try.prog w = .ok (.value (.float .f64 (fsqrtV b w))) (w.drewN (fsqrtN b)) := by
  rw [run_callFunc_extern Try.func154 (by kernel_rfl) (by kernel_rfl) (by kernel_rfl) (e := Extern.MathSqrt.sqrt) (by kernel_rfl), run_sqrt]
  rfl
theorem m_Sqrt (b : Nat) (w : World) :
    Calls Try.prog 120 #[.float .f64 b] w fun e w' => e = .returned (.float .f64 (fsqrtV b w)) ∧ w' = w.drewN (fsqrtN b) := by
  go_enter Try.func120, Try.ntmps120
  go_wp2
  go_ret
  exact ⟨rfl, rfl⟩
theorem i_NarrowNumber (b : Nat) (w : World) :
    Calls Try.prog 124 #[.float .f64 b] w fun e w' => e = .returned (.float .f32 (narrowV b w)) ∧ w' = w.drewN (narrowN b) := by
  go_enter Try.func124, Try.ntmps124
  go_wp2
  go_ret
  exact ⟨rfl, rfl⟩
theorem s_l01Narrow (b : Nat) (w : World) :
    Calls Try.prog 119 #[.float .f64 b] w fun e w' => e = .returned (.float .f32 (narrowV b w)) ∧ w' = w.drewN (narrowN b) := by
  go_enter Try.func119, Try.ntmps119
  go_wp2
  go_ret
  exact ⟨rfl, rfl⟩
theorem canon_root (b : Nat) (w w' w'' : World) : canon .f32 (narrowV (fsqrtV (wideV b w) w') w'') = canon .f32 (rootF (canon .f32 b)) := by
  have e : canon .f64 (fsqrtV (wideV b w) w') = fsqrt (canon .f64 (wide (canon .f32 b))) := by
    rw [canon_fsqrtV, canon_wideV]
  rw [canon_narrowV _ _ (by rw [e]; exact root_over _), e]; rfl
theorem i_RootNumber (b : Nat) (w : World) :
    Calls Try.prog 69 #[.float .f32 b] w fun e w' => ∃ r n, e = .returned (.float .f32 r) ∧ canon .f32 r = canon .f32 (rootF (canon .f32 b)) ∧ w' = w.drewN n := by
  go_enter Try.func69, Try.ntmps69
  go_wp2_with fail
  refine (m_Sqrt _ _).mono ?_
  rintro e w' ⟨rfl, rfl⟩
  go_wp2_with fail
  refine (i_NarrowNumber _ _).mono ?_
  rintro e w' ⟨rfl, rfl⟩
  go_wp2
  go_ret
  exact ⟨_, _, rfl, canon_root .., rfl⟩
theorem s_l01Sqrt (b : Nat) (w : World) :
    Calls Try.prog 59 #[.float .f32 b] w fun e w' => ∃ r n, e = .returned (.float .f32 r) ∧ canon .f32 r = canon .f32 (rootF (canon .f32 b)) ∧ w' = w.drewN n := by
  go_enter Try.func59, Try.ntmps59
  go_wp2_with fail
  refine (m_Sqrt _ _).mono ?_
  rintro e w' ⟨rfl, rfl⟩
  go_wp2_with fail
  refine (s_l01Narrow _ _).mono ?_
  rintro e w' ⟨rfl, rfl⟩
  go_wp2
  go_ret
  exact ⟨_, _, rfl, canon_root .., rfl⟩
end Go.Proofs.Ytpmjikchlofebaa
