/- The greatest of numbers with the sign of +0. No statement is proved here. -/
import Derived.Test.YteligfbbofgonaaGst
namespace Go.Proofs.Yteligfbbofgonaa
open Go Go.RowKit
/-- a number with the sign of +0, in a word -/
def pzN (b : Nat) : Prop := b < words .f32 ∧ ∃ m i, FloatKind.f32.format.read b = .number false m i
theorem pzN_zero : pzN 0 := ⟨by decide, 0, -149, by decide +kernel⟩
theorem zero_word {b : Nat} {i : Int} (hb : b < words .f32) (h : FloatKind.f32.format.read b = .number false 0 i) : b = 0 := by
  have hw : words .f32 = 2 * FloatKind.f32.format.signWeight := by decide +kernel
  have hbin : 0 < FloatKind.f32.format.binade := Nat.two_pow_pos _
  rw [hw] at hb
  unfold Ieee.Format.read at h
  simp only [] at h
  generalize hS : FloatKind.f32.format.signWeight = S at *
  have h0 : b % S = 0 ∧ (b / S % 2 == 1) = false := by
    split at h
    · injection h with h1 h2 h3; exact ⟨h2, h1⟩
    · split at h
      · injection h with h1 h2 h3; omega
      · split at h <;> cases h
  obtain ⟨h1, h2⟩ := h0
  have hS0 : 0 < S := by rw [← hS]; exact Nat.two_pow_pos _
  have h3 : b / S < 2 := Nat.div_lt_of_lt_mul (by omega)
  have h4 : b / S % 2 ≠ 1 := by simpa using h2
  have h5 : b / S = 0 := (show ∀ q : Nat, q < 2 → q % 2 ≠ 1 → q = 0 by intro q h6 h7; omega) _ h3 h4
  have := Nat.div_add_mod b S
  rw [h5, h1] at this
  omega
def mxF (zs : List Nat) : Nat → Nat
  | 0 => 0
  | k + 1 => if gtr32 (zs.getD k 0) (mxF zs k) then zs.getD k 0 else mxF zs k
theorem mxF_pz {zs : List Nat} {n : Nat} (h : ∀ j, j < n → pzN (zs.getD j 0)) : ∀ k, k ≤ n → pzN (mxF zs k) := by
  intro k; induction k with
  | zero => intro _; exact pzN_zero
  | succ k ih =>
    intro hk
    simp only [mxF]
    split
    · exact h k (by omega)
    · exact ih (by omega)
theorem mxF_one {zs : List Nat} (h : pzN (zs.getD 0 0)) : mxF zs 1 = zs.getD 0 0 := by
  show (if gtr32 (zs.getD 0 0) 0 = true then zs.getD 0 0 else 0) = _
  by_cases hg : gtr32 (zs.getD 0 0) 0 = true
  · rw [if_pos hg]
  · rw [if_neg hg]
    obtain ⟨hw, m, i, hd⟩ := h
    have h0 : m = 0 := by
      cases Nat.eq_zero_or_pos m with
      | inl e => exact e
      | inr hp =>
        exfalso; apply hg
        unfold gtr32 Ieee.Format.order
        rw [hd, show FloatKind.f32.format.read 0 = .number false 0 (-149) by decide +kernel]
        simp only [Ieee.Datum.order]
        have hp2 : 0 < m <<< (i - min i (-149)).toNat := by
          rw [Nat.shiftLeft_eq]
          exact Nat.mul_pos hp (Nat.two_pow_pos _)
        have hlt : Ieee.signed false 0 (-149 - min i (-149)).toNat < Ieee.signed false m (i - min i (-149)).toNat := by
          unfold Ieee.signed
          simp only [Nat.zero_shiftLeft, Bool.false_eq_true, if_false]
          omega
        have hn : ¬ Ieee.signed false m (i - min i (-149)).toNat < Ieee.signed false 0 (-149 - min i (-149)).toNat := by omega
        have hne : ¬ Ieee.signed false m (i - min i (-149)).toNat = Ieee.signed false 0 (-149 - min i (-149)).toNat := by omega
        simp only [compare, compareOfLessAndEq, if_neg hn, if_neg hne]
        rfl
    subst h0
    exact (zero_word hw hd).symm
/-- how two such numbers stand, from either side -/
theorem pz_order {x y : Nat} (hx : pzN x) (hy : pzN y) : (FloatKind.f32.format.order x y = some .lt ∧ gtr32 y x = true) ∨ (FloatKind.f32.format.order x y = some .eq ∧ gtr32 y x = false) ∨ (FloatKind.f32.format.order x y = some .gt ∧ gtr32 y x = false) := by
  obtain ⟨-, m, i, dx⟩ := hx
  obtain ⟨-, n, j, dy⟩ := hy
  unfold gtr32 Ieee.Format.order
  rw [dx, dy]
  simp only [Ieee.Datum.order]
  rw [Int.min_comm j i]
  generalize Ieee.signed false m (i - min i j).toNat = a
  generalize Ieee.signed false n (j - min i j).toNat = b
  rcases Int.lt_trichotomy a b with h | h | h
  · refine .inl ⟨?_, ?_⟩
    · rw [show compare a b = .lt by simp only [compare, compareOfLessAndEq, if_pos h]]
    · rw [show compare b a = .gt by simp only [compare, compareOfLessAndEq, if_neg (show ¬ b < a by omega), if_neg (show ¬ b = a by omega)]]; rfl
  · subst h
    refine .inr (.inl ⟨?_, ?_⟩)
    · rw [show compare a a = .eq by simp only [compare, compareOfLessAndEq, if_neg (show ¬ a < a by omega), if_true]]
    · rw [show compare a a = .eq by simp only [compare, compareOfLessAndEq, if_neg (show ¬ a < a by omega), if_true]]; rfl
  · refine .inr (.inr ⟨?_, ?_⟩)
    · rw [show compare a b = .gt by simp only [compare, compareOfLessAndEq, if_neg (show ¬ a < b by omega), if_neg (show ¬ a = b by omega)]]
    · rw [show compare b a = .lt by simp only [compare, compareOfLessAndEq, if_pos h]]; rfl
theorem pz_neg {x : Nat} (hx : pzN x) : (FloatKind.f32.decode x).neg = false := by
  obtain ⟨-, m, i, dx⟩ := hx
  show (FloatKind.f32.format.read x).neg = false
  rw [dx]; rfl
section
variable {P : Program}
theorem run_max_lt {x y : Nat} (h : FloatKind.f32.format.order x y = some .lt) (ts : Array TypeId) (t : TypeId) (w : World) : (Builtin.max_ ts t #[.float .f32 x, .float .f32 y]).run P w = .ok (.float .f32 y) w := by
  simp [Builtin.max_, Builtin.max2, h]
theorem run_max_gt {x y : Nat} (h : FloatKind.f32.format.order x y = some .gt) (ts : Array TypeId) (t : TypeId) (w : World) : (Builtin.max_ ts t #[.float .f32 x, .float .f32 y]).run P w = .ok (.float .f32 x) w := by
  simp [Builtin.max_, Builtin.max2, h]
theorem run_max_eq {x y : Nat} (h : FloatKind.f32.format.order x y = some .eq) (hn : (FloatKind.f32.decode x).neg = false) (ts : Array TypeId) (t : TypeId) (w : World) : (Builtin.max_ ts t #[.float .f32 x, .float .f32 y]).run P w = .ok (.float .f32 x) w := by
  simp [Builtin.max_, Builtin.max2, h, hn]
end
set_option maxHeartbeats 4000000 in
theorem lib_Max (A : Option Addr) (cap : Nat) (zs : List Nat) (w : World) (h : Fl w A zs) (hn : zs.length ≤ 1048576) (h1 : 1 ≤ zs.length) (hz : ∀ j, j < zs.length → pzN (zs.getD j 0)) :
    Calls Try.prog 82 #[.slice A zs.length cap] w fun e w' => e = .returned (.float .f32 (mxF zs zs.length)) ∧ w' = w := by
  have HZ := Lib.hid hz; clear hz
  have H1 : Hid (mxF zs 1 = zs.getD 0 0) := Lib.hid (mxF_one (HZ.out 0 h1))
  have HP : Hid (∀ k, k ≤ zs.length → pzN (mxF zs k)) := Lib.hid (mxF_pz HZ.out)
  have hat0 := h.at_ (show 0 < zs.length by omega)
  obtain ⟨b, off, rfl, hb, hc⟩ := hat0
  have HF := Lib.hid h
  obtain ⟨x, hx⟩ : ∃ x, x = zs.getD 0 0 := ⟨_, rfl⟩
  rw [← hx] at hc
  rw [← hx] at H1
  have hlt0 : 0 < zs.length := by omega
  clear hx hb h
  have hc0 : w.cell? ⟨b, off, none⟩ = some (.float .f32 x) := hc
  go_enter Try.func82, Try.ntmps82
  go_wp2
  go_loopw [3, 4] (fun m i wr => ∃ k : Nat, 1 ≤ k ∧ k ≤ zs.length ∧ i = .int .i64 k ∧ m = .float .f32 (mxF zs k) ∧ wr = w) (fun _ i _ => zs.length - (intOf i).toNat)
  case atStart => exact ⟨1, by omega, by omega, rfl, by rw [H1.out], rfl⟩
  case round =>
    obtain ⟨k, hk1, hk, rfl, rfl, rfl⟩ := hrel
    clear hc hc0
    by_cases hlt : k < zs.length
    · obtain ⟨b', off', hbb, hb', hc'⟩ := HF.out.at_ hlt
      cases hbb
      have HS : Hid (mxF zs (k + 1) = if gtr32 (zs.getD k 0) (mxF zs k) then zs.getD k 0 else mxF zs k) := rfl
      have hpo := pz_order (HP.out k hk) (HZ.out k hlt)
      have hng := pz_neg (HP.out k hk)
      generalize zs.getD k 0 = y at hc' HS hpo
      generalize mxF zs k = m at HS hpo hng
      clear hb'
      rcases hpo with ⟨ho, hg⟩ | ⟨ho, hg⟩ | ⟨ho, hg⟩
      · have HN : Hid (mxF zs (k + 1) = y) := Lib.hid (by rw [HS.out, hg]; rfl)
        have hmx := run_max_lt (P := Try.prog) ho #[22, 22] 22
        clear hg ho hng
        go_wp2
        go_roundw
        case rel => exact ⟨k + 1, by omega, by omega, by go_num, by rw [HN.out], by trivial⟩
        case measure => simp [intOf]; omega
      · have HN : Hid (mxF zs (k + 1) = m) := Lib.hid (by rw [HS.out, hg]; rfl)
        have hmx := run_max_eq (P := Try.prog) ho hng #[22, 22] 22
        clear hg ho hng
        go_wp2
        go_roundw
        case rel => exact ⟨k + 1, by omega, by omega, by go_num, by rw [HN.out], by trivial⟩
        case measure => simp [intOf]; omega
      · have HN : Hid (mxF zs (k + 1) = m) := Lib.hid (by rw [HS.out, hg]; rfl)
        have hmx := run_max_gt (P := Try.prog) ho #[22, 22] 22
        clear hg ho hng
        go_wp2
        go_roundw
        case rel => exact ⟨k + 1, by omega, by omega, by go_num, by rw [HN.out], by trivial⟩
        case measure => simp [intOf]; omega
    · have hkk : k = zs.length := by omega
      subst hkk
      go_wp2
      go_ret
      exact ⟨rfl, rfl⟩
end Go.Proofs.Yteligfbbofgonaa
