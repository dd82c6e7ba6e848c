/- Where a rotor is, and where a wind goes to: the program's side. No statement is proved here. -/
import Derived.Test.YtmadlabnhjhfiaaFrmV
import Derived.Test.YtmadlabnhjhfiaaSinW
import Derived.RegionTactic
import Derived.BigRegion
namespace Go.Proofs.Ytmadlabnhjhfiaa
open Go Go.RowKit
/-- the sines of a turn -/
def cosT (t : Nat) : Nat := canon .f32 (sinT (fop .add .f32 (canon .f32 t) (canon .f32 1048576000)))
def sinC (t : Nat) : Nat := canon .f32 (sinT (canon .f32 t))
set_option maxHeartbeats 4000000 in
theorem i_directionOf (t : Nat) (w : World) :
    Calls Try.prog 112 #[.float .f32 t] w fun e w' => ∃ c s, e = .returned (.agg #[.float .f32 c, .float .f32 s]) ∧ canon .f32 c = cosT t ∧ canon .f32 s = sinC t ∧ Below w.heap.size w w' := by
  have HB : ∀ o1, Hid (Below w.heap.size w (w.alloc o1)) := fun _ => Lib.hid ((Below.refl _ _).alloc (Nat.le_refl _) _)
  go_enter Try.func112, Try.ntmps112
  go_wp2_with fail
  refine (i_SineTurns _ _).mono ?_
  rintro e w' ⟨c, n1, rfl, hc, rfl⟩
  have HC : Hid (canon .f32 c = cosT t) := Lib.hid (by rw [hc, canon_fopV]; rfl)
  clear hc
  go_wp2_with fail
  refine (i_SineTurns _ _).mono ?_
  rintro e w' ⟨s, n2, rfl, hs, rfl⟩
  have HS : Hid (canon .f32 s = sinC t) := Lib.hid hs
  clear hs
  go_wp2
  refine bodyPost_ret (v := .agg #[.float .f32 c, .float .f32 s]) ?_ rfl ⟨c, s, rfl, HC.out, HS.out, ?_⟩
  · simp [results, Try.results112, go_sem]
  · exact ((below_draws (HB _).out _).setCell (p := ⟨w.heap.size, 0, none⟩) (by show w.heap.size ≤ w.heap.size; omega) _).setCell (p := ⟨w.heap.size, 1, none⟩) (by show w.heap.size ≤ w.heap.size; omega) _
set_option maxHeartbeats 4000000 in
theorem i_placeOf (X Y : Option Addr) (cx cy : Nat) (fx fy : List Nat) (fr fd fs : Nat) (k : Nat) (w : World) (h : Rs w X Y fx fy) (hn : FewS fx fy) (h1 : k < fx.length) (h2 : k < fy.length) :
    Calls Try.prog 124 #[.agg #[.slice X fx.length cx, .slice Y fy.length cy, .float .f32 fr, .float .f32 fd, .float .f32 fs], .int .i64 k] w fun e w' => e = .returned (.agg #[.float .f32 (fx.getD k 0), .float .f32 (fy.getD k 0)]) ∧ Below w.heap.size w w' := by
  unfold FewS at hn
  obtain ⟨b, off, rfl, hb, hc⟩ := h.1.at_ h1
  obtain ⟨b', off', rfl, hb', hc'⟩ := h.2.at_ h2
  clear h
  obtain ⟨x, hx⟩ : ∃ x, x = fx.getD k 0 := ⟨_, rfl⟩
  obtain ⟨y, hy⟩ : ∃ x, x = fy.getD k 0 := ⟨_, rfl⟩
  rw [← hx] at hc ⊢
  rw [← hy] at hc' ⊢
  clear hx hy
  have hne : b ≠ w.heap.size := by omega
  have hne' : b' ≠ w.heap.size := by omega
  go_enter Try.func124, Try.ntmps124
  go_wp2
  go_region
  all_goals
    go_wp2
    refine bodyPost_ret (v := .agg #[.float .f32 x, .float .f32 y]) ?_ rfl ⟨rfl, ?_⟩
    · simp [results, Try.results124, go_sem]
    · exact below_draws (((Below.refl _ _).alloc (Nat.le_refl _) _).alloc (by simp) _) 1
end Go.Proofs.Ytmadlabnhjhfiaa
