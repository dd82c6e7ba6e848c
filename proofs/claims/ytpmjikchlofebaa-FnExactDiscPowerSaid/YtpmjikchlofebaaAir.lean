/- Air: what is valid, how fast and how dense it is at a height. No statement is proved here. -/
import Derived.Test.YtpmjikchlofebaaArea
import Derived.Test.YtpmjikchlofebaaPos
import Derived.Test.YtpmjikchlofebaaInv
namespace Go.Proofs.Ytpmjikchlofebaa
open Go Go.RowKit
theorem BlkL.two {w : World} {B : Nat} {v0 v1 : Value} (h : BlkL w B [v0, v1]) : w.cell? ⟨B, 0, none⟩ = some v0 ∧ w.cell? ⟨B, 1, none⟩ = some v1 := ⟨(h.2 0 _ rfl).1, (h.2 1 _ rfl).1⟩
theorem BlkL.four {w : World} {B : Nat} {v0 v1 v2 v3 : Value} (h : BlkL w B [v0, v1, v2, v3]) : w.cell? ⟨B, 0, none⟩ = some v0 ∧ w.cell? ⟨B, 1, none⟩ = some v1 ∧ w.cell? ⟨B, 2, none⟩ = some v2 ∧ w.cell? ⟨B, 3, none⟩ = some v3 :=
  ⟨(h.2 0 _ rfl).1, (h.2 1 _ rfl).1, (h.2 2 _ rfl).1, (h.2 3 _ rfl).1⟩
theorem canonF {op : BinOp} {k : FloatKind} {x y X Y : Nat} {w : World} (hx : canon k x = X) (hy : canon k y = Y) : canon k (fopV op k x y w) = fop op k X Y := by rw [canon_fopV, hx, hy]
/-- valid air -/
def airV (d h s k : Nat) : Bool := posi d && (posi h && (amount s && within k 0 1065353216))
/-- how fast it is at a height -/
def spdV (h s k z : Nat) : Nat := fop .mul .f32 (canon .f32 s) (fop .add .f32 (canon .f32 1065353216) (fop .mul .f32 (canon .f32 k) (fop .quo .f32 (fop .sub .f32 (canon .f32 z) (canon .f32 h)) (fop .add .f32 (canon .f32 z) (canon .f32 h)))))
def denV (d z : Nat) : Nat := fop .quo .f32 (canon .f32 d) (fop .add .f32 (canon .f32 1065353216) (fop .quo .f32 (canon .f32 z) (canon .f32 1174720512)))
def powV (d s : Nat) : Nat := fop .mul .f32 (fop .mul .f32 (fop .mul .f32 (fop .mul .f32 (canon .f32 1056964608) (canon .f32 d)) (canon .f32 s)) (canon .f32 s)) (canon .f32 s)
theorem i_onlyFiniteC (x V : Nat) (w : World) (h : canon .f32 x = V) :
    Calls Try.prog 126 #[.float .f32 x] w fun e w' => ∃ r n, e = .returned (.tuple #[.float .f32 r, .bool (fin .f32 V)]) ∧ canon .f32 r = onlyN V ∧ w' = w.drewN n :=
  (i_onlyFinite x w).mono fun _ _ ⟨n, he, hw⟩ => ⟨onlyN x, n, by rw [he, ← h, fin_canon], by rw [canon_onlyN, h], hw⟩
theorem s_l02NumberC (x V : Nat) (w : World) (h : canon .f32 x = V) :
    Calls Try.prog 62 #[.float .f32 x] w fun e w' => ∃ r n, e = .returned (.tuple #[.float .f32 r, .bool (fin .f32 V)]) ∧ canon .f32 r = onlyN V ∧ w' = w.drewN n :=
  (s_l02Number x w).mono fun _ _ ⟨n, he, hw⟩ => ⟨onlyN x, n, by rw [he, ← h, fin_canon], by rw [canon_onlyN, h], hw⟩
theorem s_l04Share (x : Nat) (w : World) :
    Calls Try.prog 118 #[.float .f32 x] w fun e w' => e = .returned (.bool (within x 0 1065353216)) ∧ w' = w := by
  cases h : geq32 x 0
  all_goals
    unfold geq32 at h
    go_enter Try.func118, Try.ntmps118
    go_wp2
    go_ret
    exact ⟨by simp [within, geq32, leq32, h], rfl⟩
theorem l_toAir (d h s k : Nat) (w : World) :
    Calls Try.prog 11 #[.agg #[.float .f32 d, .float .f32 h, .float .f32 s, .float .f32 k]] w fun e w' => e = .returned (.agg #[.float .f32 d, .float .f32 h, .float .f32 s, .float .f32 k]) ∧ Below w.heap.size w w' := by
  go_enter Try.func11, Try.ntmps11
  go_wp2
  refine bodyPost_ret (v := .agg #[.float .f32 d, .float .f32 h, .float .f32 s, .float .f32 k]) ?_ rfl ⟨rfl, ?_⟩
  · simp [results, Try.results11, go_sem]
  · exact (((Below.refl _ _).alloc (Nat.le_refl _) _).alloc (by simp) _).alloc (by simp <;> omega) _
set_option maxHeartbeats 4000000 in
theorem i_ValidAir (d h s k : Nat) (w : World) :
    Calls Try.prog 63 #[.agg #[.float .f32 d, .float .f32 h, .float .f32 s, .float .f32 k]] w fun e w' => e = .returned (.bool (airV d h s k)) ∧ Below w.heap.size w w' := by
  have HB : ∀ o1, Hid (Below w.heap.size w (w.alloc o1)) := fun _ => Lib.hid ((Below.refl _ _).alloc (Nat.le_refl _) _)
  go_enter Try.func63, Try.ntmps63
  go_wp2_with fail
  refine (i_isPositive _ _).mono ?_
  rintro e w' ⟨n1, rfl, rfl⟩
  cases p1 : posi d
  · go_wp2
    go_ret
    exact ⟨by unfold airV; rw [p1]; rfl, by repeat (first | exact (HB _).out | refine below_draws ?_ _)⟩
  · go_wp2_with fail
    refine (i_isPositive _ _).mono ?_
    rintro e w' ⟨n2, rfl, rfl⟩
    cases p2 : posi h
    · go_wp2
      go_ret
      exact ⟨by unfold airV; rw [p1, p2]; rfl, by repeat (first | exact (HB _).out | refine below_draws ?_ _)⟩
    · go_wp2_with fail
      refine (i_notAmount _ _).mono ?_
      rintro e w' ⟨n3, rfl, rfl⟩
      cases p3 : amount s
      · go_wp2
        go_ret
        exact ⟨by unfold airV; rw [p1, p2, p3]; rfl, by repeat (first | exact (HB _).out | refine below_draws ?_ _)⟩
      · go_wp2_with fail
        refine (i_isWithin _ _ _ _).mono ?_
        rintro e w' ⟨rfl, rfl⟩
        go_wp2
        go_ret
        exact ⟨by unfold airV; rw [p1, p2, p3]; rfl, by repeat (first | exact (HB _).out | refine below_draws ?_ _)⟩
set_option maxHeartbeats 4000000 in
theorem s_l04Is (d h s k B : Nat) (w : World) (hk : BlkL w B [.float .f32 d, .float .f32 h, .float .f32 s, .float .f32 k]) :
    Calls Try.prog 55 #[.pointer (some ⟨B, 0, none⟩)] w fun e w' => ∃ n, e = .returned (.bool (airV d h s k)) ∧ w' = w.drewN n := by
  obtain ⟨k0, k1, k2, k3⟩ := hk.four
  clear hk
  go_enter Try.func55, Try.ntmps55
  go_wp2_with fail
  refine (s_l02Above _ _).mono ?_
  rintro e w' ⟨n1, rfl, rfl⟩
  cases p1 : posi d
  · go_wp2
    go_ret
    exact ⟨_, by unfold airV; rw [p1]; rfl, by first | rfl | (simp only [World.drewN_drewN]; rfl)⟩
  · go_wp2_with fail
    refine (s_l02Above _ _).mono ?_
    rintro e w' ⟨n2, rfl, rfl⟩
    cases p2 : posi h
    · go_wp2
      go_ret
      exact ⟨_, by unfold airV; rw [p1, p2]; rfl, by first | rfl | (simp only [World.drewN_drewN]; rfl)⟩
    · go_wp2_with fail
      refine (s_l02Least _ _).mono ?_
      rintro e w' ⟨n3, rfl, rfl⟩
      cases p3 : amount s
      · go_wp2
        go_ret
        exact ⟨_, by unfold airV; rw [p1, p2, p3]; rfl, by first | rfl | (simp only [World.drewN_drewN]; rfl)⟩
      · go_wp2_with fail
        refine (s_l04Share _ _).mono ?_
        rintro e w' ⟨rfl, rfl⟩
        go_wp2
        go_ret
        exact ⟨_, by unfold airV; rw [p1, p2, p3]; rfl, by first | rfl | (simp only [World.drewN_drewN]; rfl)⟩
end Go.Proofs.Ytpmjikchlofebaa
