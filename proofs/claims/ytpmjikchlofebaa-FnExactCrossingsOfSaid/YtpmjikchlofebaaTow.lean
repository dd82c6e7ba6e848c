/- Towers: what is valid, how fast they swing, their steps and their energy: both sides. No statement is proved here. -/
import Derived.Test.YtpmjikchlofebaaBoth
import Derived.Test.YtpmjikchlofebaaRoot
import Derived.Test.YtpmjikchlofebaaInv3
namespace Go.Proofs.Ytpmjikchlofebaa
open Go Go.RowKit
theorem BlkL.three {w : World} {B : Nat} {v0 v1 v2 : Value} (h : BlkL w B [v0, v1, v2]) : w.cell? ⟨B, 0, none⟩ = some v0 ∧ w.cell? ⟨B, 1, none⟩ = some v1 ∧ w.cell? ⟨B, 2, none⟩ = some v2 :=
  ⟨(h.2 0 _ rfl).1, (h.2 1 _ rfl).1, (h.2 2 _ rfl).1⟩
/-- a valid tower -/
def towV (m d s : Nat) : Bool := posi m && (posi s && amount d)
/-- how fast it swings -/
def twrV (m s : Nat) : Nat := fop .quo .f32 (canon .f32 (rootF (fop .quo .f32 (canon .f32 s) (canon .f32 m)))) (canon .f32 1086918619)
def twrO (m d s : Nat) : Bool := towV m d s && fin .f32 (twrV m s)
def twrR (m d s : Nat) : Nat := if towV m d s then onlyN (twrV m s) else 0
/-- its speed behind a tick, and its place -/
def stpS (m d s p v f t : Nat) : Nat := fop .add .f32 (canon .f32 v) (fop .mul .f32 (canon .f32 t) (fop .quo .f32 (fop .sub .f32 (fop .sub .f32 (canon .f32 f) (fop .mul .f32 (canon .f32 d) (canon .f32 v))) (fop .mul .f32 (canon .f32 s) (canon .f32 p))) (canon .f32 m)))
def stpP (m d s p v f t : Nat) : Nat := fop .add .f32 (canon .f32 p) (fop .mul .f32 (canon .f32 t) (stpS m d s p v f t))
/-- whether it can move -/
def movV (m d s p v t : Nat) : Bool := towV m d s && (fin .f32 p && (fin .f32 v && posi t))
def stpC (m d s p v f t : Nat) : Bool := movV m d s p v t && fin .f32 f
def stpO (m d s p v f t : Nat) : Bool := stpC m d s p v f t && (fin .f32 (stpP m d s p v f t) && fin .f32 (stpS m d s p v f t))
def stpR1 (m d s p v f t : Nat) : Nat := if stpC m d s p v f t then both1 (stpP m d s p v f t) (stpS m d s p v f t) else 0
def stpR2 (m d s p v f t : Nat) : Nat := if stpC m d s p v f t then both2 (stpP m d s p v f t) (stpS m d s p v f t) else 0
/-- its energy -/
def enrV (m s p v : Nat) : Nat := fop .add .f32 (fop .mul .f32 (fop .mul .f32 (fop .mul .f32 (canon .f32 1056964608) (canon .f32 m)) (canon .f32 v)) (canon .f32 v)) (fop .mul .f32 (fop .mul .f32 (fop .mul .f32 (canon .f32 1056964608) (canon .f32 s)) (canon .f32 p)) (canon .f32 p))
def enrC (m d s p v : Nat) : Bool := towV m d s && (fin .f32 p && fin .f32 v)
def enrO (m d s p v : Nat) : Bool := enrC m d s p v && fin .f32 (enrV m s p v)
def enrR (m d s p v : Nat) : Nat := if enrC m d s p v then onlyN (enrV m s p v) else 0
theorem l_toTower (m d s : Nat) (w : World) :
    Calls Try.prog 49 #[.agg #[.float .f32 m, .float .f32 d, .float .f32 s]] w fun e w' => e = .returned (.agg #[.float .f32 m, .float .f32 d, .float .f32 s]) ∧ Below w.heap.size w w' := by
  go_enter Try.func49, Try.ntmps49
  go_wp2
  refine bodyPost_ret (v := .agg #[.float .f32 m, .float .f32 d, .float .f32 s]) ?_ rfl ⟨rfl, ?_⟩
  · simp [results, Try.results49, go_sem]
  · exact (((Below.refl _ _).alloc (Nat.le_refl _) _).alloc (by simp) _).alloc (by simp <;> omega) _
set_option maxHeartbeats 4000000 in
theorem i_ValidTower (m d s : Nat) (w : World) :
    Calls Try.prog 151 #[.agg #[.float .f32 m, .float .f32 d, .float .f32 s]] w fun e w' => e = .returned (.bool (towV m d s)) ∧ Below w.heap.size w w' := by
  have HB : ∀ o1, Hid (Below w.heap.size w (w.alloc o1)) := fun _ => Lib.hid ((Below.refl _ _).alloc (Nat.le_refl _) _)
  go_enter Try.func151, Try.ntmps151
  go_wp2_with fail
  refine (i_isPositive _ _).mono ?_
  rintro e w' ⟨n1, rfl, rfl⟩
  cases p1 : posi m
  · go_wp2
    go_ret
    exact ⟨by unfold towV; rw [p1]; rfl, by repeat (first | exact (HB _).out | refine below_draws ?_ _)⟩
  · go_wp2_with fail
    refine (i_isPositive _ _).mono ?_
    rintro e w' ⟨n2, rfl, rfl⟩
    cases p2 : posi s
    · go_wp2
      go_ret
      exact ⟨by unfold towV; rw [p1, p2]; rfl, by repeat (first | exact (HB _).out | refine below_draws ?_ _)⟩
    · go_wp2_with fail
      refine (i_notAmount _ _).mono ?_
      rintro e w' ⟨n3, rfl, rfl⟩
      go_wp2
      go_ret
      exact ⟨by unfold towV; rw [p1, p2]; simp, by repeat (first | exact (HB _).out | refine below_draws ?_ _)⟩
set_option maxHeartbeats 4000000 in
theorem s_l07Tower (m d s B : Nat) (w : World) (hk : BlkL w B [.float .f32 m, .float .f32 d, .float .f32 s]) :
    Calls Try.prog 110 #[.pointer (some ⟨B, 0, none⟩)] w fun e w' => ∃ n, e = .returned (.bool (towV m d s)) ∧ w' = w.drewN n := by
  obtain ⟨k0, k1, k2⟩ := hk.three
  clear hk
  go_enter Try.func110, Try.ntmps110
  go_wp2_with fail
  refine (s_l02Above _ _).mono ?_
  rintro e w' ⟨n1, rfl, rfl⟩
  cases p1 : posi m
  · go_wp2
    go_ret
    exact ⟨_, by unfold towV; rw [p1]; rfl, by first | rfl | (simp only [World.drewN_drewN]; rfl)⟩
  · go_wp2_with fail
    refine (s_l02Above _ _).mono ?_
    rintro e w' ⟨n2, rfl, rfl⟩
    cases p2 : posi s
    · go_wp2
      go_ret
      exact ⟨_, by unfold towV; rw [p1, p2]; rfl, by first | rfl | (simp only [World.drewN_drewN]; rfl)⟩
    · go_wp2_with fail
      refine (s_l02Least _ _).mono ?_
      rintro e w' ⟨n3, rfl, rfl⟩
      go_wp2
      go_ret
      exact ⟨_, by unfold towV; rw [p1, p2]; rfl, by first | rfl | (simp only [World.drewN_drewN]; rfl)⟩
end Go.Proofs.Ytpmjikchlofebaa
