/- How much of a ring is blade, and what needs no flow. No statement is proved here. -/
import Derived.Test.YtahbcpjipomcgaaGreatValS
import Derived.Test.YtahbcpjipomcgaaGreatArea
import Derived.Test.YtahbcpjipomcgaaGreatAir
namespace Go.Proofs.YtahbcpjipomcgaaGreat
open Go Go.RowKit
/-- a valid rotor, and the index of one of its stations -/
def statR (a l d s : List Nat) (n : Nat) (c : Int) (hub tip : Nat) (i : Int) : Bool := validR a l d s n c hub tip && (decide (0 ≤ i) && decide (i < n))
theorem statR_v {a l d s : List Nat} {n : Nat} {c : Int} {hub tip : Nat} {i : Int} (h : validR a l d s n c hub tip = false) : statR a l d s n c hub tip i = false := by unfold statR; rw [h]; rfl
theorem statR_i {a l d s : List Nat} {n : Nat} {c : Int} {hub tip : Nat} {i : Int} (h : ¬ (0 ≤ i ∧ i < n)) : statR a l d s n c hub tip i = false := by
  unfold statR
  by_cases h0 : 0 ≤ i
  · rw [decide_eq_false (p := i < n) (fun h1 => h ⟨h0, h1⟩)]; simp
  · rw [decide_eq_false (p := 0 ≤ i) h0]; simp
theorem statR_yes {a l d s : List Nat} {n : Nat} {c : Int} {hub tip : Nat} {k : Nat} (h : validR a l d s n c hub tip = true) (hk : k < n) : statR a l d s n c hub tip k = true := by
  unfold statR; rw [h, decide_eq_true (by omega), decide_eq_true (by omega)]; rfl
theorem statR_at {a l d s : List Nat} {n : Nat} {c : Int} {hub tip : Nat} {i : Int} (h : statR a l d s n c hub tip i = true) : ∃ k : Nat, i = k ∧ k < n ∧ validR a l d s n c hub tip = true := by
  unfold statR at h
  rw [Bool.and_eq_true, Bool.and_eq_true] at h
  have h1 := of_decide_eq_true h.2.1
  have h2 := of_decide_eq_true h.2.2
  exact ⟨i.toNat, by omega, by omega, h.1⟩
def cntF (c : Int) : Nat := canon .f32 (floatOfInt .f32 c)
def solV (s : List Nat) (c : Int) (k : Nat) : Nat := fop .quo .f32 (fop .mul .f32 (cntF c) (canon .f32 (chd s k))) (fop .mul .f32 (canon .f32 1086918619) (canon .f32 (rad s k)))
def tipQ (s : List Nat) (c : Int) (tip k : Nat) : Nat := fop .quo .f32 (fop .mul .f32 (cntF c) (fop .sub .f32 (canon .f32 tip) (canon .f32 (rad s k)))) (fop .mul .f32 (canon .f32 1073741824) (canon .f32 (rad s k)))
/-- what the tip leaves, for the sine of a flow -/
def tipV (s : List Nat) (c : Int) (tip k sine : Nat) : Nat := fop .quo .f32 (tipQ s c tip k) (fop .add .f32 (tipQ s c tip k) sine)
def thrV (tip wind dens : Nat) : Nat :=
  fop .mul .f32 (fop .mul .f32 (fop .mul .f32 (fop .mul .f32 (fop .mul .f32 (fop .mul .f32 (fop .mul .f32 (canon .f32 1056964608) (canon .f32 dens)) (canon .f32 1078530011)) (canon .f32 tip)) (canon .f32 tip)) (canon .f32 wind)) (canon .f32 wind)) (canon .f32 wind)
def ratV (tip wind speed : Nat) : Nat := fop .quo .f32 (fop .mul .f32 (canon .f32 speed) (canon .f32 tip)) (canon .f32 wind)
def solO (a l d s : List Nat) (n : Nat) (c : Int) (hub tip : Nat) (i : Int) : Bool := statR a l d s n c hub tip i && fin .f32 (solV s c i.toNat)
def solR (a l d s : List Nat) (n : Nat) (c : Int) (hub tip : Nat) (i : Int) : Nat := if statR a l d s n c hub tip i then onlyN (solV s c i.toNat) else 0
def wowC (a l d s : List Nat) (n : Nat) (c : Int) (hub tip x y : Nat) : Bool := validR a l d s n c hub tip && (posi x && posi y)
def thrO (a l d s : List Nat) (n : Nat) (c : Int) (hub tip x y : Nat) : Bool := wowC a l d s n c hub tip x y && fin .f32 (thrV tip x y)
def thrR (a l d s : List Nat) (n : Nat) (c : Int) (hub tip x y : Nat) : Nat := if wowC a l d s n c hub tip x y then onlyN (thrV tip x y) else 0
def ratO (a l d s : List Nat) (n : Nat) (c : Int) (hub tip x y : Nat) : Bool := wowC a l d s n c hub tip x y && fin .f32 (ratV tip x y)
def ratR (a l d s : List Nat) (n : Nat) (c : Int) (hub tip x y : Nat) : Nat := if wowC a l d s n c hub tip x y then onlyN (ratV tip x y) else 0
/-- the value of a blade: a station, its profile, the rotor's count and tip -/
def BlkB (w : World) (B : Nat) (x y z : Nat) (A L D : Option Addr) (a l d : List Nat) (ca cl cd : Nat) (q tip : Nat) : Prop :=
  BlkL w B [.float .f32 x, .float .f32 y, .float .f32 z, .slice A a.length ca, .slice L l.length cl, .slice D d.length cd, .float .f32 q, .float .f32 tip]
theorem BlkB.limbs {w : World} {B x y z : Nat} {A L D : Option Addr} {a l d : List Nat} {ca cl cd q tip : Nat} (h : BlkB w B x y z A L D a l d ca cl cd q tip) :
    w.cell? ⟨B, 0, none⟩ = some (.float .f32 x) ∧ w.cell? ⟨B, 1, none⟩ = some (.float .f32 y) ∧ w.cell? ⟨B, 2, none⟩ = some (.float .f32 z) ∧
    w.cell? ⟨B, 3, none⟩ = some (.slice A a.length ca) ∧ w.cell? ⟨B, 4, none⟩ = some (.slice L l.length cl) ∧ w.cell? ⟨B, 5, none⟩ = some (.slice D d.length cd) ∧
    w.cell? ⟨B, 6, none⟩ = some (.float .f32 q) ∧ w.cell? ⟨B, 7, none⟩ = some (.float .f32 tip) :=
  ⟨(h.2 0 _ rfl).1, (h.2 1 _ rfl).1, (h.2 2 _ rfl).1, (h.2 3 _ rfl).1, (h.2 4 _ rfl).1, (h.2 5 _ rfl).1, (h.2 6 _ rfl).1, (h.2 7 _ rfl).1⟩
theorem s_l03Number (x : Nat) (w : World) :
    Calls Tryz.prog 51 #[.float .f32 x] w fun e w' => ∃ n, e = .returned (.tuple #[.float .f32 (onlyN x), .bool (fin .f32 x)]) ∧ w' = w.drewN n := by
  cases h : fin .f32 x
  all_goals
    have HF := Lib.hid h
    go_enter Tryz.func51, Tryz.ntmps51
    go_wp2_with fail
    refine (s_l01Finite _ _).mono ?_
    rintro e w' ⟨n, rfl, rfl⟩
    rw [show fin .f32 x = _ from HF.out]
    go_wp2
    go_ret2
    exact ⟨_, by unfold onlyN; rw [h]; rfl, rfl⟩
theorem s_l03NumberC (x V : Nat) (w : World) (h : canon .f32 x = V) :
    Calls Tryz.prog 51 #[.float .f32 x] w fun e w' => ∃ r n, e = .returned (.tuple #[.float .f32 r, .bool (fin .f32 V)]) ∧ canon .f32 r = onlyN V ∧ w' = w.drewN n :=
  (s_l03Number x w).mono fun _ _ ⟨n, he, hw⟩ => ⟨onlyN x, n, by rw [he, ← h, fin_canon], by rw [canon_onlyN, h], hw⟩
end Go.Proofs.YtahbcpjipomcgaaGreat
