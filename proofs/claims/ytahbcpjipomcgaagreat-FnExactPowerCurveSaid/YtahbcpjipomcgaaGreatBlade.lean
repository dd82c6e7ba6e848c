/- Blades. No statement is proved here. -/
import Derived.Test.YtahbcpjipomcgaaGreatSol
import Derived.Test.YtahbcpjipomcgaaGreatSinW
namespace Go.Proofs.YtahbcpjipomcgaaGreat
open Go Go.RowKit
def flowB (x : Nat) : Bool := within x 981668463 1048508891
def sinC (x : Nat) : Nat := canon .f32 (sinT (canon .f32 x))
def tshC (a l d s : List Nat) (n : Nat) (c : Int) (hub tip : Nat) (i : Int) (x : Nat) : Bool := statR a l d s n c hub tip i && flowB x
def tshV (s : List Nat) (c : Int) (tip k x : Nat) : Nat := tipV s c tip k (sinC x)
def tshO (a l d s : List Nat) (n : Nat) (c : Int) (hub tip : Nat) (i : Int) (x : Nat) : Bool := tshC a l d s n c hub tip i x && fin .f32 (tshV s c tip i.toNat x)
def tshR (a l d s : List Nat) (n : Nat) (c : Int) (hub tip : Nat) (i : Int) (x : Nat) : Nat := if tshC a l d s n c hub tip i x then onlyN (tshV s c tip i.toNat x) else 0
theorem bset {W w1 : World} (h : Below W.heap.size W w1) {B : Nat} (hB : W.heap.size ≤ B) (i : Nat) (v : Value) : Below W.heap.size W (w1.setCell ⟨B, i, none⟩ v) := h.setCell (p := ⟨B, i, none⟩) hB v
set_option maxHeartbeats 2000000 in
theorem i_bladeOf (A L D S : Option Addr) (ca cl cd n cs : Nat) (c : Int) (hub tip : Nat) (a l d _s : List Nat) (x y z : Nat) (w : World) :
    Calls Tryz.prog 44 #[.agg #[.slice A a.length ca, .slice L l.length cl, .slice D d.length cd, .slice S n cs, .int .i64 c, .float .f32 hub, .float .f32 tip], .agg #[.float .f32 x, .float .f32 y, .float .f32 z]] w fun e w' => e = .returned (.agg #[.float .f32 x, .float .f32 y, .float .f32 z, .slice A a.length ca, .slice L l.length cl, .slice D d.length cd, .float .f32 (floatOfInt .f32 c), .float .f32 tip]) ∧ Below w.heap.size w w' := by
  go_enter Tryz.func44, Tryz.ntmps44
  go_wp2
  refine bodyPost_ret (v := .agg #[.float .f32 x, .float .f32 y, .float .f32 z, .slice A a.length ca, .slice L l.length cl, .slice D d.length cd, .float .f32 (floatOfInt .f32 c), .float .f32 tip]) ?_ rfl ⟨rfl, ?_⟩
  · simp [results, Tryz.results44, go_sem]
  · exact (((Below.refl _ _).alloc (Nat.le_refl _) _).alloc (by simp) _).alloc (by simp <;> omega) _
end Go.Proofs.YtahbcpjipomcgaaGreat
