/- Rotors with other stations: the words. No statement is proved here. -/
import Derived.Test.YtiiiigldpbomkaaRgo
import Derived.Test.YtiiiigldpbomkaaMkS
namespace Go.Proofs.Ytiiiigldpbomkaa
open Go Go.RowKit
def gC (o : Bool) (c : Int) : Int := if o then c else 0
def gN (o : Bool) (x : Nat) : Nat := if o then x else 0
/-- whether the rotor with the stations S is given -/
def stO (a l d s : List Nat) (n : Nat) (c : Int) (hub tip : Nat) (ok : Bool) (S : List Nat) (hub' tip' : Nat) : Bool := validR a l d s n c hub tip && (ok && validR a l d S n c hub' tip')
section
variable {a l d s S : List Nat} {n hub tip hub' tip' : Nat} {c : Int} {ok : Bool}
theorem stO_v (h : validR a l d s n c hub tip = false) : stO a l d s n c hub tip ok S hub' tip' = false := by unfold stO; rw [h]; rfl
theorem stO_k (h : ok = false) : stO a l d s n c hub tip ok S hub' tip' = false := by unfold stO; rw [h, Bool.false_and, Bool.and_false]
theorem stO_y (h : validR a l d s n c hub tip = true) (hk : ok = true) : stO a l d s n c hub tip ok S hub' tip' = validR a l d S n c hub' tip' := by unfold stO; rw [h, hk]; rfl
theorem validR_parts (h : validR a l d s n c hub tip = true) : validP a l d = true ∧ sizedR c n := by
  by_cases hz : sizedR c n
  · cases hp : validP a l d
    · rw [validR_p hp] at h; cases h
    · exact ⟨rfl, hz⟩
  · rw [validR_z hz] at h; cases h
theorem st_few (hs : S.length = n * 3) : FewR (gLp (stO a l d s n c hub tip ok S hub' tip') a) (gLp (stO a l d s n c hub tip ok S hub' tip') l) (gLp (stO a l d s n c hub tip ok S hub' tip') d) (gLp (stO a l d s n c hub tip ok S hub' tip') S) (gN (stO a l d s n c hub tip ok S hub' tip') n) := by
  cases h : stO a l d s n c hub tip ok S hub' tip'
  · simp [gLp, gN, FewR]
  · have h2 : validR a l d S n c hub' tip' = true := by
      unfold stO at h
      rw [Bool.and_eq_true, Bool.and_eq_true] at h
      exact h.2.2
    obtain ⟨h3, h4, h5, h6, h7⟩ := validR_parts h2
    obtain ⟨s1, s2, s3, s4⟩ := sized_of h3
    simp only [gLp, gN, if_true, FewR]
    exact ⟨hs, by omega⟩
end
/-- one station is another one -/
def setSt (s : List Nat) (k x y z : Nat) : List Nat := ((s.set (k * 3) x).set (k * 3 + 1) y).set (k * 3 + 2) z
theorem setSt_length (s : List Nat) (k x y z : Nat) : (setSt s k x y z).length = s.length := by simp [setSt]
def hasT (n : Nat) (i : Int) : Bool := decide (0 ≤ i ∧ i < (n : Int))
theorem Own.putT {w : World} {B k x : Nat} {xs : List Nat} (h : Own w B xs) (hk : k < xs.length) : Own (w.setCell ⟨B, k, none⟩ (.float .f32 x)) B (xs.set k x) := by
  refine ⟨by simpa [World.setCell] using h.1, fun j hj => ?_⟩
  rw [List.length_set] at hj
  obtain ⟨h1, h2⟩ := h.2 j hj
  refine ⟨?_, by rw [World.frozen?_setCell]; exact h2⟩
  by_cases e : j = k
  · subst e
    rw [World.cell?_setCell_same (h := h1)]
    simp [List.getD, hj]
  · rw [World.cell?_setCell_other (h := by intro hh; simp only [Addr.mk.injEq] at hh; omega), h1]
    simp [List.getD, List.getElem?_set_ne (Ne.symm e)]
theorem Own.putSt {w : World} {B k n x y z : Nat} {s : List Nat} (h : Own w B s) (hs : s.length = n * 3) (hk : k < n) : Own (((w.setCell ⟨B, k * 3, none⟩ (.float .f32 x)).setCell ⟨B, k * 3 + 1, none⟩ (.float .f32 y)).setCell ⟨B, k * 3 + 2, none⟩ (.float .f32 z)) B (setSt s k x y z) :=
  ((h.putT (by omega)).putT (by simp; omega)).putT (by simp; omega)
set_option maxHeartbeats 4000000 in
theorem s_l03StationT (A L D S : Option Addr) (ca cl cd n cs : Nat) (c : Int) (hub tip : Nat) (a l d s : List Nat) (i : Int) (B : Nat) (w : World) (h : Rt w A L D S a l d s) (hn : FewR a l d s n) (hk : Blk7 w B A L D S a l d ca cl cd n cs c hub tip) :
    Calls Try.prog 81 #[.pointer (some ⟨B, 0, none⟩), .int .i64 i] w fun e w' => e = .returned (.bool (validR a l d s n c hub tip && hasT n i)) ∧ Below w.heap.size w w' := by
  have hbd := hn.2
  have HK := Lib.hid hk
  go_enter Try.func81, Try.ntmps81
  go_wp2_with fail
  refine (s_l03Is A L D S ca cl cd n cs c hub tip a l d s B _ h hn hk).mono ?_
  rintro e w1 ⟨rfl, b1⟩
  have B1 := Lib.hid b1
  clear hk h hn
  cases v : validR a l d s n c hub tip
  · go_wp2
    go_ret
    exact ⟨by rw [v]; rfl, B1.out⟩
  · have V := Lib.hid v
    have k3 := ((HK.out.below B1.out).2 3 _ rfl).1
    obtain ⟨-, -, -, hz, -⟩ := validR_parts v
    have e1 : IntKind.i64.wrap ((n : Int) - 1) = (n : Int) - 1 := IntWalk.i64_in _ (by omega)
    clear v b1
    go_wp2_with fail
    refine (s_l00In _ _ _ _).mono ?_
    rintro e w2 ⟨rfl, rfl⟩
    go_wp2
    go_ret
    exact ⟨by unfold hasT; rw [V.out, Bool.true_and, Bool.decide_and]; exact congrArg (fun z => Ending.returned (.bool (decide (0 ≤ i) && z))) (decide_eq_decide.2 (by omega)), B1.out⟩
end Go.Proofs.Ytiiiigldpbomkaa
