/- Complex numbers out of a text: mathematics; the program. No statement is proved here. -/
import Derived.Test.YtknabmknboffgaaDoorNums
import Derived.Test.YtknabmknboffgaaDoorSplT
import Derived.Test.YtknabmknboffgaaDoorGrZ
import Derived.Laws.ComplexArith
namespace Go.Proofs.YtknabmknboffgaaDoor
open Go Go.RowKit
def loS (p : ByteArray) : ByteArray := p.extract 0 8
def hiS (p : ByteArray) : ByteArray := p.extract 8 p.size
/-- whether a text is a complex number's -/
def cxB (p : ByteArray) : Bool := decide (p.size = 16) && (rdB (loS p).data.toList && rdB (hiS p).data.toList)
def cxA (p : ByteArray) : Nat := if cxB p then hxv (loS p).data.toList else 0
def cxI (p : ByteArray) : Nat := if cxB p then hxv (hiS p).data.toList else 0
theorem loS_size {p : ByteArray} (h : p.size = 16) : (loS p).size = 8 := by unfold loS; simp [ByteArray.size_extract, h]
theorem hiS_size {p : ByteArray} (h : p.size = 16) : (hiS p).size = 8 := by unfold hiS; simp [ByteArray.size_extract, h]
/-- whether all of the first parts tell numbers -/
def zliA (s : ByteArray) : Nat → Bool
  | 0 => true
  | k + 1 => zliA s k && cxB (partS s k)
def zliO (s : ByteArray) : Bool := decide (s = noneS) || (decide ((nmP s).length ≤ 256) && zliA s (nmP s).length)
def zliV (s : ByteArray) (n : Nat) : List (Nat × Nat) := (List.range n).map fun k => (cxA (partS s k), cxI (partS s k))
def zliL (s : ByteArray) : List (Nat × Nat) := if s = noneS then [] else if zliO s then zliV s (nmP s).length else []
theorem zliV_next (s : ByteArray) (k : Nat) : zliV s k ++ [(cxA (partS s k), cxI (partS s k))] = zliV s (k + 1) := by unfold zliV; rw [List.range_succ, List.map_append]; rfl
theorem zli_none : zliO noneS = true ∧ zliL noneS = [] := ⟨by unfold zliO; rw [decide_eq_true rfl]; rfl, by unfold zliL; rw [if_pos rfl]⟩
theorem zli_many {s : ByteArray} (h : s ≠ noneS) (h2 : 256 < (nmP s).length) : zliO s = false ∧ zliL s = [] := by
  have e : zliO s = false := by unfold zliO; rw [decide_eq_false h, decide_eq_false (by omega)]; rfl
  exact ⟨e, by unfold zliL; rw [if_neg h, e]; rfl⟩
theorem zliA_no {s : ByteArray} {k : Nat} (hb : cxB (partS s k) = false) : ∀ n, k < n → zliA s n = false := by
  intro n
  induction n with
  | zero => intro h; omega
  | succ n ih =>
    intro h
    by_cases e : k = n
    · subst e; simp only [zliA, hb, Bool.and_false]
    · simp only [zliA, ih (by omega), Bool.false_and]
theorem zli_bad {s : ByteArray} (h : s ≠ noneS) {k : Nat} (hk : k < (nmP s).length) (hb : cxB (partS s k) = false) : zliO s = false ∧ zliL s = [] := by
  have e : zliO s = false := by unfold zliO; rw [decide_eq_false h, zliA_no hb _ hk]; simp
  exact ⟨e, by unfold zliL; rw [if_neg h, e]; rfl⟩
theorem zli_good {s : ByteArray} (h : s ≠ noneS) (h1 : (nmP s).length ≤ 256) (h2 : zliA s (nmP s).length = true) : zliO s = true ∧ zliL s = zliV s (nmP s).length := by
  have e : zliO s = true := by unfold zliO; rw [decide_eq_true h1, h2]; simp
  exact ⟨e, by unfold zliL; rw [if_neg h, e]; rfl⟩
theorem zli_few (s : ByteArray) : (zliL s).length ≤ 1048576 := by
  unfold zliL
  split
  · simp
  · split
    · rename_i h
      unfold zliO at h
      rename_i h0
      rw [decide_eq_false h0, Bool.false_or, Bool.and_eq_true, decide_eq_true_eq] at h
      simp [zliV]; omega
    · simp
set_option maxHeartbeats 4000000 in
theorem i_readParts (p : ByteArray) (w : World) (hs : p.size ≤ 1048576) (hE : EV w) (hT : T64 w) :
    Calls Tryd.prog 33 #[.string p] w fun e w' => e = .returned (.tuple #[.complex .f32 (cxA p) (cxI p), .bool (cxB p)]) ∧ Below w.heap.size w w' := by
  by_cases h16 : p.size = 16
  · have h16i : (p.size : Int) = 16 := by omega
    have HA := Lib.hid (i_readNumber (loS p) w (by rw [loS_size h16]; omega) hE hT)
    have HB : Hid (∀ W, Below w.heap.size w W → Calls Tryd.prog 48 #[.string (hiS p)] W fun e w' => e = .returned (.tuple #[.float .f32 (rdV (hiS p).data.toList), .bool (rdB (hiS p).data.toList)]) ∧ Below W.heap.size W w') := Lib.hid (fun W hb => i_readNumber (hiS p) W (by rw [hiS_size h16]; omega) (hE.below hb) (hT.below hb))
    have HR : Hid (cxA p = (if rdB (loS p).data.toList && rdB (hiS p).data.toList then hxv (loS p).data.toList else 0) ∧ cxI p = (if rdB (loS p).data.toList && rdB (hiS p).data.toList then hxv (hiS p).data.toList else 0) ∧ cxB p = (rdB (loS p).data.toList && rdB (hiS p).data.toList)) := Lib.hid (by unfold cxA cxI cxB; rw [decide_eq_true h16, Bool.true_and]; exact ⟨rfl, rfl, rfl⟩)
    have HV : Hid ((rdB (loS p).data.toList = true → rdV (loS p).data.toList = hxv (loS p).data.toList) ∧ (rdB (hiS p).data.toList = true → rdV (hiS p).data.toList = hxv (hiS p).data.toList)) := Lib.hid ⟨fun h => by unfold rdV; rw [h]; rfl, fun h => by unfold rdV; rw [h]; rfl⟩
    have hlo : p.extract 0 8 = loS p := rfl
    have hhi : p.extract 8 p.size = hiS p := rfl
    have h8 : (8 : Int) ≤ (p.size : Int) := by omega
    rw [HR.out.1, HR.out.2.1, HR.out.2.2]
    clear h16 hE hT hs HR
    generalize rdB (loS p).data.toList = bl at *
    generalize rdB (hiS p).data.toList = bh at *
    generalize rdV (loS p).data.toList = vl at *
    generalize rdV (hiS p).data.toList = vh at *
    generalize hxv (loS p).data.toList = xl at *
    generalize hxv (hiS p).data.toList = xh at *
    go_enter Tryd.func33, Tryd.ntmps33
    go_wp2_with fail
    refine HA.out.mono ?_
    rintro e w1 ⟨rfl, b1⟩
    have B1 := Lib.hid b1
    clear b1
    go_wp2_with fail
    refine (HB.out _ B1.out).mono ?_
    rintro e w2 ⟨rfl, b2⟩
    have B2 := Lib.hid (below_of B1.out B1.out.size b2)
    clear b2 HA HB
    cases bl
    · clear HV
      go_wp2
      go_ret2
      exact ⟨rfl, B2.out⟩
    · cases bh
      · clear HV
        go_wp2
        go_ret2
        exact ⟨rfl, B2.out⟩
      · obtain ⟨e1, e2⟩ : vl = xl ∧ vh = xh := ⟨HV.out.1 rfl, HV.out.2 rfl⟩
        subst e1
        subst e2
        clear HV
        go_wp2
        go_ret2
        exact ⟨rfl, B2.out⟩
  · have h16i : ¬ ((p.size : Int) = 16) := by omega
    have hb : cxB p = false := by unfold cxB; rw [decide_eq_false h16]; rfl
    have hr : cxA p = 0 ∧ cxI p = 0 := by unfold cxA cxI; rw [hb]; exact ⟨rfl, rfl⟩
    rw [hb, hr.1, hr.2]
    clear hE hT hs
    go_enter Tryd.func33, Tryd.ntmps33
    go_wp2
    go_ret2
    exact ⟨rfl, Below.refl _ _⟩
end Go.Proofs.YtknabmknboffgaaDoor
