/- A list of numbers out of a text: the specification. No statement is proved here. -/
import Derived.Test.YtknabmknboffgaaDoorSplT
import Derived.Test.YtknabmknboffgaaDoorCutS
import Derived.Maps.AppendAt
namespace Go.Proofs.YtknabmknboffgaaDoor
open Go Go.RowKit
theorem s_l01From (n : Nat) (w : World) (hn : n < 4294967296) :
    Calls Tryd.prog 56 #[.int .i64 (n : Int)] w fun e w' => e = .returned (.float .f32 n) ∧ w' = w := by
  have hv : IntKind.u32.wrap (n : Int) = n := by rw [IntKind.wrap_u32]; omega
  go_enter Tryd.func56, Tryd.ntmps56
  go_wp2
  go_ret
  exact ⟨rfl, rfl⟩
/-- the digits so far -/
def HxI (p : ByteArray) (k nv : Nat) : Prop := isHex (p.data.toList.take k) = true ∧ nv = hxv (p.data.toList.take k)
theorem HxI.zero (p : ByteArray) : HxI p 0 0 := ⟨rfl, rfl⟩
theorem HxI.step {p : ByteArray} {k nv d : Nat} (h : HxI p k nv) (hk : k < p.size) (hd : hxd p[k] = d) (hd16 : d < 16) : HxI p (k + 1) (16 * nv + d) := by
  have hk' : k < p.data.toList.length := by rwa [Lib.size_eq] at hk
  have hg : p.data.toList.getD k 0 = p[k] := get_list p k hk
  refine ⟨?_, ?_⟩
  · rw [List.take_succ_eq_append_getElem hk', isHex_snoc, h.1]
    have : p.data.toList[k] = p[k] := by rw [← hg, List.getD_eq_getElem?_getD, List.getElem?_eq_getElem hk']; rfl
    rw [this, hd, decide_eq_true hd16]
    rfl
  · rw [hxv_take hk', hg, hd, ← h.2]
theorem HxI.lt {p : ByteArray} {k nv : Nat} (h : HxI p k nv) (hk : k ≤ p.size) : nv < 16 ^ k := by
  rw [h.2]
  refine hxv_lt k _ ?_ h.1
  have e := Lib.size_eq p
  rw [List.length_take]
  omega
theorem HxI.lt7 {p : ByteArray} {k nv : Nat} (h : HxI p k nv) (hk : k ≤ p.size) (h8 : k < 8) : nv < 268435456 := by
  have h1 := h.lt hk
  have h2 : (16 : Nat) ^ k ≤ 16 ^ 7 := Nat.pow_le_pow_right (by decide) (by omega)
  have e : (16 : Nat) ^ 7 = 268435456 := by decide
  omega
theorem HxI.done {p : ByteArray} {nv : Nat} (h : HxI p 8 nv) (h8 : p.size = 8) : eightH p.data.toList = true ∧ nv = hxv p.data.toList := by
  have e : p.data.toList.take 8 = p.data.toList := by
    rw [Lib.size_eq] at h8
    rw [← h8, List.take_length]
  obtain ⟨h1, h2⟩ := h
  rw [e] at h1 h2
  refine ⟨?_, h2⟩
  unfold eightH
  rw [h1, decide_eq_true (by rw [← Lib.size_eq]; exact h8)]
  rfl
theorem hx_badC {p : ByteArray} {k : Nat} (hk : k < p.size) (h : hxd p[k] = 16) : rdB p.data.toList = false := by
  refine rdB_bad (eight_bad (k := k) (by rwa [Lib.size_eq] at hk) ?_)
  rw [get_list p k hk, h]
  exact Nat.le_refl _
theorem hx_bad8 {p : ByteArray} (h : p.size ≠ 8) : rdB p.data.toList = false := by
  refine rdB_bad ?_
  unfold eightH
  rw [decide_eq_false (by rw [← Lib.size_eq]; exact h)]
  rfl
theorem rdB_good {l : List UInt8} (h : eightH l = true) : rdB l = decide (canon .f32 (hxv l) = hxv l) := by unfold rdB; rw [h, Bool.true_and]
end Go.Proofs.YtknabmknboffgaaDoor
