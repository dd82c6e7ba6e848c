/- strconv.FormatInt at base 16, of a number from 0 to 4294967295: the library's own text, walked. No statement is proved here. -/
import Derived.Test.YtknabmknboffgaaDoorHexM
import Derived.Test.YtknabmknboffgaaDoorProf
import Derived.Test.YtknabmknboffgaaDoorShelf
namespace Go.Proofs.YtknabmknboffgaaDoor
open Go Go.RowKit
theorem tz16 (w : World) (hT : w.cell? ⟨8, 15, none⟩ = some (.int .u8 4)) :
    Calls Tryd.prog 106 #[.int .u64 16] w fun e w' => e = .returned (.int .i64 4) ∧ w' = w := by
  have key : IntKind.u64.wrap (bits BinOp.and IntKind.u64 16 (IntKind.u64.wrap (-16)) * 285870213051353865) / 288230376151711744 = 15 := by decide +kernel
  have hz : ((16 : Int) == 0) = false := rfl
  go_enter Tryd.func106, Tryd.ntmps106
  go_wp2_with (simp only [key])
  go_ret
  exact ⟨rfl, rfl⟩
theorem tzu16 (w : World) (hT : w.cell? ⟨8, 15, none⟩ = some (.int .u8 4)) :
    Calls Tryd.prog 97 #[.int .u64 16] w fun e w' => e = .returned (.int .i64 4) ∧ w' = w := by
  go_enter Tryd.func97, Tryd.ntmps97
  go_wp2_with fail
  refine (tz16 _ hT).mono ?_
  rintro e w' ⟨rfl, rfl⟩
  go_wp2
  go_ret
  exact ⟨rfl, rfl⟩
/-- the array in which the digits stand -/
def HexAt (w wr : World) (k n : Nat) : Prop :=
  Below w.heap.size w wr ∧ w.heap.size < wr.heap.size ∧ ∀ j, j < 65 → wr.cell? ⟨w.heap.size, j, none⟩ = some (.int .u8 (if 65 ≤ j + k then (((hexN k n).getD (j + k - 65) 0).toNat : Int) else 0)) ∧ wr.frozen? ⟨w.heap.size, j, none⟩ = false
theorem HexAt.start (w : World) (n : Nat) (t : TypeId) (cs : Array Value) (hs : ∀ j, j < 65 → cs[j]? = some (.int .u8 0)) : HexAt w (w.alloc (.cells cs t)) 0 n := by
  refine ⟨(Below.refl _ _).alloc (Nat.le_refl _) _, by simp, fun j hj => ⟨?_, ?_⟩⟩
  · rw [World.cell?_alloc_at (w := w) (hn := rfl), if_neg (by omega)]
    exact hs j hj
  · rw [World.frozen?_alloc_at (w := w) (hn := rfl)]
theorem HexAt.step {w wr : World} {k n : Nat} (h : HexAt w wr k n) (hk : k < 65) : HexAt w (wr.setCell ⟨w.heap.size, 64 - k, none⟩ (.int .u8 ((hexc (n / 16 ^ k % 16)).toNat : Int))) (k + 1) n := by
  obtain ⟨h1, h2, h3⟩ := h
  refine ⟨h1.setCell (Nat.le_refl _) _, by simpa [World.setCell] using h2, fun j hj => ⟨?_, ?_⟩⟩
  · by_cases e : j = 64 - k
    · subst e
      rw [World.cell?_setCell_same (h := (h3 (64 - k) hj).1), if_pos (by omega), show 64 - k + (k + 1) - 65 = 0 by omega, hexN_at]
    · rw [World.cell?_setCell_other (h := by intro hh; simp only [Addr.mk.injEq] at hh; omega), (h3 j hj).1]
      by_cases hj2 : 65 ≤ j + k
      · rw [if_pos hj2, if_pos (by omega), show j + (k + 1) - 65 = (j + k - 65) + 1 by omega, hexN_tail]
      · rw [if_neg hj2, if_neg (by omega)]
  · rw [World.frozen?_setCell]; exact (h3 j hj).2
theorem addr_add (b o j : Nat) : (⟨b, o, none⟩ : Addr).add j = ⟨b, o + j, none⟩ := by
  unfold Addr.add
  split
  · rename_i h; subst h; rfl
  · rfl
theorem dig36 (d : Nat) (h : d < 16) : (⟨#[48, 49, 50, 51, 52, 53, 54, 55, 56, 57, 97, 98, 99, 100, 101, 102, 103, 104, 105, 106, 107, 108, 109, 110, 111, 112, 113, 114, 115, 116, 117, 118, 119, 120, 121, 122]⟩ : ByteArray)[d]'(Nat.lt_of_lt_of_le h (by decide)) = hexc d := by
  have hh : ∀ d : Fin 16, (⟨#[48, 49, 50, 51, 52, 53, 54, 55, 56, 57, 97, 98, 99, 100, 101, 102, 103, 104, 105, 106, 107, 108, 109, 110, 111, 112, 113, 114, 115, 116, 117, 118, 119, 120, 121, 122]⟩ : ByteArray)[d.1]'(Nat.lt_of_lt_of_le d.2 (by decide)) = hexc d.1 := by decide +kernel
  exact hh ⟨d, h⟩
theorem dig16 (d : Nat) (h : d < 16) : (⟨#[48, 49, 50, 51, 52, 53, 54, 55, 56, 57, 97, 98, 99, 100, 101, 102]⟩ : ByteArray)[d]'h = hexc d := by
  have hh : ∀ d : Fin 16, (⟨#[48, 49, 50, 51, 52, 53, 54, 55, 56, 57, 97, 98, 99, 100, 101, 102]⟩ : ByteArray)[d.1]'d.2 = hexc d.1 := by decide +kernel
  exact hh ⟨d, h⟩
theorem div_pow_step (n k : Nat) : n / 16 ^ k / 16 = n / 16 ^ (k + 1) := by rw [Nat.div_div_eq_div_mul, Nat.pow_succ]
theorem and15 (u : Nat) (h : u < 18446744073709551616) : bits BinOp.and IntKind.u64 (u : Int) 15 = ((u % 16 : Nat) : Int) := by
  have := bits_and_u64_nat u 15 h (by omega)
  rw [show ((15 : Nat) : Int) = 15 from rfl] at this
  rw [this]
  congr 1
  exact Nat.and_two_pow_sub_one_eq_mod u 4
theorem pow16 (w : World) : Calls Tryd.prog 96 #[.int .i64 16] w fun e w' => e = .returned (.bool true) ∧ w' = w := by
  have hp : bits BinOp.and IntKind.i64 16 15 = 0 := by decide +kernel
  go_enter Tryd.func96, Tryd.ntmps96
  go_wp2_with (simp only [hp])
  go_ret
  exact ⟨rfl, rfl⟩
set_option maxHeartbeats 4000000 in
set_option maxRecDepth 100000 in
theorem i_formatBits (n : Nat) (w : World) (hn : n < 4294967296) (hT : w.cell? ⟨8, 15, none⟩ = some (.int .u8 4)) :
    Calls Tryd.prog 78 #[.slice none 0 0, .int .u64 n, .int .i64 16, .bool false, .bool false] w fun e w' => ∃ m, e = .returned (.tuple #[.slice none 0 0, .string ⟨(hexN (m + 1) n).toArray⟩]) ∧ m ≤ 7 ∧ n < 16 ^ (m + 1) ∧ Below w.heap.size w w' := by
  have hTa : ∀ o, (w.alloc o).cell? ⟨8, 15, none⟩ = some (.int .u8 4) := fun o => by
    rw [((Below.refl w.heap.size w).alloc (Nat.le_refl _) o).cell (p := ⟨8, 15, none⟩) (cell_lt hT).1]; exact hT
  have hz : ∀ j, j < 65 → Tryd.zeroCells126[j]? = some (.int .u8 0) := fun j hj => by
    have h : Tryd.zeroCells126 = Array.replicate 65 (.int .u8 0) := by kernel_rfl
    rw [h]
    simp [hj]
  have H0 : Hid (HexAt w (w.alloc (.cells Tryd.zeroCells126 126)) 0 n) := Lib.hid (HexAt.start w n _ _ hz)
  clear hz
  go_enter Tryd.func78, Tryd.ntmps78
  go_wp2_with (first
    | (go_at_call 96; refine (pow16 _).mono ?_; rintro e w' ⟨rfl, rfl⟩)
    | (go_at_call 97; refine (tzu16 _ (hTa _)).mono ?_; rintro e w' ⟨rfl, rfl⟩))
  go_loopw [1, 13] (fun u i wr => ∃ k u' : Nat, k ≤ 7 ∧ u = .int .u64 u' ∧ Hid (u' = n / 16 ^ k) ∧ u' < 4294967296 ∧ i = .int .i64 ((65 - k : Nat) : Int) ∧ Hid (HexAt w wr k n)) (fun u _ _ => (intOf u).toNat)
  case atStart => exact ⟨0, n, Nat.zero_le _, rfl, Lib.hid (by simp), hn, rfl, H0⟩
  case round =>
    obtain ⟨k, u, hk, rfl, HU, hu, rfl, HA⟩ := hrel
    have hm := and15 u (by omega)
    have hc := (HA.out.2.2 (64 - k) (by omega)).1
    have hf := (HA.out.2.2 (64 - k) (by omega)).2
    rw [if_neg (by omega)] at hc
    have e1 : 65 - k - 1 = 64 - k := by omega
    have e2 : ((65 - k : Nat) : Int) - 1 = ((64 - k : Nat) : Int) := by omega
    by_cases hlt : 16 ≤ u
    · have HN : Hid (HexAt w (wr.setCell ⟨w.heap.size, 64 - k, none⟩ (.int .u8 ((hexc (u % 16)).toNat : Int))) (k + 1) n) := Lib.hid (by rw [HU.out]; exact HA.out.step (by omega))
      have hd := dig36 (u % 16) (Nat.mod_lt _ (by decide))
      have hk7 : k + 1 ≤ 7 := by
        rcases Nat.lt_or_ge k 7 with h | h
        · omega
        · obtain rfl : k = 7 := by omega
          have : n / 16 ^ 7 < 16 := by rw [Nat.div_lt_iff_lt_mul (by decide)]; omega
          have := HU.out
          omega
      have HU2 : Hid (u / 16 = n / 16 ^ (k + 1)) := Lib.hid (by rw [HU.out, div_pow_step])
      go_wp2_with (simp only [e1, e2])
      go_roundw
      case rel => exact ⟨k + 1, u / 16, hk7, by go_num, HU2, by omega, by go_num, HN⟩
      case measure => simp [intOf]; omega
    · have hu16 : u < 16 := by omega
      have hd := dig36 u hu16
      have HN : Hid (HexAt w (wr.setCell ⟨w.heap.size, 64 - k, none⟩ (.int .u8 ((hexc u).toNat : Int))) (k + 1) n) := Lib.hid (by
        have := HA.out.step (by omega)
        rw [← HU.out, Nat.mod_eq_of_lt hu16] at this
        exact this)
      have hal : Tryd.prog.arrayLen 126 = 65 := by kernel_rfl
      have hsl : ∀ W, (Instr.sliceAt 126 (.pointer (some ⟨w.heap.size, 0, none⟩)) (some (.int .i64 ((64 - k : Nat) : Int))) none none).run Tryd.prog W = .ok (.slice (some ⟨w.heap.size, 64 - k, none⟩) (k + 1) (k + 1)) W := fun W => by
        rw [run_sliceAt_array_l W 126 ⟨w.heap.size, 0, none⟩ (by kernel_rfl) .i64 ((64 - k : Nat) : Int) (by omega) (by rw [hal]; omega)]
        go_simp
        omega
      have hcv := run_convert_bytes_back (P := Tryd.prog) (wr.setCell ⟨w.heap.size, 64 - k, none⟩ (.int .u8 ((hexc u).toNat : Int))) 39 9 5 ⟨w.heap.size, 64 - k, none⟩ (k + 1) (hexN (k + 1) n) Tryd.underlying39 Tryd.underlying5 Tryd.underlying9 (fun j hj => by
        rw [hexN_length] at hj
        have h := (HN.out.2.2 (64 - k + j) (by omega)).1
        rw [if_pos (by omega), show 64 - k + j + (k + 1) - 65 = j by omega] at h
        rw [addr_add, h]
        simp [List.getD, hexN_length, hj])
      rw [hexN_length] at hcv
      clear hal
      go_wp2_with (simp only [e1, e2])
      go_ret2
      exact ⟨k, rfl, hk, by rw [Nat.pow_succ, Nat.mul_comm]; exact (Nat.div_lt_iff_lt_mul (Nat.pow_pos (by decide))).1 (by rw [← HU.out]; exact hu16), HN.out.1⟩
theorem below_grow' (w : World) (k : Nat) (os : Array Obj) : Below w.heap.size w (Go.Sort.grow (w.drewN k) os) := ⟨rfl, rfl, rfl, by show w.heap.size ≤ (w.heap ++ os).size; rw [Array.size_append]; omega, fun j hj => by show (w.heap ++ os)[j]? = w.heap[j]?; rw [Array.getElem?_append_left hj]⟩
theorem i_fmtInt16 (n : Nat) (w : World) (hn : n < 4294967296) (hT : w.cell? ⟨8, 15, none⟩ = some (.int .u8 4)) :
    Calls Tryd.prog 62 #[.int .i64 n, .int .i64 16] w fun e w' => ∃ m, e = .returned (.string ⟨(hexN (m + 1) n).toArray⟩) ∧ m ≤ 7 ∧ n < 16 ^ (m + 1) ∧ Below w.heap.size w w' := by
  go_enter Tryd.func62, Tryd.ntmps62
  go_wp2_with (go_at_call 78; refine (i_formatBits n _ hn hT).mono ?_; rintro e w' ⟨m, rfl, h1, h2, hb⟩)
  go_ret
  exact ⟨m, rfl, h1, h2, hb⟩
theorem i_FormatInt16 (n : Nat) (w : World) (hn : n < 4294967296) (hT : w.cell? ⟨8, 15, none⟩ = some (.int .u8 4)) :
    Calls Tryd.prog 50 #[.int .i64 n, .int .i64 16] w fun e w' => ∃ m, e = .returned (.string ⟨(hexN (m + 1) n).toArray⟩) ∧ m ≤ 7 ∧ n < 16 ^ (m + 1) ∧ Below w.heap.size w w' := by
  go_enter Tryd.func50, Tryd.ntmps50
  go_wp2_with (go_at_call 62; refine (i_fmtInt16 n _ hn hT).mono ?_; rintro e w' ⟨m, rfl, h1, h2, hb⟩)
  go_ret
  exact ⟨m, rfl, h1, h2, hb⟩
/-- the text of a number -/
def hexS (b : Nat) : ByteArray := ⟨(hexN 8 (canon .f32 b)).toArray⟩
theorem hexS_list (b : Nat) : (hexS b).data.toList = hexN 8 (canon .f32 b) := rfl
theorem hexS_size (b : Nat) : (hexS b).size = 8 := by
  show (hexN 8 (canon .f32 b)).toArray.size = 8
  rw [List.size_toArray, hexN_length]
set_option maxHeartbeats 2000000 in
theorem i_numberText (b : Nat) (w : World) (hb : canon .f32 b < 4294967296) (hT : w.cell? ⟨8, 15, none⟩ = some (.int .u8 4)) :
    Calls Tryd.prog 61 #[.float .f32 b] w fun e w' => e = .returned (.tuple #[.string (hexS b), .bool true]) ∧ Below w.heap.size w w' := by
  have hTd : ∀ k, (w.drewN k).cell? ⟨8, 15, none⟩ = some (.int .u8 4) := fun k => hT
  have HR : ∀ m, m ≤ 7 → canon .f32 b < 16 ^ (m + 1) → wrap64 (8 - ((hexN (m + 1) (canon .f32 b)).length : Int)) = ((7 - m : Nat) : Int) := fun m hm _ => by
    rw [hexN_length, IntWalk.wrap64_in _ (by omega)]; omega
  have HS : ∀ m, m ≤ 7 → canon .f32 b < 16 ^ (m + 1) → (⟨(Lib.repeatL [48] (7 - m)).toArray⟩ : ByteArray) ++ (⟨(hexN (m + 1) (canon .f32 b)).toArray⟩ : ByteArray) = hexS b := fun m hm h => by
    have e := hexN_pad (7 - m) (m + 1) _ h
    rw [show m + 1 + (7 - m) = 8 by omega] at e
    have e2 := Lib.repeatL_replicate 48 1 (7 - m)
    rw [Nat.mul_one] at e2
    unfold hexS
    rw [← e, show ([48] : List UInt8) = List.replicate 1 48 from rfl, e2]
    apply ByteArray.ext
    simp
  go_enter Tryd.func61, Tryd.ntmps61
  go_wp2_with (first
    | (go_at_call 73; refine (bitsOf_any _ _ hb).mono ?_; rintro e w' ⟨k, rfl, rfl⟩)
    | (go_at_call 50; refine (i_FormatInt16 _ _ hb (hTd _)).mono ?_; rintro e w1 ⟨m, rfl, h1, h2, hb1⟩))
  rw [HR m h1 h2]
  refine (Tryd.strings_Repeat ⟨#[48]⟩ (7 - m) w1 (by omega) (by show 1 * (7 - m) ≤ _; omega)).mono ?_
  rintro e w2 ⟨rfl, hb2⟩
  have hcat := HS m h1 h2
  have HB : Hid (Below w.heap.size w w2) := Lib.hid (below_of (below_of (below_draws (Below.refl _ _) k) (Nat.le_refl _) hb1) hb1.size hb2)
  clear HR HS hb1 hb2
  generalize (⟨(Lib.repeatL [48] (7 - m)).toArray⟩ : ByteArray) = R at hcat ⊢
  generalize (⟨(hexN (m + 1) (canon .f32 b)).toArray⟩ : ByteArray) = D at hcat ⊢
  have hsz : R.size + D.size = 8 := by rw [← ByteArray.size_append, hcat, hexS_size]
  go_wp2
  go_ret2
  exact ⟨rfl, HB.out⟩
end Go.Proofs.YtknabmknboffgaaDoor
