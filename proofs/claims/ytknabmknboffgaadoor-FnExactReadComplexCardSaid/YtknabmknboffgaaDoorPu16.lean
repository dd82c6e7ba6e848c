/- strconv.ParseUint at base 16 and 32 bits: the library's own text, walked at any text. No statement is proved here. -/
import Derived.Test.YtknabmknboffgaaDoorHxR
import Derived.Lib.Strings
import Derived.Lib.Walk
import Derived.Lib.ConvBytes
import Derived.Lib.AtoiErrMem
import Derived.Lib.Hide
import Derived.Laws.Strings3
import Derived.Laws.Closers25
import Derived.Laws.Closers25b
import Derived.WalkKit
namespace Go.Proofs.YtknabmknboffgaaDoor
open Go Go.RowKit
/-- none, or one of the two errors that this function tells -/
def PuE (er : Value) : Prop := er = .nilIface ∨ er = .iface 115 (.int .i64 1) ∨ er = .iface 115 (.int .i64 2)
/-- what it answers: the number, where eight digits of base 16 tell one; otherwise a number below 2^32, and perhaps an error -/
def PuP (s : List UInt8) (v : Nat) (er : Value) : Prop := v < 4294967296 ∧ PuE er ∧ (eightH s = true → v = hxv s ∧ er = .nilIface)
theorem PuP.bad {s : List UInt8} {v : Nat} {er : Value} (h : eightH s = false) (hv : v < 4294967296) (he : PuE er) : PuP s v er := ⟨hv, he, fun g => by rw [h] at g; cases g⟩
theorem PuE.syn : PuE (.iface 115 (.int .i64 2)) := .inr (.inr rfl)
theorem PuE.rng : PuE (.iface 115 (.int .i64 1)) := .inr (.inl rfl)
theorem eightH_parts {s : List UInt8} (h : eightH s = true) : s.length = 8 ∧ isHex s = true := by
  unfold eightH at h
  rw [Bool.and_eq_true, decide_eq_true_eq] at h
  exact h
theorem low_or (c : UInt8) (h : 97 ≤ c.toNat ∧ c.toNat ≤ 102) : bits .or .u8 (c.toNat : Int) 32 = c.toNat := by
  have hh : ∀ d : Fin 6, bits .or .u8 ((97 + d.1 : Nat) : Int) 32 = ((97 + d.1 : Nat) : Int) := by decide +kernel
  have := hh ⟨c.toNat - 97, by omega⟩
  rwa [show 97 + (c.toNat - 97) = c.toNat by omega] at this
theorem hxd_dig {c : UInt8} (h : 48 ≤ c.toNat ∧ c.toNat ≤ 57) : hxd c = c.toNat - 48 := by unfold hxd; rw [if_pos h]
theorem hxd_let {c : UInt8} (h : 97 ≤ c.toNat ∧ c.toNat ≤ 102) : hxd c = c.toNat - 87 := by unfold hxd; rw [if_neg (by omega), if_pos h]
theorem hxd_no {c : UInt8} (h : ¬ (48 ≤ c.toNat ∧ c.toNat ≤ 57)) (h2 : ¬ (97 ≤ c.toNat ∧ c.toNat ≤ 102)) : hxd c = 16 := by unfold hxd; rw [if_neg h, if_neg h2]
/-- the number gathered: below 2^32, and where the text is good, that of the digits so far -/
def PuI (s : List UInt8) (k acc : Nat) : Prop := acc < 4294967296 ∧ (eightH s = true → acc = hxv (s.take k))
theorem PuI.zero (s : List UInt8) : PuI s 0 0 := ⟨by omega, fun _ => rfl⟩
theorem PuI.bad {s : List UInt8} {k acc : Nat} (h : eightH s = false) (ha : acc < 4294967296) : PuI s k acc := ⟨ha, fun g => by rw [h] at g; cases g⟩
theorem PuI.step {s : List UInt8} {k acc d : Nat} (h : PuI s k acc) (hk : k < s.length) (hd : d = hxd (s.getD k 0)) (ha : acc * 16 + d < 4294967296) : PuI s (k + 1) (acc * 16 + d) := by
  refine ⟨ha, fun g => ?_⟩
  rw [hxv_take hk, h.2 g, hd]
  omega
theorem PuI.over {s : List UInt8} {k acc d : Nat} (h : PuI s k acc) (hk : k < s.length) (hd : d = hxd (s.getD k 0)) (ha : 4294967296 ≤ acc * 16 + d) : eightH s = false := by
  cases g : eightH s
  · rfl
  · exfalso
    obtain ⟨h8, hx⟩ := eightH_parts g
    have e := h.2 g
    have hl := hxv_lt (k + 1) (s.take (k + 1)) (by simp; omega) (isHex_take hx _)
    rw [hxv_take hk, ← e, ← hd] at hl
    have : (16 : Nat) ^ (k + 1) ≤ 16 ^ 8 := Nat.pow_le_pow_right (by decide) (by omega)
    have e8 : (16 : Nat) ^ 8 = 4294967296 := by decide
    omega
theorem eight_bad {s : List UInt8} {k : Nat} (hk : k < s.length) (h : 16 ≤ hxd (s.getD k 0)) : eightH s = false := by
  cases g : eightH s
  · rfl
  · have := isHex_at (eightH_parts g).2 hk
    omega
theorem PuI.done {s : List UInt8} {acc : Nat} (h : PuI s s.length acc) : PuP s acc .nilIface := by
  refine ⟨h.1, .inl rfl, fun g => ⟨?_, rfl⟩⟩
  rw [h.2 g, List.take_length]
set_option maxHeartbeats 8000000 in
set_option maxRecDepth 100000 in
theorem lib_ParseUint (s : ByteArray) (w : World) (hmax : s.size ≤ 1048576) :
    Calls Tryd.prog 71 #[.string s, .int .i64 16, .int .i64 32] w fun e w' => ∃ (v : Nat) (er : Value), e = .returned (.tuple #[.int .u64 v, er]) ∧ PuP s.data.toList v er ∧ Below w.heap.size w w' := by
  by_cases h0 : s.size = 0
  · obtain rfl : s = ByteArray.empty := ByteArray.ext (Array.eq_empty_of_size_eq_zero h0)
    go_enter Tryd.func71, Tryd.ntmps71
    go_wp2
    go_ret2
    exact ⟨0, _, rfl, PuP.bad rfl (by omega) PuE.syn, Below.refl _ _⟩
  have hemp : s.toList.isEmpty = false := by
    rw [← decide_eq_emptyBytes]
    exact decide_eq_false (fun h => h0 (by rw [h]; rfl))
  have hcv := Lib.run_convert_string_bytes (P := Tryd.prog) w 9 39 5 s (u := .string) (by kernel_rfl) (by kernel_rfl) (by kernel_rfl)
  have hB0 : ∀ j, j < s.size → (Lib.bytesWorld w 5 s).cell? ⟨w.heap.size, j, none⟩ = some (.int .u8 (s.data.toList.getD j 0).toNat) := fun j hj => Lib.bytesWorld_cell w 5 s j hj
  have HBW : Hid (Below w.heap.size w (Lib.bytesWorld w 5 s)) := Lib.hid (Lib.bytesWorld_below w 5 s)
  obtain ⟨W1, hW1⟩ : ∃ W1, W1 = Lib.bytesWorld w 5 s := ⟨_, rfl⟩
  rw [← hW1] at hcv hB0 HBW
  clear hW1
  obtain ⟨bs, hL⟩ : ∃ bs, bs = s.data.toList := ⟨_, rfl⟩
  have hLn : bs.length = s.size := by rw [hL, Lib.size_eq]
  rw [← hL] at hB0 ⊢
  clear hL
  have HB := Lib.hid hB0
  have HLN := Lib.hid hLn
  clear hB0 hLn h0
  have hmv : IntKind.u64.wrap (IntKind.u64.wrap 4294967296 - 1) = 4294967295 := by
    rw [IntKind.wrap_u64, IntKind.wrap_u64]
    decide
  go_enter Tryd.func71, Tryd.ntmps71
  go_wp2
  go_loop [12, 13, 101] (fun vu vn vi => ∃ (k acc : Nat) (a : Int), vu = .bool false ∧ vn = .int .u64 a ∧ vi = .int .i64 k ∧ k ≤ s.size ∧ Hid (a = (acc : Int) ∧ PuI bs k acc))
    (fun _ _ vi => s.size - (intOf vi).toNat)
  case atStart => exact ⟨0, 0, 0, rfl, rfl, rfl, by omega, Lib.hid ⟨rfl, PuI.zero _⟩⟩
  case round =>
    obtain ⟨k, acc, a, rfl, rfl, rfl, hk, hh⟩ := hrel
    have a0 : 0 ≤ a := by have := hh.out.1; omega
    have a1 : a < 4294967296 := by have := hh.out.1; have := hh.out.2.1; omega
    by_cases hkn : k < s.size
    · have hc := HB.out k hkn
      have HC : Hid (bs.getD k 0 = bs.getD k 0) := rfl
      obtain ⟨c, hcc⟩ : ∃ c, c = bs.getD k 0 := ⟨_, rfl⟩
      rw [← hcc] at hc
      have HCC := Lib.hid hcc
      have HKL : Hid (k < bs.length) := Lib.hid (by rw [HLN.out]; exact hkn)
      clear hcc HC
      have hc256 : c.toNat < 256 := c.toNat_lt
      by_cases hdig : 48 ≤ c.toNat ∧ c.toNat ≤ 57
      · have HD : Hid (c.toNat - 48 = hxd (bs.getD k 0)) := Lib.hid (by rw [← HCC.out, hxd_dig hdig])
        obtain ⟨hd0, hd1⟩ := hdig
        by_cases hov : 4294967296 ≤ a * 16 + ((c.toNat : Int) - 48)
        · have HBad : Hid (eightH bs = false) := Lib.hid (hh.out.2.over HKL.out HD.out (by have := hh.out.1; omega))
          clear hh HD
          go_wp2
          go_ret2
          exact ⟨4294967295, _, rfl, PuP.bad HBad.out (by omega) PuE.rng, HBW.out⟩
        · have HN : Hid (a * 16 + ((c.toNat : Int) - 48) = ((acc * 16 + (c.toNat - 48) : Nat) : Int) ∧ PuI bs (k + 1) (acc * 16 + (c.toNat - 48))) := Lib.hid (by
            have e := hh.out.1
            exact ⟨by omega, hh.out.2.step HKL.out HD.out (by omega)⟩)
          have iov : a * 16 + ((c.toNat : Int) - 48) < 4294967296 := by omega
          clear hh HD hov
          go_wp2
          refine ⟨⟨k + 1, acc * 16 + (c.toNat - 48), a * 16 + ((c.toNat : Int) - 48), rfl, (by first | rfl | (congr 1; omega)), (by first | rfl | (congr 1; omega)), by omega, HN⟩, by simp [intOf]; omega⟩
      · by_cases h95 : c.toNat = 95
        · have HBad : Hid (eightH bs = false) := Lib.hid (eight_bad HKL.out (by rw [← HCC.out, hxd_no hdig (by omega)]; exact Nat.le_refl _))
          have hcall : ∀ W, Calls Tryd.prog 83 #[.int .u8 95] W fun e w' => e = .returned (.int .u8 127) ∧ w' = W := fun W => by
            have e127 : bits .or .u8 95 32 = 127 := by decide +kernel
            go_enter Tryd.func83, Tryd.ntmps83
            go_wp2
            go_ret
            exact ⟨rfl, rfl⟩
          have HCALL := Lib.hid hcall
          rw [h95] at hc
          clear hcall hh hdig h95 hc256
          go_wp2_with (go_at_call 83; refine (HCALL.out _).mono ?_; rintro e w' ⟨rfl, rfl⟩)
          all_goals go_ret2
          all_goals exact ⟨0, _, rfl, PuP.bad HBad.out (by omega) PuE.syn, HBW.out⟩
        have h95' : ¬ ((c.toNat : Int) = 95) := by omega
        have HDN := Lib.hid hdig
        have hlo := bits_lo_u8 .or (c.toNat : Int) 32
        have hhi := bits_hi_u8 .or (c.toNat : Int) 32
        have HLW : Hid (97 ≤ c.toNat ∧ c.toNat ≤ 102 → bits .or .u8 (c.toNat : Int) 32 = c.toNat) := Lib.hid (low_or c)
        have hcall : ∀ W, Calls Tryd.prog 83 #[.int .u8 c.toNat] W fun e w' => e = .returned (.int .u8 (bits .or .u8 (c.toNat : Int) 32)) ∧ w' = W := fun W => by
          go_enter Tryd.func83, Tryd.ntmps83
          go_wp2
          go_ret
          exact ⟨rfl, rfl⟩
        have HCALL := Lib.hid hcall
        clear hcall
        generalize bits .or .u8 (c.toNat : Int) 32 = l at hlo hhi HLW HCALL
        by_cases hlet : 97 ≤ l ∧ l ≤ 102
        · obtain ⟨hl0, hl1⟩ := hlet
          by_cases hov : 4294967296 ≤ a * 16 + (l - 97 + 10)
          · have HBad : Hid (eightH bs = false) := Lib.hid (by
              by_cases hg : 97 ≤ c.toNat ∧ c.toNat ≤ 102
              · have e := HLW.out hg
                exact hh.out.2.over HKL.out (d := c.toNat - 87) (by rw [← HCC.out, hxd_let hg]) (by have := hh.out.1; omega)
              · exact eight_bad HKL.out (by rw [← HCC.out, hxd_no HDN.out hg]; exact Nat.le_refl _))
            clear hh HLW
            go_wp2_with (go_at_call 83; refine (HCALL.out _).mono ?_; rintro e w' ⟨rfl, rfl⟩)
            all_goals go_ret2
            all_goals exact ⟨4294967295, _, rfl, PuP.bad HBad.out (by omega) PuE.rng, HBW.out⟩
          · have HN : Hid (a * 16 + (l - 97 + 10) = ((acc * 16 + (l - 87).toNat : Nat) : Int) ∧ PuI bs (k + 1) (acc * 16 + (l - 87).toNat)) := Lib.hid (by
              have e := hh.out.1
              refine ⟨by omega, ?_⟩
              by_cases hg : 97 ≤ c.toNat ∧ c.toNat ≤ 102
              · have e2 := HLW.out hg
                exact hh.out.2.step HKL.out (by rw [← HCC.out, hxd_let hg]; omega) (by omega)
              · exact PuI.bad (eight_bad HKL.out (by rw [← HCC.out, hxd_no HDN.out hg]; exact Nat.le_refl _)) (by omega))
            have iov : a * 16 + (l - 97 + 10) < 4294967296 := by omega
            clear hh HLW hov
            go_wp2_with (go_at_call 83; refine (HCALL.out _).mono ?_; rintro e w' ⟨rfl, rfl⟩)
            all_goals refine ⟨⟨k + 1, acc * 16 + (l - 87).toNat, a * 16 + (l - 97 + 10), rfl, (by first | rfl | (congr 1; omega)), (by first | rfl | (congr 1; omega)), by omega, HN⟩, by simp [intOf]; omega⟩
        · have HBad : Hid (eightH bs = false) := Lib.hid (eight_bad HKL.out (by
            rw [← HCC.out, hxd_no HDN.out (fun hg => hlet (by have := HLW.out hg; omega))]; exact Nat.le_refl _))
          clear hh HLW
          go_wp2_with (go_at_call 83; refine (HCALL.out _).mono ?_; rintro e w' ⟨rfl, rfl⟩)
          all_goals go_ret2
          all_goals exact ⟨0, _, rfl, PuP.bad HBad.out (by omega) PuE.syn, HBW.out⟩
    · have hkk : k = s.size := by omega
      have HP : Hid (PuP bs acc .nilIface) := Lib.hid (by
        have := hh.out.2
        rw [hkk, ← HLN.out] at this
        exact this.done)
      have ha := hh.out.1
      subst hkk
      subst ha
      clear hh
      go_wp2
      go_ret2
      exact ⟨acc, _, rfl, HP.out, HBW.out⟩
end Go.Proofs.YtknabmknboffgaaDoor
