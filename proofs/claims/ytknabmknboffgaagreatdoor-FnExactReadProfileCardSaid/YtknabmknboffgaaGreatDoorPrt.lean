/- A text in so many parts: the program. No statement is proved here. -/
import Derived.Test.YtknabmknboffgaaGreatDoorRec
import Derived.Test.YtknabmknboffgaaGreatDoorNums
namespace Go.Proofs.YtknabmknboffgaaGreatDoor
open Go Go.RowKit
theorem lib_SplitC (c : UInt8) (M : Nat) (s : ByteArray) (w : World) (hs : s.size ≤ 1048576) (hM : ML w) (h0 : 1 ≤ M) (h1 : M ≤ 1000) :
    Calls Tryz.prog 91 #[.string s, .string ⟨#[c]⟩, .int .i64 (M + 1 : Nat)] w fun e w' => ∃ n N, e = .returned (.slice (some ⟨w.heap.size, 0, none⟩) n N) ∧ ((cutS c s).length = M → n = M ∧ ∀ k u, (cutS c s)[k]? = some u → w'.cell? ⟨w.heap.size, k, none⟩ = some (.string u)) ∧ ((cutS c s).length ≠ M → n ≠ M) ∧ w.heap.size < w'.heap.size ∧ Below w.heap.size w w' := by
  obtain ⟨m, hm⟩ := hM
  refine (Tryz.strings_SplitN s ⟨#[c]⟩ (M + 1) m w (by omega) hm (by show 1 ≤ 1; exact Nat.le_refl _) (by omega) (by omega)).mono ?_
  rintro e w' ⟨rfl, rfl⟩
  have hle := cutS_le c s
  have hsp := fun h => splitB_few (c := c) (s := s) (k := min (M + 1) (s.size + 1) - 1) h
  refine ⟨_, _, rfl, ?_, ?_, by simp, (Below.refl _ _).alloc (Nat.le_refl _) _⟩
  · intro h
    rw [hsp (by omega)]
    refine ⟨h, fun k u hk => ?_⟩
    rw [World.cell?_alloc_at (w := w) (hn := rfl)]
    have hlt : k < (cutS c s).length := (List.getElem?_eq_some_iff.1 hk).1
    have hc : (Lib.cellsOf (cutS c s) (min (M + 1) (s.size + 1)))[k]? = some (.string u) := by
      unfold Lib.cellsOf
      rw [List.getElem?_toArray, List.getElem?_append_left (by rw [List.length_map]; exact hlt), List.getElem?_map, hk]
      rfl
    exact hc
  · intro h
    by_cases e : (cutS c s).length ≤ M + 1
    · rw [hsp (by omega)]; exact h
    · have := splitB_many (c := c) (s := s) (k := min (M + 1) (s.size + 1) - 1) (by omega)
      omega
theorem i_mustS_yes (A : Option Addr) (n cap : Nat) (w : World) :
    Calls Tryz.prog 92 #[.slice A n cap, .bool true] w fun e w' => e = .returned (.slice A n cap) ∧ w' = w := by
  go_enter Tryz.func92, Tryz.ntmps92
  go_wp2
  go_ret
  exact ⟨rfl, rfl⟩
theorem i_mustS_no (A : Option Addr) (n cap : Nat) (pv : Value) (w : World) (h : EMv pv w) :
    Calls Tryz.prog 92 #[.slice A n cap, .bool false] w fun e w' => e = .panicked (chn pv) ∧ w' = w := by
  unfold EMv at h
  go_enter Tryz.func92, Tryz.ntmps92
  go_wp2
  exact ⟨rfl, rfl, rfl⟩
theorem i_mustI_yes (x : Int) (w : World) :
    Calls Tryz.prog 62 #[.int .i64 x, .bool true] w fun e w' => e = .returned (.int .i64 x) ∧ w' = w := by
  go_enter Tryz.func62, Tryz.ntmps62
  go_wp2
  go_ret
  exact ⟨rfl, rfl⟩
theorem i_mustI_no (x : Int) (pv : Value) (w : World) (h : EMv pv w) :
    Calls Tryz.prog 62 #[.int .i64 x, .bool false] w fun e w' => e = .panicked (chn pv) ∧ w' = w := by
  unfold EMv at h
  go_enter Tryz.func62, Tryz.ntmps62
  go_wp2
  exact ⟨rfl, rfl, rfl⟩
theorem i_partsIn_yes (c : UInt8) (M : Nat) (s : ByteArray) (w : World) (hs : s.size ≤ 1048576) (hM : ML w) (h0 : 1 ≤ M) (h1 : M ≤ 1000) (h : (cutS c s).length = M) :
    Calls Tryz.prog 60 #[.string s, .string ⟨#[c]⟩, .int .i64 M] w fun e w' => ∃ N, e = .returned (.slice (some ⟨w.heap.size, 0, none⟩) M N) ∧ (∀ k u, (cutS c s)[k]? = some u → w'.cell? ⟨w.heap.size, k, none⟩ = some (.string u)) ∧ w.heap.size < w'.heap.size ∧ Below w.heap.size w w' := by
  have HC := Lib.hid (lib_SplitC c M s w hs hM h0 h1)
  have HL := Lib.hid h
  have hz : ((M : Int) + 1 + 9223372036854775808) % 18446744073709551616 - 9223372036854775808 = ((M + 1 : Nat) : Int) := by omega
  have heq : ((M : Int) == (M : Int)) = true := by simp
  clear hs hM h
  go_enter Tryz.func60, Tryz.ntmps60
  go_wp2_with fail
  refine HC.out.mono ?_
  rintro e w1 ⟨n, N, rfl, hy, -, hlt, hb⟩
  obtain ⟨rfl, hc⟩ := hy HL.out
  have HCL := Lib.hid hc
  have HLT := Lib.hid hlt
  have HB := Lib.hid hb
  clear hy hc hlt hb HC HL
  go_wp2_with fail
  refine (i_mustS_yes _ n N _).mono ?_
  rintro e w2 ⟨rfl, hw⟩
  obtain rfl : w1 = w2 := hw.symm
  go_wp2
  go_ret
  exact ⟨N, rfl, HCL.out, HLT.out, HB.out⟩
theorem i_partsIn_no (c : UInt8) (M : Nat) (s : ByteArray) (pv : Value) (w : World) (hs : s.size ≤ 1048576) (hM : ML w) (hV : EMv pv w) (h0 : 1 ≤ M) (h1 : M ≤ 1000) (h : (cutS c s).length ≠ M) :
    Calls Tryz.prog 60 #[.string s, .string ⟨#[c]⟩, .int .i64 M] w fun e w' => e = .panicked (chn pv) ∧ Below w.heap.size w w' := by
  have HC := Lib.hid (lib_SplitC c M s w hs hM h0 h1)
  have HL := Lib.hid h
  have HV := Lib.hid hV
  have hz : ((M : Int) + 1 + 9223372036854775808) % 18446744073709551616 - 9223372036854775808 = ((M + 1 : Nat) : Int) := by omega
  clear hs hM h hV
  go_enter Tryz.func60, Tryz.ntmps60
  go_wp2_with fail
  refine HC.out.mono ?_
  rintro e w1 ⟨n, N, rfl, -, hy, hlt, hb⟩
  have hne := hy HL.out
  have heq : ((n : Int) == (M : Int)) = false := beq_eq_false_iff_ne.2 (by omega)
  have HB := Lib.hid hb
  have HV1 := Lib.hid (HV.out.below hb)
  clear hy hlt hb HC HL hne
  go_wp2_with fail
  refine (i_mustS_no _ n N pv _ HV1.out).mono ?_
  rintro e w2 ⟨rfl, hw⟩
  obtain rfl : w1 = w2 := hw.symm
  go_wp2
  exact ⟨rfl, rfl, HB.out⟩
end Go.Proofs.YtknabmknboffgaaGreatDoor
