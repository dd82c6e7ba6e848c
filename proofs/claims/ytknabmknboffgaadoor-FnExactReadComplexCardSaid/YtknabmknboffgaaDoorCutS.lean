/- A text cut at each mark: the specification. No statement is proved here. -/
import Derived.Test.YtknabmknboffgaaDoorCutL
import Derived.Test.YtknabmknboffgaaDoorByt
namespace Go.Proofs.YtknabmknboffgaaDoor
open Go Go.RowKit
/-- the parts cut off so far, where the next one begins, where we are -/
def CutI (c : UInt8) (s : ByteArray) (xs : List ByteArray) (a i : Nat) : Prop :=
  (i ≤ s.size → cutF c s.data.toList = xs.map (·.data.toList) ++ cutF c (s.data.toList.drop a) ∧ a ≤ i ∧ ∀ j, a ≤ j → j < i → s.data.toList.getD j 0 ≠ c) ∧ (s.size < i → xs = cutS c s)
theorem CutI.zero (c : UInt8) (s : ByteArray) : CutI c s [] 0 0 := ⟨fun _ => ⟨rfl, Nat.le_refl _, fun j _ h => absurd h (Nat.not_lt_zero j)⟩, fun h => absurd h (Nat.not_lt_zero _)⟩
theorem get_list (s : ByteArray) (i : Nat) (h : i < s.size) : s.data.toList.getD i 0 = s[i] := by
  have h' : i < s.data.toList.length := by rwa [Lib.size_eq] at h
  rw [List.getD_eq_getElem?_getD, List.getElem?_eq_getElem h']
  rfl
theorem CutI.skip {c : UInt8} {s : ByteArray} {xs : List ByteArray} {a i : Nat} (h : CutI c s xs a i) (hi : i < s.size) (hc : s[i] ≠ c) : CutI c s xs a (i + 1) := by
  obtain ⟨h1, h2, h3⟩ := h.1 (by omega)
  refine ⟨fun _ => ⟨h1, by omega, fun j h4 h5 => ?_⟩, fun h4 => by omega⟩
  by_cases e : j = i
  · subst e; rw [get_list s j hi]; exact hc
  · exact h3 j h4 (by omega)
theorem CutI.cut {c : UInt8} {s : ByteArray} {xs : List ByteArray} {a i : Nat} (h : CutI c s xs a i) (hi : i < s.size) (hc : s[i] = c) : CutI c s (xs ++ [s.extract a i]) (i + 1) (i + 1) := by
  obtain ⟨h1, h2, h3⟩ := h.1 (by omega)
  refine ⟨fun _ => ⟨?_, Nat.le_refl _, fun j h4 h5 => by omega⟩, fun h4 => by omega⟩
  rw [h1, cut_step h2 (by rw [← Lib.size_eq]; exact hi) h3 (by rw [get_list s i hi]; exact hc), List.map_append, List.append_assoc]
  congr 1
  rw [extract_list]
  rfl
theorem CutI.last {c : UInt8} {s : ByteArray} {xs : List ByteArray} {a : Nat} (h : CutI c s xs a s.size) : CutI c s (xs ++ [s.extract a s.size]) (s.size + 1) (s.size + 1) := by
  obtain ⟨h1, h2, h3⟩ := h.1 (Nat.le_refl _)
  refine ⟨fun h => by omega, fun _ => ?_⟩
  rw [Lib.size_eq] at h3
  unfold cutS
  rw [h1, cut_end h3, List.map_append, map_mk]
  congr 1
  rw [extract_list, Lib.size_eq, List.take_length]
  rfl
theorem CutI.le {c : UInt8} {s : ByteArray} {xs : List ByteArray} {a i : Nat} (h : CutI c s xs a i) (hi : i ≤ s.size) : a ≤ i := (h.1 hi).2.1
theorem CutI.done {c : UInt8} {s : ByteArray} {xs : List ByteArray} {a i : Nat} (h : CutI c s xs a i) (hi : s.size < i) : xs = cutS c s := h.2 hi
set_option maxHeartbeats 4000000 in
set_option maxRecDepth 100000 in
theorem s_l01Cut (c : UInt8) (s : ByteArray) (w : World) (hs : s.size ≤ 1048576) :
    Calls Tryd.prog 45 #[.string s, .int .u8 c.toNat] w fun e w' => ∃ v, e = .returned v ∧ GrS w' w.heap.size v (cutS c s) ∧ Below w.heap.size w w' := by
  have HSZ := Lib.hid hs
  have hs64 : (s.size : Int) ≤ 1048576 := by omega
  obtain ⟨i0, hi, hz0, hz1, hz2⟩ := info_parts str_info
  have HST : Hid (GrS (w.alloc (.cells #[] 9)) w.heap.size (.slice (some ⟨w.heap.size, 0, none⟩) 0 0) []) := Lib.hid (GrS.made _ _ 0 #[] (Nat.le_refl _) (by unfold maxLen; omega) rfl)
  have HB0 : Hid (Below w.heap.size w (w.alloc (.cells #[] 9))) := Lib.hid ((Below.refl _ _).alloc (Nat.le_refl _) _)
  have HC0 := Lib.hid (CutI.zero c s)
  clear hs
  go_enter Tryd.func45, Tryd.ntmps45
  go_wp2
  go_loopw [5, 6, 7] (fun v f i wr => ∃ (a k : Nat) (xs : List ByteArray), a ≤ s.size + 1 ∧ k ≤ s.size + 1 ∧ f = .int .i64 a ∧ i = .int .i64 k ∧ Hid (GrS wr w.heap.size v xs) ∧ Hid (xs.length ≤ k) ∧ Hid (CutI c s xs a k) ∧ Hid (Below w.heap.size w wr)) (fun _ _ i _ => s.size + 1 - (intOf i).toNat)
  case atStart => exact ⟨0, 0, [], by omega, by omega, rfl, rfl, HST, Lib.hid (by simp), HC0, HB0⟩
  case round =>
    obtain ⟨a, k, xs, ha, hk, rfl, rfl, HG, HL, HC, HBR⟩ := hrel
    by_cases hle : k ≤ s.size
    · have hak := HC.out.le hle
      by_cases hend : k = s.size
      · subst hend
        have HN := Lib.hid HC.out.last
        have hkb : ((s.size : Int) == (s.size : Int)) = true := by simp
        have hown := HG.out
        unfold GrS at hown
        go_wp2_with (first
          | (at_builtin; refine wpList_append_own _ rfl _ _ 22 rfl w.heap.size 9 i0 (.string ⟨#[]⟩) 1 16 Tryd.underlying22 hi hz0 hz1 hz2 rfl (by decide) _ _ _ rfl (hown.alloc _) ⟨_, 0, none⟩ 1 1 [.string (s.extract a s.size)] rfl rfl ?c1 ?c2 ?c3 ?c4 ?c5 ?_)
          | fail)
        case c1 =>
          intro j u hj
          match j, hj with
          | 0, hj => simp at hj; subst hj; simp [Addr.add]
        case c2 => intro u hu; simp at hu; subst hu; rfl
        case c3 => have := HL.out; have := HSZ.out; unfold maxLen; omega
        case c4 => have := HL.out; have := HSZ.out; omega
        case c5 => have := HBR.out.size; simp; omega
        · intro v' w4 hown' hgrow _
          obtain ⟨g2, b2⟩ := GrS.next HG.out HBR.out (Nat.le_refl _) hown' hgrow
          have HG4 := Lib.hid g2
          have HB4 := Lib.hid b2
          clear g2 b2 hown hown' hgrow
          go_wp2
          go_roundw
          case rel => exact ⟨s.size + 1, s.size + 1, _, by omega, by omega, by go_num, by go_num, HG4, Lib.hid (by simp; have := HL.out; omega), HN, HB4⟩
          case measure => simp [intOf] <;> omega
      · have hlt : k < s.size := by omega
        have hkb : ((k : Int) == (s.size : Int)) = false := beq_eq_false_iff_ne.2 (by omega)
        by_cases hc : s[k] = c
        · have HN := Lib.hid (HC.out.cut hlt hc)
          have hcb : ((s[k].toNat : Int) == (c.toNat : Int)) = true := by rw [hc]; simp
          have hown := HG.out
          unfold GrS at hown
          go_wp2_with (first
            | (at_builtin; refine wpList_append_own _ rfl _ _ 22 rfl w.heap.size 9 i0 (.string ⟨#[]⟩) 1 16 Tryd.underlying22 hi hz0 hz1 hz2 rfl (by decide) _ _ _ rfl (hown.alloc _) ⟨_, 0, none⟩ 1 1 [.string (s.extract a k)] rfl rfl ?c1 ?c2 ?c3 ?c4 ?c5 ?_)
            | fail)
          case c1 =>
            intro j u hj
            match j, hj with
            | 0, hj => simp at hj; subst hj; simp [Addr.add]
          case c2 => intro u hu; simp at hu; subst hu; rfl
          case c3 => have := HL.out; have := HSZ.out; unfold maxLen; omega
          case c4 => have := HL.out; have := HSZ.out; omega
          case c5 => have := HBR.out.size; simp; omega
          · intro v' w4 hown' hgrow _
            obtain ⟨g2, b2⟩ := GrS.next HG.out HBR.out (Nat.le_refl _) hown' hgrow
            have HG4 := Lib.hid g2
            have HB4 := Lib.hid b2
            clear g2 b2 hown hown' hgrow
            go_wp2
            go_roundw
            case rel => exact ⟨k + 1, k + 1, _, by omega, by omega, by go_num, by go_num, HG4, Lib.hid (by simp; have := HL.out; omega), HN, HB4⟩
            case measure => simp [intOf] <;> omega
        · have HN := Lib.hid (HC.out.skip hlt hc)
          have hcb : ((s[k].toNat : Int) == (c.toNat : Int)) = false := beq_eq_false_iff_ne.2 (fun e => hc (UInt8.toNat_inj.1 (by omega)))
          go_wp2
          go_roundw
          case rel => exact ⟨a, k + 1, xs, by omega, by omega, rfl, by go_num, HG, Lib.hid (by have := HL.out; omega), HN, HBR⟩
          case measure => simp [intOf] <;> omega
    · have hkk : k = s.size + 1 := by omega
      subst hkk
      have HX := Lib.hid (HC.out.done (by omega))
      rw [HX.out] at HG
      go_wp2
      go_ret
      exact ⟨_, rfl, HG.out, HBR.out⟩
end Go.Proofs.YtknabmknboffgaaDoor
