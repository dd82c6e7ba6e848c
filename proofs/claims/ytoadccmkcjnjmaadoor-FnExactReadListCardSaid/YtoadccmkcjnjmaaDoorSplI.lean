/- A list of whole numbers out of a text: mathematics; the program. No statement is proved here. -/
import Derived.Test.YtoadccmkcjnjmaaDoorNums
import Derived.Test.YtoadccmkcjnjmaaDoorVal1
import Derived.Test.YtoadccmkcjnjmaaDoorGrI
namespace Go.Proofs.YtoadccmkcjnjmaaDoor
open Go Go.RowKit
/-- whether all of the first parts tell numbers -/
def liA (s : ByteArray) : Nat → Bool
  | 0 => true
  | k + 1 => liA s k && vlO (partS s k)
def liO (s : ByteArray) : Bool := decide (s = noneS) || (decide ((nmP s).length ≤ 64) && liA s (nmP s).length)
def liV (s : ByteArray) (n : Nat) : List Int := (List.range n).map fun k => vlR (partS s k)
def liL (s : ByteArray) : List Int := if s = noneS then [] else if liO s then liV s (nmP s).length else []
theorem liV_next (s : ByteArray) (k : Nat) : liV s k ++ [vlR (partS s k)] = liV s (k + 1) := by unfold liV; rw [List.range_succ, List.map_append]; rfl
theorem li_none : liO noneS = true ∧ liL noneS = [] := ⟨by unfold liO; rw [decide_eq_true rfl]; rfl, by unfold liL; rw [if_pos rfl]⟩
theorem li_many {s : ByteArray} (h : s ≠ noneS) (h2 : 64 < (nmP s).length) : liO s = false ∧ liL s = [] := by
  have e : liO s = false := by unfold liO; rw [decide_eq_false h, decide_eq_false (by omega)]; rfl
  exact ⟨e, by unfold liL; rw [if_neg h, e]; rfl⟩
theorem liA_no {s : ByteArray} {k : Nat} (hb : vlO (partS s k) = false) : ∀ n, k < n → liA s n = false := by
  intro n
  induction n with
  | zero => intro h; omega
  | succ n ih =>
    intro h
    by_cases e : k = n
    · subst e; simp only [liA, hb, Bool.and_false]
    · simp only [liA, ih (by omega), Bool.false_and]
theorem li_bad {s : ByteArray} (h : s ≠ noneS) {k : Nat} (hk : k < (nmP s).length) (hb : vlO (partS s k) = false) : liO s = false ∧ liL s = [] := by
  have e : liO s = false := by unfold liO; rw [decide_eq_false h, liA_no hb _ hk]; simp
  exact ⟨e, by unfold liL; rw [if_neg h, e]; rfl⟩
theorem li_good {s : ByteArray} (h : s ≠ noneS) (h1 : (nmP s).length ≤ 64) (h2 : liA s (nmP s).length = true) : liO s = true ∧ liL s = liV s (nmP s).length := by
  have e : liO s = true := by unfold liO; rw [decide_eq_true h1, h2]; simp
  exact ⟨e, by unfold liL; rw [if_neg h, e]; rfl⟩
theorem li_few (s : ByteArray) : (liL s).length ≤ 1048576 := by
  unfold liL
  split
  · simp
  · split
    · rename_i h
      unfold liO at h
      rename_i h0
      rw [decide_eq_false h0, Bool.false_or, Bool.and_eq_true, decide_eq_true_eq] at h
      simp [liV]; omega
    · simp
theorem lib_SplitI (s : ByteArray) (w : World) (hs : s.size ≤ 1048576) (hM : ML w) :
    Calls Tryd.prog 71 #[.string s, .string ⟨#[44]⟩, .int .i64 65] w fun e w' => ∃ n N, e = .returned (.slice (some ⟨w.heap.size, 0, none⟩) n N) ∧ n ≤ 65 ∧ ((nmP s).length ≤ 64 → n = (nmP s).length ∧ ∀ k, k < n → w'.cell? ⟨w.heap.size, k, none⟩ = some (.string (partS s k))) ∧ (64 < (nmP s).length → 64 < n) ∧ w.heap.size < w'.heap.size ∧ Below w.heap.size w w' := by
  obtain ⟨m, hm⟩ := hM
  refine (Tryd.strings_SplitN s ⟨#[44]⟩ 65 m w (by omega) hm (by decide) (by omega) (by omega)).mono ?_
  rintro e w' ⟨rfl, rfl⟩
  have hle := cutS_le 44 s
  rw [cutS_len] at hle
  refine ⟨_, _, rfl, ?_, ?_, ?_, by simp, (Below.refl _ _).alloc (Nat.le_refl _) _⟩
  · have := Lib.splitB_length_le ⟨#[44]⟩ 0 (min 65 (s.size + 1) - 1) s
    omega
  · intro h
    rw [splitB_few (by rw [cutS_len]; omega)]
    refine ⟨cutS_len s, fun k hk => ?_⟩
    rw [cutS_len] at hk
    rw [World.cell?_alloc_at (w := w) (hn := rfl)]
    have hc : (Lib.cellsOf (cutS 44 s) (min 65 (s.size + 1)))[k]? = some (.string (partS s k)) := by
      unfold Lib.cellsOf
      rw [List.getElem?_toArray, List.getElem?_append_left (by rw [List.length_map, cutS_len]; exact hk), List.getElem?_map, cutS_at hk]
      rfl
    exact hc
  · intro h
    by_cases e : (nmP s).length = 65
    · rw [splitB_few (by rw [cutS_len]; omega), cutS_len]; omega
    · have := splitB_many (c := 44) (s := s) (k := min 65 (s.size + 1) - 1) (by rw [cutS_len]; omega)
      omega
set_option maxHeartbeats 4000000 in
set_option maxRecDepth 100000 in
theorem i_splitInts (s : ByteArray) (w : World) (hs : s.size ≤ 1048576) (hE : EV w) (hT : T10 w) (hM : ML w) :
    Calls Tryd.prog 43 #[.string s, .int .i64 64, .func (.func 11) #[] #[]] w fun e w' => ∃ R1 c1 g1, e = .returned (.tuple #[.slice R1 (liL s).length c1, .bool (liO s)]) ∧ OwnOI w' w.heap.size R1 g1 (liL s) ∧ Below w.heap.size w w' := by
  by_cases h0 : s = noneS
  · subst h0
    rw [li_none.1, li_none.2]
    unfold noneS
    clear hs hE hT hM
    go_enter Tryd.func43, Tryd.ntmps43
    go_wp2
    go_ret2
    exact ⟨_, _, 0, rfl, .inl rfl, (Below.refl _ _).alloc (Nat.le_refl _) _⟩
  have hne : (s.toList == ([110, 111, 110, 101] : List UInt8)) = false := none_ne h0
  have H0 := Lib.hid h0
  have HSZ := Lib.hid hs
  have HE := Lib.hid hE
  have HT := Lib.hid hT
  have HSP := Lib.hid (lib_SplitI s w hs hM)
  clear h0 hs hE hT hM
  obtain ⟨i0, hi, hz0, hz1, hz2⟩ := info_parts i64_info
  go_enter Tryd.func43, Tryd.ntmps43
  go_wp2_with fail
  refine HSP.out.mono ?_
  rintro e w1 ⟨n, N, rfl, hn, h1, h2, h3, b1⟩
  have HB1 := Lib.hid b1
  clear hne HSP
  by_cases hf : (nmP s).length ≤ 64
  · obtain ⟨e1, h1c⟩ := h1 hf
    have HC := Lib.hid h1c
    have HF := Lib.hid hf
    have HEN := Lib.hid e1
    have hn64 : n ≤ 64 := by omega
    have hnn : ¬ (64 : Int) < (n : Int) := by omega
    clear h1 h2 h1c hn e1
    have hmk := run_make (P := Tryd.prog) w1 25 2 i0 (.int .i64 0) (by kernel_rfl) hi hz0 .i64 .i64 0 n (by omega) (by omega) (by rw [hz2]; omega) (by omega)
    rw [hz1] at hmk
    have hmk' : (Instr.makeSlice 25 (.int .i64 0) (.int .i64 n)).run Tryd.prog w1 = .ok (.slice (some ⟨w1.heap.size, 0, none⟩) 0 n) (w1.alloc (.cells (madeCells #[.int .i64 0] n) 2)) := by
      rw [hmk]; simp [Value.cells]
    clear hmk
    have HST : Hid (GrI (w1.alloc (.cells (madeCells #[.int .i64 0] n) 2)) w1.heap.size (.slice (some ⟨w1.heap.size, 0, none⟩) 0 n) []) := Lib.hid (GrI.made _ _ _ _ (Nat.le_refl _) (by unfold maxLen; omega) (by simp [madeCells]))
    have HB0 : Hid (Below w1.heap.size w1 (w1.alloc (.cells (madeCells #[.int .i64 0] n) 2))) := Lib.hid ((Below.refl _ _).alloc (Nat.le_refl _) _)
    have HLT := Lib.hid h3
    clear h3 b1
    go_wp2
    clear hmk' hnn
    go_loopw [9, 30] (fun v i wr => ∃ (k : Nat) (ys : List Int), k ≤ n ∧ i = .int .i64 k ∧ Hid (GrI wr w1.heap.size v ys) ∧ Hid (ys = liV s k) ∧ Hid (liA s k = true) ∧ Hid (ys.length = k) ∧ Hid (Below w1.heap.size w1 wr)) (fun _ i _ => n - (intOf i).toNat)
    case atStart => exact ⟨0, [], Nat.zero_le _, rfl, HST, Lib.hid rfl, Lib.hid rfl, Lib.hid rfl, HB0⟩
    case round =>
      obtain ⟨k, ys, hk, rfl, HG, HY, HA, HL, HBR⟩ := hrel
      by_cases hlt : k < n
      · have hc : wr.cell? ⟨w.heap.size, k, none⟩ = some (.string (partS s k)) := by rw [HBR.out.cell (p := ⟨w.heap.size, k, none⟩) HLT.out]; exact HC.out k hlt
        have hkP : k < (nmP s).length := by have := HEN.out; omega
        have HKP := Lib.hid hkP
        have HPS : Hid ((partS s k).size ≤ 1048576) := Lib.hid (Nat.le_trans (partS_size hkP) HSZ.out)
        have HEW : Hid (EV wr) := Lib.hid (HE.out.below (below_of HB1.out HB1.out.size HBR.out))
        have HTW : Hid (T10 wr) := Lib.hid (HT.out.below (below_of HB1.out HB1.out.size HBR.out))
        clear hkP
        obtain ⟨p, hp⟩ : ∃ p, p = partS s k := ⟨_, rfl⟩
        rw [← hp] at hc HPS
        have HPE := Lib.hid hp
        clear hp
        go_wp2_with fail
        refine (i_ReadDecimal p _ HPS.out HTW.out HEW.out).mono ?_
        rintro e w2 ⟨rfl, b2⟩
        have HG2 := Lib.hid (HG.out.below b2)
        have HB2 : Hid (Below w1.heap.size w1 w2) := Lib.hid (below_of HBR.out HBR.out.size b2)
        clear b2 hc HEW HTW
        cases pk : vlO p
        · have HN := Lib.hid (li_bad H0.out HKP.out (by rw [← HPE.out]; exact pk))
          clear pk
          go_wp2
          go_ret2
          refine ⟨none, 0, 0, by rw [HN.out.1, HN.out.2]; rfl, .inl HN.out.2, below_of HB1.out HB1.out.size HB2.out⟩
        · have HA2 : Hid (liA s (k + 1) = true) := Lib.hid (by simp only [liA, HA.out, ← HPE.out, pk, Bool.and_self])
          have HY2 : Hid (ys ++ [vlR p] = liV s (k + 1)) := Lib.hid (by rw [HY.out, HPE.out]; exact liV_next s k)
          generalize vlR p = r at HY2
          have hown := HG2.out
          clear pk
          unfold GrI at hown
          go_wp2_with (first
            | (at_builtin; refine wpList_append_own _ rfl _ _ 25 rfl w1.heap.size 2 i0 (.int .i64 0) 1 8 Tryd.underlying25 hi hz0 hz1 hz2 rfl (by decide) _ _ _ rfl (hown.alloc _) ⟨_, 0, none⟩ 1 1 [.int .i64 r] rfl rfl ?c1 ?c2 ?c3 ?c4 ?c5 ?_)
            | fail)
          case c1 =>
            intro j u hj
            match j, hj with
            | 0, hj => simp at hj; subst hj; simp [Addr.add]
          case c2 => intro u hu; simp at hu; subst hu; rfl
          case c3 => have := HL.out; unfold maxLen; omega
          case c4 => have := HL.out; omega
          case c5 => have := HB2.out.size; simp; omega
          · intro v' w4 hown' hgrow _
            obtain ⟨g2, b2⟩ := GrI.next HG2.out HB2.out (Nat.le_refl _) hown' hgrow
            have HG4 := Lib.hid g2
            have HB4 := Lib.hid b2
            have HL4 : Hid ((ys ++ [r]).length = k + 1) := Lib.hid (by simp [HL.out])
            clear g2 b2 hown hown' hgrow
            go_wp2
            go_roundw
            case rel => exact ⟨k + 1, _, by omega, by go_num, HG4, HY2, HA2, HL4, HB4⟩
            case measure => simp [intOf]; omega
      · have hkk : k = n := by omega
        subst hkk
        have hA : liA s (nmP s).length = true := by
          have := HA.out
          rwa [HEN.out] at this
        have HN := Lib.hid (li_good H0.out HF.out hA)
        have HYL : Hid (ys = liL s) := Lib.hid (by rw [HN.out.2, HY.out, HEN.out])
        obtain ⟨A', cap', b', rfl, ho⟩ := HG.out.own
        have HO := Lib.hid ho
        clear hA ho
        go_wp2
        go_ret2
        refine ⟨A', cap', b', by rw [HN.out.1, ← HYL.out]; rfl, ?_, below_of HB1.out HB1.out.size HBR.out⟩
        rw [← HYL.out]
        exact HO.out.imp id (fun ⟨x, y, z⟩ => ⟨x, Nat.le_trans HB1.out.size y, z⟩)
  · have hn2 := h2 (by omega)
    have HN := Lib.hid (li_many H0.out (by omega))
    have hnn : (64 : Int) < (n : Int) := by omega
    clear h1 h2 hf h3 b1
    go_wp2
    go_ret2
    exact ⟨none, 0, 0, by rw [HN.out.1, HN.out.2]; rfl, .inl HN.out.2, HB1.out⟩
set_option maxHeartbeats 1000000 in
theorem i_ReadList (s : ByteArray) (w : World) (hs : s.size ≤ 1048576) (hE : EV w) (hT : T10 w) (hM : ML w) :
    Calls Tryd.prog 13 #[.string s] w fun e w' => ∃ R1 c1 g1, e = .returned (.tuple #[.slice R1 (liL s).length c1, .bool (liO s)]) ∧ OwnOI w' w.heap.size R1 g1 (liL s) ∧ Below w.heap.size w w' := by
  have HC := Lib.hid (i_splitInts s w hs hE hT hM)
  clear hs hE hT hM
  go_enter Tryd.func13, Tryd.ntmps13
  go_wp2_with fail
  refine HC.out.mono ?_
  rintro e w1 ⟨R1, c1, g1, rfl, ho, b1⟩
  have HO := Lib.hid ho
  clear ho
  go_wp2
  go_ret2
  exact ⟨R1, c1, g1, rfl, HO.out, b1⟩
end Go.Proofs.YtoadccmkcjnjmaaDoor
