/- Complex numbers out of a text: the program. No statement is proved here. -/
import Derived.Test.YtknabmknboffgaaDoorCxM
namespace Go.Proofs.YtknabmknboffgaaDoor
open Go Go.RowKit
set_option maxHeartbeats 4000000 in
set_option maxRecDepth 100000 in
theorem i_splitCx (s : ByteArray) (w : World) (hs : s.size ≤ 1048576) (hE : EV w) (hT : T64 w) (hM : ML w) :
    Calls Tryd.prog 32 #[.string s, .int .i64 256, .func (.func 33) #[] #[]] w fun e w' => ∃ R1 c1 g1, e = .returned (.tuple #[.slice R1 (zliL s).length c1, .bool (zliO s)]) ∧ OwnOZ w' w.heap.size R1 g1 (zliL s) ∧ Below w.heap.size w w' := by
  by_cases h0 : s = noneS
  · subst h0
    rw [zli_none.1, zli_none.2]
    unfold noneS
    clear hs hE hT hM
    go_enter Tryd.func32, Tryd.ntmps32
    go_wp2
    go_ret2
    exact ⟨_, _, 0, rfl, .inl rfl, (Below.refl _ _).alloc (Nat.le_refl _) _⟩
  have hne : (s.toList == ([110, 111, 110, 101] : List UInt8)) = false := none_ne h0
  have H0 := Lib.hid h0
  have HSZ := Lib.hid hs
  have HE := Lib.hid hE
  have HT := Lib.hid hT
  have HSP := Lib.hid (lib_Split s w hs hM)
  clear h0 hs hE hT hM
  obtain ⟨i0, hi, hz0, hz1, hz2⟩ := info_parts c64_info
  go_enter Tryd.func32, Tryd.ntmps32
  go_wp2_with fail
  refine HSP.out.mono ?_
  rintro e w1 ⟨n, N, rfl, hn, h1, h2, h3, b1⟩
  have HB1 := Lib.hid b1
  clear hne HSP
  by_cases hf : (nmP s).length ≤ 256
  · obtain ⟨e1, h1c⟩ := h1 hf
    have HC := Lib.hid h1c
    have HF := Lib.hid hf
    have HEN := Lib.hid e1
    have hn256 : n ≤ 256 := by omega
    have hnn : ¬ (256 : Int) < (n : Int) := by omega
    clear h1 h2 h1c hn e1
    have hmk := run_make (P := Tryd.prog) w1 32 61 i0 (.complex .f32 0 0) (by kernel_rfl) hi hz0 .i64 .i64 0 n (by omega) (by omega) (by rw [hz2]; omega) (by omega)
    rw [hz1] at hmk
    have hmk' : (Instr.makeSlice 32 (.int .i64 0) (.int .i64 n)).run Tryd.prog w1 = .ok (.slice (some ⟨w1.heap.size, 0, none⟩) 0 n) (w1.alloc (.cells (madeCells #[.complex .f32 0 0] n) 61)) := by
      rw [hmk]; simp [Value.cells]
    clear hmk
    have HST : Hid (GrZ (w1.alloc (.cells (madeCells #[.complex .f32 0 0] n) 61)) w1.heap.size (.slice (some ⟨w1.heap.size, 0, none⟩) 0 n) []) := Lib.hid (GrZ.made _ _ _ _ (Nat.le_refl _) (by unfold maxLen; omega) (by simp [madeCells]))
    have HB0 : Hid (Below w1.heap.size w1 (w1.alloc (.cells (madeCells #[.complex .f32 0 0] n) 61))) := Lib.hid ((Below.refl _ _).alloc (Nat.le_refl _) _)
    have HLT := Lib.hid h3
    clear h3 b1
    go_wp2
    clear hmk' hnn
    go_loopw [9, 30] (fun v i wr => ∃ (k : Nat) (ys : List (Nat × Nat)), k ≤ n ∧ i = .int .i64 k ∧ Hid (GrZ wr w1.heap.size v ys) ∧ Hid (ys = zliV s k) ∧ Hid (zliA s k = true) ∧ Hid (ys.length = k) ∧ Hid (Below w1.heap.size w1 wr)) (fun _ i _ => n - (intOf i).toNat)
    case atStart => exact ⟨0, [], Nat.zero_le _, rfl, HST, Lib.hid rfl, Lib.hid rfl, Lib.hid rfl, HB0⟩
    case round =>
      obtain ⟨k, ys, hk, rfl, HG, HY, HA, HL, HBR⟩ := hrel
      by_cases hlt : k < n
      · have hc : wr.cell? ⟨w.heap.size, k, none⟩ = some (.string (partS s k)) := by rw [HBR.out.cell (p := ⟨w.heap.size, k, none⟩) HLT.out]; exact HC.out k hlt
        have hkP : k < (nmP s).length := by have := HEN.out; omega
        have HKP := Lib.hid hkP
        have HPS : Hid ((partS s k).size ≤ 1048576) := Lib.hid (Nat.le_trans (partS_size hkP) HSZ.out)
        have HEW : Hid (EV wr) := Lib.hid (HE.out.below (below_of HB1.out HB1.out.size HBR.out))
        have HTW : Hid (T64 wr) := Lib.hid (HT.out.below (below_of HB1.out HB1.out.size HBR.out))
        clear hkP
        obtain ⟨p, hp⟩ : ∃ p, p = partS s k := ⟨_, rfl⟩
        rw [← hp] at hc HPS
        have HPE := Lib.hid hp
        clear hp
        go_wp2_with fail
        refine (i_readParts p _ HPS.out HEW.out HTW.out).mono ?_
        rintro e w2 ⟨rfl, b2⟩
        have HG2 := Lib.hid (HG.out.below b2)
        have HB2 : Hid (Below w1.heap.size w1 w2) := Lib.hid (below_of HBR.out HBR.out.size b2)
        clear b2 hc HEW HTW
        cases pk : cxB p
        · have HN := Lib.hid (zli_bad H0.out HKP.out (by rw [← HPE.out]; exact pk))
          clear pk
          go_wp2
          go_ret2
          refine ⟨none, 0, 0, by rw [HN.out.1, HN.out.2]; rfl, .inl HN.out.2, below_of HB1.out HB1.out.size HB2.out⟩
        · have HA2 : Hid (zliA s (k + 1) = true) := Lib.hid (by simp only [zliA, HA.out, ← HPE.out, pk, Bool.and_self])
          have HY2 : Hid (ys ++ [(cxA p, cxI p)] = zliV s (k + 1)) := Lib.hid (by rw [HY.out, HPE.out]; exact zliV_next s k)
          generalize cxA p = re at HY2 ⊢
          generalize cxI p = im at HY2 ⊢
          have hown := HG2.out
          clear pk
          unfold GrZ at hown
          go_wp2_with (first
            | (at_builtin; refine wpList_append_own _ rfl _ _ 32 rfl w1.heap.size 61 i0 (.complex .f32 0 0) 1 8 Tryd.underlying32 hi hz0 hz1 hz2 rfl (by decide) _ _ _ rfl (hown.alloc _) ⟨_, 0, none⟩ 1 1 [.complex .f32 re im] rfl rfl ?c1 ?c2 ?c3 ?c4 ?c5 ?_)
            | fail)
          case c1 =>
            intro j u hj
            match j, hj with
            | 0, hj => simp at hj; subst hj; simp [Addr.add]
          case c2 => intro u hu; simp at hu; subst hu; rfl
          case c3 => have := HL.out; unfold maxLen; omega
          case c4 => have := HL.out; omega
          case c5 => have := HB2.out.size; simp; omega
          · intro v' w4 hown' hgrow _
            obtain ⟨g2, b2⟩ := GrZ.next (x := (re, im)) HG2.out HB2.out (Nat.le_refl _) hown' hgrow
            have HG4 := Lib.hid g2
            have HB4 := Lib.hid b2
            have HL4 : Hid ((ys ++ [(re, im)]).length = k + 1) := Lib.hid (by simp [HL.out])
            clear g2 b2 hown hown' hgrow
            go_wp2
            go_roundw
            case rel => exact ⟨k + 1, _, by omega, by go_num, HG4, HY2, HA2, HL4, HB4⟩
            case measure => simp [intOf]; omega
      · have hkk : k = n := by omega
        subst hkk
        have hA : zliA s (nmP s).length = true := by
          have := HA.out
          rwa [HEN.out] at this
        have HN := Lib.hid (zli_good H0.out HF.out hA)
        have HYL : Hid (ys = zliL s) := Lib.hid (by rw [HN.out.2, HY.out, HEN.out])
        obtain ⟨A', cap', b', rfl, ho⟩ := HG.out.own
        have HO := Lib.hid ho
        clear hA ho
        go_wp2
        go_ret2
        refine ⟨A', cap', b', by rw [HN.out.1, ← HYL.out]; rfl, ?_, below_of HB1.out HB1.out.size HBR.out⟩
        rw [← HYL.out]
        exact HO.out.imp id (fun ⟨x, y, z⟩ => ⟨x, Nat.le_trans HB1.out.size y, z⟩)
  · have hn2 := h2 (by omega)
    have HN := Lib.hid (zli_many H0.out (by omega))
    have hnn : (256 : Int) < (n : Int) := by omega
    clear h1 h2 hf h3 b1
    go_wp2
    go_ret2
    exact ⟨none, 0, 0, by rw [HN.out.1, HN.out.2]; rfl, .inl HN.out.2, HB1.out⟩
set_option maxHeartbeats 1000000 in
theorem i_ReadComplex (s : ByteArray) (w : World) (hs : s.size ≤ 1048576) (hE : EV w) (hT : T64 w) (hM : ML w) :
    Calls Tryd.prog 16 #[.string s] w fun e w' => ∃ R1 c1 g1, e = .returned (.tuple #[.slice R1 (zliL s).length c1, .bool (zliO s)]) ∧ OwnOZ w' w.heap.size R1 g1 (zliL s) ∧ Below w.heap.size w w' := by
  have HC := Lib.hid (i_splitCx s w hs hE hT hM)
  clear hs hE hT hM
  go_enter Tryd.func16, Tryd.ntmps16
  go_wp2_with fail
  refine HC.out.mono ?_
  rintro e w1 ⟨R1, c1, g1, rfl, ho, b1⟩
  have HO := Lib.hid ho
  clear ho
  go_wp2
  go_ret2
  exact ⟨R1, c1, g1, rfl, HO.out, b1⟩
end Go.Proofs.YtknabmknboffgaaDoor
