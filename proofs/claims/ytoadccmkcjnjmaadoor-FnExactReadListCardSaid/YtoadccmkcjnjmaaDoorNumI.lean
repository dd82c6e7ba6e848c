/- A list of whole numbers out of a text: the specification. No statement is proved here. -/
import Derived.Test.YtoadccmkcjnjmaaDoorSplI
import Derived.Test.YtoadccmkcjnjmaaDoorCutS
import Derived.Maps.AppendAt
namespace Go.Proofs.YtoadccmkcjnjmaaDoor
open Go Go.RowKit
set_option maxHeartbeats 8000000 in
set_option maxRecDepth 100000 in
theorem s_l01Numbers (s : ByteArray) (w : World) (hs : s.size ≤ 1048576) :
    Calls Tryd.prog 42 #[.string s] w fun e w' => ∃ R1 c1 g1, e = .returned (.tuple #[.slice R1 (liL s).length c1, .bool (liO s)]) ∧ OwnOI w' w.heap.size R1 g1 (liL s) ∧ Below w.heap.size w w' := by
  have HB0 : Hid (Below w.heap.size w (w.alloc (.cells #[] 2))) := Lib.hid ((Below.refl _ _).alloc (Nat.le_refl _) _)
  by_cases h0 : s = noneS
  · subst h0
    rw [li_none.1, li_none.2]
    unfold noneS
    clear hs
    go_enter Tryd.func42, Tryd.ntmps42
    go_wp2
    go_ret2
    exact ⟨_, _, 0, rfl, .inl rfl, HB0.out⟩
  have hne : (s.toList == ([110, 111, 110, 101] : List UInt8)) = false := none_ne h0
  have H0 := Lib.hid h0
  have HSZ := Lib.hid hs
  have HST : Hid (GrI (w.alloc (.cells #[] 2)) w.heap.size (.slice (some ⟨w.heap.size, 0, none⟩) 0 0) []) := Lib.hid (GrI.made w w.heap.size 0 #[] (Nat.le_refl _) (Nat.zero_le _) rfl)
  obtain ⟨w0, hw0⟩ : ∃ z, z = w.alloc (.cells #[] 2) := ⟨_, rfl⟩
  rw [← hw0] at HST HB0
  have HW0 : Hid (w0.heap.size = w.heap.size + 1) := Lib.hid (by rw [hw0]; simp)
  have HCUT := Lib.hid (s_l01Cut 44 s w0 hs)
  clear h0 hs
  obtain ⟨i0, hi, hz0, hz1, hz2⟩ := info_parts i64_info
  go_enter Tryd.func42, Tryd.ntmps42
  go_upto_region 4 with fail
  rw [← hw0]
  clear hw0
  go_wp2_with fail
  refine HCUT.out.mono ?_
  rintro e w1 ⟨v, rfl, hg, b1⟩
  have HB1 := Lib.hid b1
  obtain ⟨pb, pc, rfl, hlo, hlt1, -, -, hcell⟩ := hg.own (by intro e; have := cutS_pos 44 s; rw [e] at this; simp at this)
  have HC : Hid (∀ k, k < (nmP s).length → w1.cell? ⟨pb, k, none⟩ = some (.string (partS s k))) := Lib.hid (fun k hk => by
    have := hcell k _ (cutS_at hk)
    rwa [Nat.zero_add] at this)
  have HLN : Hid ((cutS 44 s).length = (nmP s).length) := Lib.hid (cutS_len s)
  have hle : (nmP s).length ≤ 1048577 := by have := cutS_le 44 s; rw [cutS_len] at this; have := HSZ.out; omega
  rw [HLN.out]
  have HST1 := Lib.hid (HST.out.below b1)
  have BW1 : Hid (Below w.heap.size w w1) := Lib.hid (below_of HB0.out HB0.out.size b1)
  clear hne HCUT hg hcell b1 HB0 HST
  have HLT := Lib.hid hlt1
  have HNB1 : Hid ((Value.slice (some ⟨w.heap.size, 0, none⟩) 0 0).ownBlock ≠ some pb) := Lib.hid (by intro e; simp [Value.ownBlock] at e; have := HW0.out; omega)
  clear hlt1 hlo
  by_cases hf : (nmP s).length ≤ 64
  · have HF := Lib.hid hf
    obtain ⟨n, hn⟩ : ∃ n, n = (nmP s).length := ⟨_, rfl⟩
    rw [← hn]
    have hn64 : n ≤ 64 := by omega
    have HEN := Lib.hid hn
    have HCN : Hid (∀ j, j < n → w1.cell? ⟨pb, j, none⟩ = some (.string (partS s j))) := Lib.hid (fun j hj => HC.out j (by omega))
    clear hf hn hle
    go_wp2
    go_loopw [4, 6] (fun v i wr => ∃ (k : Nat) (ys : List Int), k ≤ n ∧ i = .int .i64 k ∧ Hid (GrI wr w.heap.size v ys) ∧ Hid (ys = liV s k) ∧ Hid (liA s k = true) ∧ Hid (ys.length = k) ∧ Hid (Below w.heap.size w wr) ∧ Hid (∀ j, j < n → wr.cell? ⟨pb, j, none⟩ = some (.string (partS s j))) ∧ Hid (v.ownBlock ≠ some pb) ∧ Hid (pb < wr.heap.size)) (fun _ i _ => n - (intOf i).toNat)
    case atStart => exact ⟨0, [], Nat.zero_le _, rfl, HST1, Lib.hid rfl, Lib.hid rfl, Lib.hid rfl, BW1, HCN, HNB1, HLT⟩
    case round =>
      obtain ⟨k, ys, hk, rfl, HG, HY, HA, HL, BWr, HCR, HNB, HPB⟩ := hrel
      by_cases hlt : k < n
      · have hkP : k < (nmP s).length := by have := HEN.out; omega
        have HKP := Lib.hid hkP
        have hc := HCR.out k hlt
        have HNO : Hid (vlO (partS s k) = false → liO s = false ∧ liL s = []) := Lib.hid (fun h => li_bad H0.out hkP h)
        clear hkP
        obtain ⟨p, hp⟩ : ∃ p, p = partS s k := ⟨_, rfl⟩
        rw [← hp] at hc HNO
        have HPE := Lib.hid hp
        clear hp
        go_wp2_with fail
        refine (s_l01Value p _).mono ?_
        rintro e w2 ⟨rfl, b2⟩
        have HG2 := Lib.hid (HG.out.below b2)
        have BW2 : Hid (Below w.heap.size w w2) := Lib.hid (below_of BWr.out BWr.out.size b2)
        have HCR2 : Hid (∀ j, j < n → w2.cell? ⟨pb, j, none⟩ = some (.string (partS s j))) := Lib.hid (fun j hj => by rw [b2.cell (p := ⟨pb, j, none⟩) HPB.out]; exact HCR.out j hj)
        have HPB2 : Hid (pb < w2.heap.size) := Lib.hid (by have := HPB.out; have := b2.size; omega)
        clear b2 hc
        cases pk : vlO p
        · have HN := Lib.hid (HNO.out pk)
          clear pk
          go_wp2
          go_ret2
          exact ⟨none, 0, 0, by rw [HN.out.1, HN.out.2]; rfl, .inl HN.out.2, BW2.out⟩
        · have HA2 : Hid (liA s (k + 1) = true) := Lib.hid (by simp only [liA, HA.out, ← HPE.out, pk, Bool.and_self])
          have HY2 : Hid (ys ++ [vlR p] = liV s (k + 1)) := Lib.hid (by rw [HY.out, HPE.out]; exact liV_next s k)
          generalize vlR p = r at HY2
          clear pk
          have hown := HG2.out
          unfold GrI at hown
          go_wp2_with (first
            | (at_builtin; refine wpList_append_own_at _ rfl _ _ 25 rfl w.heap.size 2 i0 (.int .i64 0) 1 8 Tryd.underlying25 hi hz0 hz1 hz2 rfl (by decide) _ _ _ rfl (hown.alloc _) ⟨_, 0, none⟩ 1 1 [.int .i64 r] rfl rfl ?c1 ?c2 ?c3 ?c4 ?c5 ?_)
            | fail)
          case c1 =>
            intro j u hj
            match j, hj with
            | 0, hj => simp at hj; subst hj; simp [Addr.add]
          case c2 => intro u hu; simp at hu; subst hu; rfl
          case c3 => have := HL.out; unfold maxLen; omega
          case c4 => have := HL.out; omega
          case c5 => have := BW2.out.size; simp; omega
          · intro v' w4 hown' hgrow _ hat
            obtain ⟨g2, b2⟩ := GrI.next HG2.out BW2.out (Nat.le_refl _) hown' hgrow
            have HG4 := Lib.hid g2
            have HB4 : Hid (Below w.heap.size w w4) := Lib.hid b2
            have HC4 : Hid (∀ j, j < n → w4.cell? ⟨pb, j, none⟩ = some (.string (partS s j))) := Lib.hid (fun j hj => by
              have hpb := HPB2.out
              have hb := hgrow.block pb (by simp; omega) (fun e => HNB.out e.symm)
              rw [World.cell?_of_block (w := _) hb, ((Below.refl w2.heap.size w2).alloc (Nat.le_refl _) _).cell (p := ⟨pb, j, none⟩) hpb]
              exact HCR2.out j hj)
            have HNB4 : Hid (v'.ownBlock ≠ some pb) := Lib.hid (by
              have hpb := HPB2.out
              rcases hat with e | e
              · rw [e]; exact HNB.out
              · rw [e]; intro e2; simp at e2; omega)
            have HPB4 : Hid (pb < w4.heap.size) := Lib.hid (by have := HPB2.out; have := hgrow.size; simp at this; omega)
            have HL4 : Hid ((ys ++ [r]).length = k + 1) := Lib.hid (by simp [HL.out])
            clear g2 b2 hown hown' hgrow hat
            go_wp2
            go_roundw
            case rel => exact ⟨k + 1, _, by omega, by go_num, HG4, HY2, HA2, HL4, HB4, HC4, HNB4, HPB4⟩
            case measure => simp [intOf]; omega
      · have hkk : k = n := by omega
        subst hkk
        have hA : liA s (nmP s).length = true := by
          have := HA.out
          rwa [HEN.out] at this
        have HN := Lib.hid (li_good H0.out HF.out hA)
        have HYL : Hid (ys = liL s) := Lib.hid (by rw [HN.out.2, HY.out, HEN.out])
        obtain ⟨A', cap', b', rfl, ho⟩ := HG.out.own
        have HO := Lib.hid ho
        clear hA ho
        go_wp2
        go_ret2
        refine ⟨A', cap', b', by rw [HN.out.1, ← HYL.out]; rfl, ?_, BWr.out⟩
        rw [← HYL.out]
        exact HO.out
  · have HN := Lib.hid (li_many H0.out (by omega))
    generalize (nmP s).length = n at hf hle
    have hnn : (64 : Int) < (n : Int) := by omega
    go_wp2
    go_ret2
    exact ⟨none, 0, 0, by rw [HN.out.1, HN.out.2]; rfl, .inl HN.out.2, BW1.out⟩
set_option maxHeartbeats 1000000 in
theorem s_ReadList (s : ByteArray) (w : World) (hs : s.size ≤ 1048576) :
    Calls Tryd.prog 12 #[.string s] w fun e w' => ∃ R1 c1 g1, e = .returned (.tuple #[.slice R1 (liL s).length c1, .bool (liO s)]) ∧ OwnOI w' w.heap.size R1 g1 (liL s) ∧ Below w.heap.size w w' := by
  have HC := Lib.hid (s_l01Numbers s w hs)
  clear hs
  go_enter Tryd.func12, Tryd.ntmps12
  go_wp2_with fail
  refine HC.out.mono ?_
  rintro e w1 ⟨R1, c1, g1, rfl, ho, b1⟩
  have HO := Lib.hid ho
  clear ho
  go_wp2
  go_ret2
  exact ⟨R1, c1, g1, rfl, HO.out, b1⟩
end Go.Proofs.YtoadccmkcjnjmaaDoor
