/- Complex numbers out of a text: the specification. No statement is proved here. -/
import Derived.Test.YtknabmknboffgaaDoorSplZ
import Derived.Test.YtknabmknboffgaaDoorNumS
import Derived.Test.YtknabmknboffgaaDoorCutS
import Derived.Maps.AppendAt
namespace Go.Proofs.YtknabmknboffgaaDoor
open Go Go.RowKit
set_option maxHeartbeats 8000000 in
set_option maxRecDepth 100000 in
theorem s_l01Digits (p : ByteArray) (w : World) (h8 : p.size = 8) :
    Calls Tryd.prog 46 #[.string p] w fun e w' => e = .returned (.tuple #[.float .f32 (rdV p.data.toList), .bool (rdB p.data.toList)]) ∧ w' = w := by
  have H8 := Lib.hid h8
  have h8i : (p.size : Int) = 8 := by omega
  have HNO : Hid (rdB p.data.toList = false → rdV p.data.toList = 0 ∧ rdB p.data.toList = false) := Lib.hid (fun h => ⟨by unfold rdV; rw [h]; rfl, h⟩)
  clear h8
  go_enter Tryd.func46, Tryd.ntmps46
  go_wp2
  go_loopw [4, 5] (fun a b wq => ∃ (j : Nat) (av : Int), j ≤ 8 ∧ a = .int .i64 av ∧ b = .int .i64 j ∧ Hid (∃ nv : Nat, av = nv ∧ HxI p j nv) ∧ w = wq) (fun _ b _ => 8 - (intOf b).toNat)
  case atStart => exact ⟨0, 0, by omega, rfl, rfl, Lib.hid ⟨0, rfl, HxI.zero p⟩, rfl⟩
  case round =>
    obtain ⟨j, av, hj, rfl, rfl, HXV, rfl⟩ := hrel
    obtain ⟨nv, hav, hx⟩ := HXV.out
    have HX := Lib.hid hx
    have HAV := Lib.hid hav
    clear HXV hx hav
    by_cases hj8 : j < 8
    · have hjp : j < p.size := by have := H8.out; omega
      have hnv : av < 268435456 := by have := HX.out.lt7 (by have := H8.out; omega) hj8; have := HAV.out; omega
      have hnv0 : 0 ≤ av := by have := HAV.out; omega
      have hc0 : (0 : Int) ≤ (p[j].toNat : Int) := by omega
      have hc255 : (p[j].toNat : Int) ≤ 255 := by have := p[j].toNat_lt; omega
      by_cases hd : 48 ≤ p[j].toNat ∧ p[j].toNat ≤ 57
      · have HN : Hid (∃ nw : Nat, 16 * av + ((p[j].toNat : Int) - 48) = nw ∧ HxI p (j + 1) nw) := Lib.hid ⟨_, by have := HAV.out; omega, HX.out.step hjp (hxd_dig hd) (by omega)⟩
        obtain ⟨hd0, hd1⟩ := hd
        have hd0' : (48 : Int) ≤ (p[j].toNat : Int) := by omega
        have hd1' : (p[j].toNat : Int) ≤ 57 := by omega
        have hd2' : ¬ (97 : Int) ≤ (p[j].toNat : Int) := by omega
        go_wp2
        go_roundw
        case rel => exact ⟨j + 1, _, by omega, rfl, by go_num, HN, by first | rfl | trivial⟩
        case measure => simp [intOf]; omega
      · by_cases hl : 97 ≤ p[j].toNat ∧ p[j].toNat ≤ 102
        · have HN : Hid (∃ nw : Nat, 16 * av + ((p[j].toNat : Int) - 97 + 10) = nw ∧ HxI p (j + 1) nw) := Lib.hid ⟨_, by have := HAV.out; omega, HX.out.step hjp (hxd_let hl) (by omega)⟩
          obtain ⟨hl0, hl1⟩ := hl
          have hl0' : (97 : Int) ≤ (p[j].toNat : Int) := by omega
          have hl1' : (p[j].toNat : Int) ≤ 102 := by omega
          have hl2' : ¬ (p[j].toNat : Int) ≤ 57 := by omega
          go_wp2
          go_roundw
          case rel => exact ⟨j + 1, _, by omega, rfl, by go_num, HN, by first | rfl | trivial⟩
          case measure => simp [intOf]; omega
        · have HN := Lib.hid (HNO.out (hx_badC hjp (hxd_no hd hl)))
          by_cases e1 : p[j].toNat < 48
          · have f1 : ¬ (48 : Int) ≤ (p[j].toNat : Int) := by omega
            have f2 : ¬ (97 : Int) ≤ (p[j].toNat : Int) := by omega
            go_wp2
            go_ret2
            exact ⟨by rw [HN.out.1, HN.out.2]; rfl, rfl⟩
          · by_cases e2 : p[j].toNat < 97
            · have f1 : ¬ (p[j].toNat : Int) ≤ 57 := by omega
              have f2 : ¬ (97 : Int) ≤ (p[j].toNat : Int) := by omega
              go_wp2
              go_ret2
              exact ⟨by rw [HN.out.1, HN.out.2]; rfl, rfl⟩
            · have f1 : ¬ (p[j].toNat : Int) ≤ 57 := by omega
              have f2 : ¬ (p[j].toNat : Int) ≤ 102 := by omega
              go_wp2
              go_ret2
              exact ⟨by rw [HN.out.1, HN.out.2]; rfl, rfl⟩
    · have hj88 : j = 8 := by omega
      subst hj88
      have hav := HAV.out
      subst hav
      obtain ⟨g1, g2⟩ := HX.out.done H8.out
      have hlt32 := eightH_lt g1
      rw [← g2] at hlt32
      have HLT32 := Lib.hid hlt32
      have hrd := rdB_good g1
      rw [← g2] at hrd
      have HRD := Lib.hid hrd
      have HG2V := Lib.hid g2
      clear g1 g2 hrd hlt32
      go_wp2_with fail
      refine (s_l01From nv _ HLT32.out).mono ?_
      rintro e wf ⟨rfl, hwf⟩
      obtain rfl : w = wf := hwf.symm
      go_wp2_with fail
      refine (l01Bits_any nv _ (canon_lt32 HLT32.out)).mono ?_
      rintro e wf ⟨rfl, hwf⟩
      obtain rfl : w = wf := hwf.symm
      by_cases hcn : canon .f32 nv = nv
      · have hv : rdV p.data.toList = nv ∧ rdB p.data.toList = true := by
          have e := HRD.out
          rw [decide_eq_true hcn] at e
          exact ⟨by unfold rdV; rw [e]; exact HG2V.out.symm, e⟩
        have HVV := Lib.hid hv
        clear hv
        rw [hcn]
        clear hcn
        go_wp2
        go_ret2
        exact ⟨by rw [HVV.out.1, HVV.out.2]; rfl, rfl⟩
      · have HN := Lib.hid (HNO.out (by rw [HRD.out, decide_eq_false hcn]))
        have hcn' : ¬ ((canon .f32 nv : Nat) : Int) = (nv : Int) := by omega
        go_wp2
        go_ret2
        exact ⟨by rw [HN.out.1, HN.out.2]; rfl, rfl⟩
set_option maxHeartbeats 8000000 in
set_option maxRecDepth 100000 in
theorem s_l01CRead (s : ByteArray) (w : World) (hs : s.size ≤ 1048576) :
    Calls Tryd.prog 31 #[.string s] w fun e w' => ∃ R1 c1 g1, e = .returned (.tuple #[.slice R1 (zliL s).length c1, .bool (zliO s)]) ∧ OwnOZ w' w.heap.size R1 g1 (zliL s) ∧ Below w.heap.size w w' := by
  have HB0 : Hid (Below w.heap.size w (w.alloc (.cells #[] 61))) := Lib.hid ((Below.refl _ _).alloc (Nat.le_refl _) _)
  by_cases h0 : s = noneS
  · subst h0
    rw [zli_none.1, zli_none.2]
    unfold noneS
    clear hs
    go_enter Tryd.func31, Tryd.ntmps31
    go_wp2
    go_ret2
    exact ⟨_, _, 0, rfl, .inl rfl, HB0.out⟩
  have hne : (s.toList == ([110, 111, 110, 101] : List UInt8)) = false := none_ne h0
  have H0 := Lib.hid h0
  have HSZ := Lib.hid hs
  have HST : Hid (GrZ (w.alloc (.cells #[] 61)) w.heap.size (.slice (some ⟨w.heap.size, 0, none⟩) 0 0) []) := Lib.hid (GrZ.made w w.heap.size 0 #[] (Nat.le_refl _) (Nat.zero_le _) rfl)
  obtain ⟨w0, hw0⟩ : ∃ z, z = w.alloc (.cells #[] 61) := ⟨_, rfl⟩
  rw [← hw0] at HST HB0
  have HW0 : Hid (w0.heap.size = w.heap.size + 1) := Lib.hid (by rw [hw0]; simp)
  have HCUT := Lib.hid (s_l01Cut 44 s w0 hs)
  clear h0 hs
  obtain ⟨i0, hi, hz0, hz1, hz2⟩ := info_parts c64_info
  go_enter Tryd.func31, Tryd.ntmps31
  go_upto_region 4 with fail
  rw [← hw0]
  clear hw0
  go_wp2_with fail
  refine HCUT.out.mono ?_
  rintro e w1 ⟨v, rfl, hg, b1⟩
  have HB1 := Lib.hid b1
  obtain ⟨pb, pc, rfl, hlo, hlt1, -, -, hcell⟩ := hg.own (by intro e; have := cutS_pos 44 s; rw [e] at this; simp at this)
  have HC : Hid (∀ k, k < (nmP s).length → w1.cell? ⟨pb, k, none⟩ = some (.string (partS s k))) := Lib.hid (fun k hk => by
    have := hcell k _ (cutS_at hk)
    rwa [Nat.zero_add] at this)
  have HLN : Hid ((cutS 44 s).length = (nmP s).length) := Lib.hid (cutS_len s)
  have hle : (nmP s).length ≤ 1048577 := by have := cutS_le 44 s; rw [cutS_len] at this; have := HSZ.out; omega
  rw [HLN.out]
  have HST1 := Lib.hid (HST.out.below b1)
  have BW1 : Hid (Below w.heap.size w w1) := Lib.hid (below_of HB0.out HB0.out.size b1)
  clear hne HCUT hg hcell b1 HB0 HST
  have HLT := Lib.hid hlt1
  have HNB1 : Hid ((Value.slice (some ⟨w.heap.size, 0, none⟩) 0 0).ownBlock ≠ some pb) := Lib.hid (by intro e; simp [Value.ownBlock] at e; have := HW0.out; omega)
  clear hlt1 hlo
  by_cases hf : (nmP s).length ≤ 256
  · have HF := Lib.hid hf
    obtain ⟨n, hn⟩ : ∃ n, n = (nmP s).length := ⟨_, rfl⟩
    rw [← hn]
    have hn256 : n ≤ 256 := by omega
    have HEN := Lib.hid hn
    have HCN : Hid (∀ j, j < n → w1.cell? ⟨pb, j, none⟩ = some (.string (partS s j))) := Lib.hid (fun j hj => HC.out j (by omega))
    clear hf hn hle
    go_wp2
    go_loopw [4, 6] (fun v i wr => ∃ (k : Nat) (ys : List (Nat × Nat)), k ≤ n ∧ i = .int .i64 k ∧ Hid (GrZ wr w.heap.size v ys) ∧ Hid (ys = zliV s k) ∧ Hid (zliA s k = true) ∧ Hid (ys.length = k) ∧ Hid (Below w.heap.size w wr) ∧ Hid (∀ j, j < n → wr.cell? ⟨pb, j, none⟩ = some (.string (partS s j))) ∧ Hid (v.ownBlock ≠ some pb) ∧ Hid (pb < wr.heap.size)) (fun _ i _ => n - (intOf i).toNat)
    case atStart => exact ⟨0, [], Nat.zero_le _, rfl, HST1, Lib.hid rfl, Lib.hid rfl, Lib.hid rfl, BW1, HCN, HNB1, HLT⟩
    case round =>
      obtain ⟨k, ys, hk, rfl, HG, HY, HA, HL, BWr, HCR, HNB, HPB⟩ := hrel
      by_cases hlt : k < n
      · have hkP : k < (nmP s).length := by have := HEN.out; omega
        have HKP := Lib.hid hkP
        have hc := HCR.out k hlt
        have HNO : Hid (cxB (partS s k) = false → zliO s = false ∧ zliL s = []) := Lib.hid (fun h => zli_bad H0.out hkP h)
        clear hkP
        obtain ⟨p, hp⟩ : ∃ p, p = partS s k := ⟨_, rfl⟩
        rw [← hp] at hc HNO
        have HPE := Lib.hid hp
        clear hp
        by_cases h16 : p.size = 16
        · have h16i : (p.size : Int) = 16 := by omega
          have hlo : p.extract 0 8 = loS p := rfl
          have hhi : p.extract 8 p.size = hiS p := rfl
          have h8 : (8 : Int) ≤ (p.size : Int) := by omega
          have HDL := Lib.hid (s_l01Digits (loS p) wr (loS_size h16))
          have HDH := Lib.hid (s_l01Digits (hiS p) wr (hiS_size h16))
          have HCB : Hid (cxB p = (rdB (loS p).data.toList && rdB (hiS p).data.toList)) := Lib.hid (by unfold cxB; rw [decide_eq_true h16, Bool.true_and])
          have HVL : Hid (rdB (loS p).data.toList = true → rdB (hiS p).data.toList = true → rdV (loS p).data.toList = cxA p ∧ rdV (hiS p).data.toList = cxI p) := Lib.hid (fun h1 h2 => by unfold cxA cxI rdV; rw [HCB.out, h1, h2]; exact ⟨rfl, rfl⟩)
          have HG2 := HG
          have BW2 := BWr
          have HCR2 := HCR
          have HPB2 := HPB
          clear h16
          generalize rdB (loS p).data.toList = bl at *
          generalize rdB (hiS p).data.toList = bh at *
          generalize rdV (loS p).data.toList = vl at *
          generalize rdV (hiS p).data.toList = vh at *
          go_wp2_with fail
          refine HDL.out.mono ?_
          rintro e w2 ⟨rfl, hw⟩
          obtain rfl : wr = w2 := hw.symm
          go_wp2_with fail
          refine HDH.out.mono ?_
          rintro e w2 ⟨rfl, hw⟩
          obtain rfl : wr = w2 := hw.symm
          clear HDL HDH hc hlo hhi h8 h16i
          rcases Bool.eq_false_or_eq_true (bl && bh) with pk | pk
          rotate_left
          · have HN := Lib.hid (HNO.out (HCB.out.trans pk))
            clear HCB HVL
            cases bl
            · clear pk
              go_wp2
              go_ret2
              exact ⟨none, 0, 0, by rw [HN.out.1, HN.out.2]; rfl, .inl HN.out.2, BWr.out⟩
            · cases bh
              · clear pk
                go_wp2
                go_ret2
                exact ⟨none, 0, 0, by rw [HN.out.1, HN.out.2]; rfl, .inl HN.out.2, BWr.out⟩
              · cases pk
          · have hcb := HCB.out.trans pk
            rw [Bool.and_eq_true] at pk
            obtain ⟨rfl, rfl⟩ := pk
            obtain ⟨rfl, rfl⟩ := HVL.out rfl rfl
            have HA2 : Hid (zliA s (k + 1) = true) := Lib.hid (by simp only [zliA, HA.out, ← HPE.out, hcb, Bool.and_self])
            have HY2 : Hid (ys ++ [(cxA p, cxI p)] = zliV s (k + 1)) := Lib.hid (by rw [HY.out, HPE.out]; exact zliV_next s k)
            clear hcb HCB HVL
            generalize cxA p = re at HY2 ⊢
            generalize cxI p = im at HY2 ⊢
            have hown := HG2.out
            unfold GrZ at hown
            go_wp2_with (first
              | (at_builtin; refine wpList_append_own_at _ rfl _ _ 32 rfl w.heap.size 61 i0 (.complex .f32 0 0) 1 8 Tryd.underlying32 hi hz0 hz1 hz2 rfl (by decide) _ _ _ rfl (hown.alloc _) ⟨_, 0, none⟩ 1 1 [.complex .f32 re im] rfl rfl ?c1 ?c2 ?c3 ?c4 ?c5 ?_)
              | fail)
            case c1 =>
              intro j u hj
              match j, hj with
              | 0, hj => simp at hj; subst hj; simp [Addr.add]
            case c2 => intro u hu; simp at hu; subst hu; rfl
            case c3 => have := HL.out; unfold maxLen; omega
            case c4 => have := HL.out; omega
            case c5 => have := BW2.out.size; simp; omega
            · intro v' w4 hown' hgrow _ hat
              obtain ⟨g2, b2⟩ := GrZ.next (x := (re, im)) HG2.out BW2.out (Nat.le_refl _) hown' hgrow
              have HG4 := Lib.hid g2
              have HB4 : Hid (Below w.heap.size w w4) := Lib.hid b2
              have HC4 : Hid (∀ j, j < n → w4.cell? ⟨pb, j, none⟩ = some (.string (partS s j))) := Lib.hid (fun j hj => by
                have hpb := HPB2.out
                have hb := hgrow.block pb (by simp; omega) (fun e => HNB.out e.symm)
                rw [World.cell?_of_block (w := _) hb, ((Below.refl wr.heap.size wr).alloc (Nat.le_refl _) _).cell (p := ⟨pb, j, none⟩) hpb]
                exact HCR2.out j hj)
              have HNB4 : Hid (v'.ownBlock ≠ some pb) := Lib.hid (by
                have hpb := HPB2.out
                rcases hat with e | e
                · rw [e]; exact HNB.out
                · rw [e]; intro e2; simp at e2; omega)
              have HPB4 : Hid (pb < w4.heap.size) := Lib.hid (by have := HPB2.out; have := hgrow.size; simp at this; omega)
              have HL4 : Hid ((ys ++ [(re, im)]).length = k + 1) := Lib.hid (by simp [HL.out])
              clear g2 b2 hown hown' hgrow hat
              go_wp2
              go_roundw
              case rel => exact ⟨k + 1, _, by omega, by go_num, HG4, HY2, HA2, HL4, HB4, HC4, HNB4, HPB4⟩
              case measure => simp [intOf]; omega
        · have h16i : ¬ ((p.size : Int) = 16) := by omega
          have pk : cxB p = false := by unfold cxB; rw [decide_eq_false h16]; rfl
          have HN := Lib.hid (HNO.out pk)
          clear pk h16
          go_wp2
          go_ret2
          exact ⟨none, 0, 0, by rw [HN.out.1, HN.out.2]; rfl, .inl HN.out.2, BWr.out⟩
      · have hkk : k = n := by omega
        subst hkk
        have hA : zliA s (nmP s).length = true := by
          have := HA.out
          rwa [HEN.out] at this
        have HN := Lib.hid (zli_good H0.out HF.out hA)
        have HYL : Hid (ys = zliL s) := Lib.hid (by rw [HN.out.2, HY.out, HEN.out])
        obtain ⟨A', cap', b', rfl, ho⟩ := HG.out.own
        have HO := Lib.hid ho
        clear hA ho
        go_wp2
        go_ret2
        refine ⟨A', cap', b', by rw [HN.out.1, ← HYL.out]; rfl, ?_, BWr.out⟩
        rw [← HYL.out]
        exact HO.out
  · have HN := Lib.hid (zli_many H0.out (by omega))
    generalize (nmP s).length = n at hf hle
    have hnn : (256 : Int) < (n : Int) := by omega
    go_wp2
    go_ret2
    exact ⟨none, 0, 0, by rw [HN.out.1, HN.out.2]; rfl, .inl HN.out.2, BW1.out⟩
set_option maxHeartbeats 1000000 in
theorem s_ReadComplex (s : ByteArray) (w : World) (hs : s.size ≤ 1048576) :
    Calls Tryd.prog 15 #[.string s] w fun e w' => ∃ R1 c1 g1, e = .returned (.tuple #[.slice R1 (zliL s).length c1, .bool (zliO s)]) ∧ OwnOZ w' w.heap.size R1 g1 (zliL s) ∧ Below w.heap.size w w' := by
  have HC := Lib.hid (s_l01CRead s w hs)
  clear hs
  go_enter Tryd.func15, Tryd.ntmps15
  go_wp2_with fail
  refine HC.out.mono ?_
  rintro e w1 ⟨R1, c1, g1, rfl, ho, b1⟩
  have HO := Lib.hid ho
  clear ho
  go_wp2
  go_ret2
  exact ⟨R1, c1, g1, rfl, HO.out, b1⟩
end Go.Proofs.YtknabmknboffgaaDoor
