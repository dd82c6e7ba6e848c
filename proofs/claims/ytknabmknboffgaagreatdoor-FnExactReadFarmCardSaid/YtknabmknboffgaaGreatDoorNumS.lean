/- A list of numbers out of a text: the specification. No statement is proved here. -/
import Derived.Test.YtknabmknboffgaaGreatDoorSplT
import Derived.Test.YtknabmknboffgaaGreatDoorCutS
import Derived.Maps.AppendAt
namespace Go.Proofs.YtknabmknboffgaaGreatDoor
open Go Go.RowKit
theorem s_l01From (n : Nat) (w : World) (hn : n < 4294967296) :
    Calls Tryz.prog 81 #[.int .i64 (n : Int)] w fun e w' => e = .returned (.float .f32 n) ∧ w' = w := by
  have hv : IntKind.u32.wrap (n : Int) = n := by rw [IntKind.wrap_u32]; omega
  go_enter Tryz.func81, Tryz.ntmps81
  go_wp2
  go_ret
  exact ⟨rfl, rfl⟩
/-- the digits so far -/
def HxI (p : ByteArray) (k nv : Nat) : Prop := isHex (p.data.toList.take k) = true ∧ nv = hxv (p.data.toList.take k)
theorem HxI.zero (p : ByteArray) : HxI p 0 0 := ⟨rfl, rfl⟩
theorem HxI.step {p : ByteArray} {k nv d : Nat} (h : HxI p k nv) (hk : k < p.size) (hd : hxd p[k] = d) (hd16 : d < 16) : HxI p (k + 1) (16 * nv + d) := by
  have hk' : k < p.data.toList.length := by rwa [Lib.size_eq] at hk
  have hg : p.data.toList.getD k 0 = p[k] := get_list p k hk
  refine ⟨?_, ?_⟩
  · rw [List.take_succ_eq_append_getElem hk', isHex_snoc, h.1]
    have : p.data.toList[k] = p[k] := by rw [← hg, List.getD_eq_getElem?_getD, List.getElem?_eq_getElem hk']; rfl
    rw [this, hd, decide_eq_true hd16]
    rfl
  · rw [hxv_take hk', hg, hd, ← h.2]
theorem HxI.lt {p : ByteArray} {k nv : Nat} (h : HxI p k nv) (hk : k ≤ p.size) : nv < 16 ^ k := by
  rw [h.2]
  refine hxv_lt k _ ?_ h.1
  have e := Lib.size_eq p
  rw [List.length_take]
  omega
theorem HxI.lt7 {p : ByteArray} {k nv : Nat} (h : HxI p k nv) (hk : k ≤ p.size) (h8 : k < 8) : nv < 268435456 := by
  have h1 := h.lt hk
  have h2 : (16 : Nat) ^ k ≤ 16 ^ 7 := Nat.pow_le_pow_right (by decide) (by omega)
  have e : (16 : Nat) ^ 7 = 268435456 := by decide
  omega
theorem HxI.done {p : ByteArray} {nv : Nat} (h : HxI p 8 nv) (h8 : p.size = 8) : eightH p.data.toList = true ∧ nv = hxv p.data.toList := by
  have e : p.data.toList.take 8 = p.data.toList := by
    rw [Lib.size_eq] at h8
    rw [← h8, List.take_length]
  obtain ⟨h1, h2⟩ := h
  rw [e] at h1 h2
  refine ⟨?_, h2⟩
  unfold eightH
  rw [h1, decide_eq_true (by rw [← Lib.size_eq]; exact h8)]
  rfl
theorem hx_badC {p : ByteArray} {k : Nat} (hk : k < p.size) (h : hxd p[k] = 16) : rdB p.data.toList = false := by
  refine rdB_bad (eight_bad (k := k) (by rwa [Lib.size_eq] at hk) ?_)
  rw [get_list p k hk, h]
  exact Nat.le_refl _
theorem hx_bad8 {p : ByteArray} (h : p.size ≠ 8) : rdB p.data.toList = false := by
  refine rdB_bad ?_
  unfold eightH
  rw [decide_eq_false (by rw [← Lib.size_eq]; exact h)]
  rfl
theorem rdB_good {l : List UInt8} (h : eightH l = true) : rdB l = decide (canon .f32 (hxv l) = hxv l) := by unfold rdB; rw [h, Bool.true_and]
set_option maxHeartbeats 8000000 in
set_option maxRecDepth 100000 in
theorem s_l01NRead (s : ByteArray) (w : World) (hs : s.size ≤ 1048576) :
    Calls Tryz.prog 50 #[.string s] w fun e w' => ∃ R1 c1 g1, e = .returned (.tuple #[.slice R1 (nmL s).length c1, .bool (nmO s)]) ∧ OwnO w' w.heap.size R1 g1 (nmL s) ∧ Below w.heap.size w w' := by
  have HB0 : Hid (Below w.heap.size w (w.alloc (.cells #[] 22))) := Lib.hid ((Below.refl _ _).alloc (Nat.le_refl _) _)
  by_cases h0 : s = noneS
  · subst h0
    rw [nm_none.1, nm_none.2]
    unfold noneS
    clear hs
    go_enter Tryz.func50, Tryz.ntmps50
    go_wp2
    go_ret2
    exact ⟨_, _, 0, rfl, .inl rfl, HB0.out⟩
  have hne : (s.toList == ([110, 111, 110, 101] : List UInt8)) = false := none_ne h0
  have H0 := Lib.hid h0
  have HSZ := Lib.hid hs
  have HST : Hid (Gr (w.alloc (.cells #[] 22)) w.heap.size (.slice (some ⟨w.heap.size, 0, none⟩) 0 0) []) := Lib.hid (Gr.made w w.heap.size 0 #[] (Nat.le_refl _) (Nat.zero_le _) rfl)
  obtain ⟨w0, hw0⟩ : ∃ z, z = w.alloc (.cells #[] 22) := ⟨_, rfl⟩
  rw [← hw0] at HST HB0
  have HW0 : Hid (w0.heap.size = w.heap.size + 1) := Lib.hid (by rw [hw0]; simp)
  have HCUT := Lib.hid (s_l01Cut 44 s w0 hs)
  clear h0 hs
  obtain ⟨i0, hi, hz0, hz1, hz2⟩ := info_parts f32_info
  go_enter Tryz.func50, Tryz.ntmps50
  go_upto_region 4 with fail
  rw [← hw0]
  clear hw0
  go_wp2_with fail
  refine HCUT.out.mono ?_
  rintro e w1 ⟨v, rfl, hg, b1⟩
  have HB1 := Lib.hid b1
  obtain ⟨pb, pc, rfl, hlo, hlt1, -, -, hcell⟩ := hg.own (by intro e; have := cutS_pos 44 s; rw [e] at this; simp at this)
  have HC : Hid (∀ k, k < (nmP s).length → w1.cell? ⟨pb, k, none⟩ = some (.string (partS s k))) := Lib.hid (fun k hk => by
    have := hcell k _ (cutS_at hk)
    rwa [Nat.zero_add] at this)
  have HLN : Hid ((cutS 44 s).length = (nmP s).length) := Lib.hid (cutS_len s)
  have hle : (nmP s).length ≤ 1048577 := by have := cutS_le 44 s; rw [cutS_len] at this; have := HSZ.out; omega
  rw [HLN.out]
  have HST1 := Lib.hid (HST.out.below b1)
  have BW1 : Hid (Below w.heap.size w w1) := Lib.hid (below_of HB0.out HB0.out.size b1)
  clear hne HCUT hg hcell b1 HB0 HST
  have HLT := Lib.hid hlt1
  have HNB1 : Hid ((Value.slice (some ⟨w.heap.size, 0, none⟩) 0 0).ownBlock ≠ some pb) := Lib.hid (by intro e; simp [Value.ownBlock] at e; have := HW0.out; omega)
  clear hlt1 hlo
  by_cases hf : (nmP s).length ≤ 256
  · have HF := Lib.hid hf
    obtain ⟨n, hn⟩ : ∃ n, n = (nmP s).length := ⟨_, rfl⟩
    rw [← hn]
    have hn256 : n ≤ 256 := by omega
    have HEN := Lib.hid hn
    have HCN : Hid (∀ j, j < n → w1.cell? ⟨pb, j, none⟩ = some (.string (partS s j))) := Lib.hid (fun j hj => HC.out j (by omega))
    clear hf hn hle
    go_wp2
    go_loopw [4, 6] (fun v i wr => ∃ (k : Nat) (ys : List Nat), k ≤ n ∧ i = .int .i64 k ∧ Hid (Gr wr w.heap.size v ys) ∧ Hid (ys = ((nmP s).take k).map hxv) ∧ Hid (((nmP s).take k).all rdB = true) ∧ Hid (ys.length = k) ∧ Hid (Below w.heap.size w wr) ∧ Hid (∀ j, j < n → wr.cell? ⟨pb, j, none⟩ = some (.string (partS s j))) ∧ Hid (v.ownBlock ≠ some pb) ∧ Hid (pb < wr.heap.size)) (fun _ i _ => n - (intOf i).toNat)
    case atStart => exact ⟨0, [], Nat.zero_le _, rfl, HST1, Lib.hid rfl, Lib.hid rfl, Lib.hid rfl, BW1, HCN, HNB1, HLT⟩
    case round =>
      obtain ⟨k, ys, hk, rfl, HG, HY, HA, HL, BWr, HCR, HNB, HPB⟩ := hrel
      by_cases hlt : k < n
      · have hkP : k < (nmP s).length := by have := HEN.out; omega
        have HKP := Lib.hid hkP
        have hc := HCR.out k hlt
        have HPL : Hid ((partS s k).data.toList = (nmP s).getD k []) := Lib.hid (partS_list s k)
        have HNO : Hid (rdB (partS s k).data.toList = false → nmO s = false ∧ nmL s = []) := Lib.hid (fun h => nm_bad H0.out (all_no hkP (by rw [← partS_list]; exact h)))
        clear hkP
        generalize partS s k = p at hc HPL HNO
        by_cases h8 : p.size = 8
        · have H8 := Lib.hid h8
          have h8i : (p.size : Int) = 8 := by omega
          clear h8
          go_wp2
          clear h8i
          go_loopw [7, 8] (fun a b wq => ∃ (j : Nat) (av : Int), j ≤ 8 ∧ a = .int .i64 av ∧ b = .int .i64 j ∧ Hid (∃ nv : Nat, av = nv ∧ HxI p j nv) ∧ wr = wq) (fun _ b _ => 8 - (intOf b).toNat)
          case atStart => exact ⟨0, 0, by omega, rfl, rfl, Lib.hid ⟨0, rfl, HxI.zero p⟩, rfl⟩
          case round =>
            obtain ⟨j, av, hj, rfl, rfl, HXV, rfl⟩ := hrel
            obtain ⟨nv, hav, hx⟩ := HXV.out
            have HX := Lib.hid hx
            have HAV := Lib.hid hav
            clear HXV hx hav
            by_cases hj8 : j < 8
            · have hjp : j < p.size := by have := H8.out; omega
              have hnv : av < 268435456 := by have := HX.out.lt7 (by have := H8.out; omega) hj8; have := HAV.out; omega
              have hnv0 : 0 ≤ av := by have := HAV.out; omega
              have hc0 : (0 : Int) ≤ (p[j].toNat : Int) := by omega
              have hc255 : (p[j].toNat : Int) ≤ 255 := by have := p[j].toNat_lt; omega
              by_cases hd : 48 ≤ p[j].toNat ∧ p[j].toNat ≤ 57
              · have HN : Hid (∃ nw : Nat, 16 * av + ((p[j].toNat : Int) - 48) = nw ∧ HxI p (j + 1) nw) := Lib.hid ⟨_, by have := HAV.out; omega, HX.out.step hjp (hxd_dig hd) (by omega)⟩
                obtain ⟨hd0, hd1⟩ := hd
                have hd0' : (48 : Int) ≤ (p[j].toNat : Int) := by omega
                have hd1' : (p[j].toNat : Int) ≤ 57 := by omega
                have hd2' : ¬ (97 : Int) ≤ (p[j].toNat : Int) := by omega
                go_wp2
                go_roundw
                case rel => exact ⟨j + 1, _, by omega, rfl, by go_num, HN, by first | rfl | trivial⟩
                case measure => simp [intOf]; omega
              · by_cases hl : 97 ≤ p[j].toNat ∧ p[j].toNat ≤ 102
                · have HN : Hid (∃ nw : Nat, 16 * av + ((p[j].toNat : Int) - 97 + 10) = nw ∧ HxI p (j + 1) nw) := Lib.hid ⟨_, by have := HAV.out; omega, HX.out.step hjp (hxd_let hl) (by omega)⟩
                  obtain ⟨hl0, hl1⟩ := hl
                  have hl0' : (97 : Int) ≤ (p[j].toNat : Int) := by omega
                  have hl1' : (p[j].toNat : Int) ≤ 102 := by omega
                  have hl2' : ¬ (p[j].toNat : Int) ≤ 57 := by omega
                  go_wp2
                  go_roundw
                  case rel => exact ⟨j + 1, _, by omega, rfl, by go_num, HN, by first | rfl | trivial⟩
                  case measure => simp [intOf]; omega
                · have HN := Lib.hid (HNO.out (hx_badC hjp (hxd_no hd hl)))
                  by_cases e1 : p[j].toNat < 48
                  · have f1 : ¬ (48 : Int) ≤ (p[j].toNat : Int) := by omega
                    have f2 : ¬ (97 : Int) ≤ (p[j].toNat : Int) := by omega
                    go_wp2
                    go_ret2
                    first | exact ⟨none, 0, 0, by rw [HN.out.1, HN.out.2]; rfl, .inl HN.out.2, BWr.out⟩ | exact ⟨none, ⟨0, by rw [HN.out.1, HN.out.2]; rfl⟩, ⟨0, .inl HN.out.2⟩, BWr.out⟩
                  · by_cases e2 : p[j].toNat < 97
                    · have f1 : ¬ (p[j].toNat : Int) ≤ 57 := by omega
                      have f2 : ¬ (97 : Int) ≤ (p[j].toNat : Int) := by omega
                      go_wp2
                      go_ret2
                      first | exact ⟨none, 0, 0, by rw [HN.out.1, HN.out.2]; rfl, .inl HN.out.2, BWr.out⟩ | exact ⟨none, ⟨0, by rw [HN.out.1, HN.out.2]; rfl⟩, ⟨0, .inl HN.out.2⟩, BWr.out⟩
                    · have f1 : ¬ (p[j].toNat : Int) ≤ 57 := by omega
                      have f2 : ¬ (p[j].toNat : Int) ≤ 102 := by omega
                      go_wp2
                      go_ret2
                      first | exact ⟨none, 0, 0, by rw [HN.out.1, HN.out.2]; rfl, .inl HN.out.2, BWr.out⟩ | exact ⟨none, ⟨0, by rw [HN.out.1, HN.out.2]; rfl⟩, ⟨0, .inl HN.out.2⟩, BWr.out⟩
            · have hj88 : j = 8 := by omega
              subst hj88
              have hav := HAV.out
              subst hav
              obtain ⟨g1, g2⟩ := HX.out.done H8.out
              have hlt32 := eightH_lt g1
              rw [← g2] at hlt32
              have HLT32 := Lib.hid hlt32
              have hrd := rdB_good g1
              rw [← g2] at hrd
              have HRD := Lib.hid hrd
              have HG2V := Lib.hid g2
              clear g1 g2 hrd hlt32
              go_wp2_with fail
              refine (s_l01From nv _ HLT32.out).mono ?_
              rintro e wf ⟨rfl, hwf⟩
              obtain rfl : wr = wf := hwf.symm
              go_wp2_with fail
              refine (l01Bits_any nv _ (canon_lt32 HLT32.out)).mono ?_
              rintro e wf ⟨rfl, hwf⟩
              obtain rfl : wr = wf := hwf.symm
              by_cases hcn : canon .f32 nv = nv
              · have hpk : rdB ((nmP s).getD k []) = true := by rw [← HPL.out, HRD.out, decide_eq_true hcn]
                have HA2 : Hid (((nmP s).take (k + 1)).all rdB = true) := Lib.hid (by rw [take_next HKP.out, List.all_append, HA.out, List.all_cons, List.all_nil, hpk]; rfl)
                have HY2 : Hid (ys ++ [nv] = ((nmP s).take (k + 1)).map hxv) := Lib.hid (by rw [take_next HKP.out, List.map_append, ← HY.out, HG2V.out, HPL.out]; rfl)
                have HG2 := HG
                clear hpk
                rw [hcn]
                clear hcn
                have hown := HG2.out
                unfold Gr at hown
                go_wp2_with (first
                  | (at_builtin; refine wpList_append_own_at _ rfl _ _ 31 rfl w.heap.size 22 i0 (.float .f32 0) 1 4 Tryz.underlying31 hi hz0 hz1 hz2 rfl (by decide) _ _ _ rfl (hown.alloc _) ⟨_, 0, none⟩ 1 1 [.float .f32 nv] rfl rfl ?c1 ?c2 ?c3 ?c4 ?c5 ?_)
                  | fail)
                case c1 =>
                  intro j u hj
                  match j, hj with
                  | 0, hj => simp at hj; subst hj; simp [Addr.add]
                case c2 => intro u hu; simp at hu; subst hu; rfl
                case c3 => have := HL.out; unfold maxLen; omega
                case c4 => have := HL.out; omega
                case c5 => have := BWr.out.size; simp; omega
                · intro v' w4 hown' hgrow _ hat
                  obtain ⟨g2, b2⟩ := Gr.next HG2.out BWr.out (Nat.le_refl _) hown' hgrow
                  have HG4 := Lib.hid g2
                  have HB4 : Hid (Below w.heap.size w w4) := Lib.hid b2
                  have HC4 : Hid (∀ j, j < n → w4.cell? ⟨pb, j, none⟩ = some (.string (partS s j))) := Lib.hid (fun j hj => by
                    have hpb := HPB.out
                    have hb := hgrow.block pb (by simp; omega) (fun e => HNB.out e.symm)
                    rw [World.cell?_of_block (w := _) hb, ((Below.refl wr.heap.size wr).alloc (Nat.le_refl _) _).cell (p := ⟨pb, j, none⟩) hpb]
                    exact HCR.out j hj)
                  have HNB4 : Hid (v'.ownBlock ≠ some pb) := Lib.hid (by
                    have hpb := HPB.out
                    rcases hat with e | e
                    · rw [e]; exact HNB.out
                    · rw [e]; intro e2; simp at e2; omega)
                  have HPB4 : Hid (pb < w4.heap.size) := Lib.hid (by have := HPB.out; have := hgrow.size; simp at this; omega)
                  have HL4 : Hid ((ys ++ [nv]).length = k + 1) := Lib.hid (by simp [HL.out])
                  clear g2 b2 hown hown' hgrow hat
                  go_wp2
                  go_roundw
                  case rel => exact ⟨k + 1, _, by omega, by go_num, HG4, HY2, HA2, HL4, HB4, HC4, HNB4, HPB4⟩
                  case measure => simp [intOf]; omega
              · have HN := Lib.hid (HNO.out (by rw [HRD.out, decide_eq_false hcn]))
                have hcn' : ¬ ((canon .f32 nv : Nat) : Int) = (nv : Int) := by omega
                go_wp2
                go_ret2
                first | exact ⟨none, 0, 0, by rw [HN.out.1, HN.out.2]; rfl, .inl HN.out.2, BWr.out⟩ | exact ⟨none, ⟨0, by rw [HN.out.1, HN.out.2]; rfl⟩, ⟨0, .inl HN.out.2⟩, BWr.out⟩
        · have HN := Lib.hid (HNO.out (hx_bad8 h8))
          have h8' : ¬ ((p.size : Int) = 8) := by omega
          go_wp2
          go_ret2
          first | exact ⟨none, 0, 0, by rw [HN.out.1, HN.out.2]; rfl, .inl HN.out.2, BWr.out⟩ | exact ⟨none, ⟨0, by rw [HN.out.1, HN.out.2]; rfl⟩, ⟨0, .inl HN.out.2⟩, BWr.out⟩
      · have hkk : k = n := by omega
        subst hkk
        have hA : (nmP s).all rdB = true := by
          have := HA.out
          rwa [HEN.out, List.take_length] at this
        have HN := Lib.hid (nm_good H0.out HF.out hA)
        have HYL : Hid (ys = nmL s) := Lib.hid (by rw [HN.out.2, HY.out, HEN.out, List.take_length])
        obtain ⟨A', cap', b', rfl, ho⟩ := HG.out.own
        have HO := Lib.hid ho
        clear hA ho
        go_wp2
        go_ret2
        refine ⟨A', cap', b', by rw [HN.out.1, ← HYL.out]; rfl, ?_, BWr.out⟩
        rw [← HYL.out]
        exact HO.out
  · have HN := Lib.hid (nm_many H0.out (by omega))
    generalize (nmP s).length = n at hf hle
    have hnn : (256 : Int) < (n : Int) := by omega
    go_wp2
    go_ret2
    exact ⟨none, 0, 0, by rw [HN.out.1, HN.out.2]; rfl, .inl HN.out.2, BW1.out⟩
end Go.Proofs.YtknabmknboffgaaGreatDoor
