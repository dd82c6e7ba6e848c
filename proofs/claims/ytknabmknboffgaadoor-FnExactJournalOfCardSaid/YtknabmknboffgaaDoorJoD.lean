/- The journal of lines: the document. No statement is proved here. -/
import Derived.Test.YtknabmknboffgaaDoorJoS
import Derived.Test.YtknabmknboffgaaDoorInv4
import Derived.RegionTactic
import Derived.BigRegion
namespace Go.Proofs.YtknabmknboffgaaDoor
open Go Go.RowKit
set_option maxHeartbeats 8000000 in
set_option maxRecDepth 100000 in
theorem s_l08Journal (A : Option Addr) (cap : Nat) (xs : List ByteArray) (w : World) (h : FlS w A xs) (hs : szT xs ≤ 1048576) :
    Calls Tryd.prog 20 #[.slice A xs.length cap] w fun e w' => e = .returned (.string (jT xs xs.length)) ∧ Below w.heap.size w w' := by
  have hn : xs.length ≤ 1048576 := by unfold szT at hs; omega
  have hni : (xs.length : Int) ≤ 1048576 := by omega
  have HX : Hid (∀ k, k < xs.length → (lnK xs k).size ≤ 1048576) := Lib.hid (fun k hk => by
    have h1 := szK_mono xs (k := k + 1) xs.length (by omega)
    have h2 : szK xs (k + 1) = szK xs k + (lnK xs k).size := rfl
    unfold szT at hs
    omega)
  have HG : Hid (∀ k, k ≤ xs.length → (jT xs k).size ≤ 30000000) := Lib.hid (fun k hk => by
    have h1 := szK_mono xs (k := k) xs.length hk
    have h2 := jT_le xs k
    unfold szT at hs
    omega)
  have HF := Lib.hid h
  clear h hs hn
  go_enter Tryd.func20, Tryd.ntmps20
  go_wp2
  go_loopw [3, 4, 5] (fun o c i wr => ∃ k : Nat, k ≤ xs.length ∧ o = .string (jT xs k) ∧ c = .int .i64 (jC xs k) ∧ i = .int .i64 k ∧ Hid (Below w.heap.size w wr)) (fun _ _ i _ => xs.length - (intOf i).toNat)
  case atStart => exact ⟨0, Nat.zero_le _, rfl, rfl, rfl, Lib.hid (Below.refl _ _)⟩
  case round =>
    obtain ⟨k, hk, rfl, rfl, rfl, BW⟩ := hrel
    by_cases hlt : k < xs.length
    · obtain ⟨b, off, rfl, hb, hc0⟩ := HF.out.at_ hlt
      have HCL : Hid (∀ W, Below wr.heap.size wr W → W.cell? ⟨b, off + k, none⟩ = some (.string (lnK xs k))) := Lib.hid (fun W hB => by
        have h1 := below_of BW.out BW.out.size hB
        rw [h1.cell (p := ⟨b, off + k, none⟩) hb]; exact hc0)
      have hc := HCL.out _ (Below.refl _ _)
      have HCK := Lib.hid (s_l01Check (jC xs k) (lnK xs k) wr (by have := HX.out k hlt; omega) (jC_bd xs k).1 (jC_bd xs k).2)
      rw [show chk (jC xs k) (lnK xs k).data.toList = jC xs (k + 1) from rfl] at HCK
      have HT1 : Hid (jT xs (k + 1) = jT xs k ++ (decS (jC xs (k + 1)) ++ ⟨#[32]⟩ ++ lnK xs k ++ ⟨#[10]⟩)) := Lib.hid rfl
      have HDC : Hid (∀ W, Calls Tryd.prog 36 #[.int .i64 (jC xs (k + 1))] W fun e w' => e = .returned (.string (decS (jC xs (k + 1)))) ∧ Below W.heap.size W w') := Lib.hid (fun W => by have := jC_bd xs (k + 1); exact s_l01Dec _ W (by omega) (by omega))
      have zA := HG.out k (by omega)
      have zD := dec_le (jC_bd xs (k + 1))
      have zX := HX.out k hlt
      have HLT := Lib.hid hlt
      clear hb hc0
      generalize jT xs k = TA at HT1 zA
      obtain ⟨c2, hc2⟩ : ∃ c, c = jC xs (k + 1) := ⟨_, rfl⟩
      rw [← hc2] at HCK HT1 HDC zD
      have HC2 := Lib.hid hc2
      clear hc2
      generalize decS c2 = D at HT1 HDC zD
      generalize lnK xs k = x at hc HCL HCK HT1 zX
      generalize jC xs k = c1 at HCK
      go_wp2_with fail
      refine HCK.out.mono ?_
      rintro e w2 ⟨rfl, hw⟩
      obtain rfl : wr = w2 := hw.symm
      clear HCK
      go_wp2_with fail
--REG
      refine wp_region_inv4 (fun iq wv v => match iq with
        | 0 => v = .string TA
        | 1 => v = .int .i64 c2
        | 2 => v = .string D
        | 3 => v = .string (D ++ (⟨#[32]⟩))
        | 4 => v = .slice (some ⟨b, off, none⟩) xs.length cap
        | 5 => v = .int .i64 k
        | 6 => v = .pointer (some ⟨b, off + k, none⟩)
        | 7 => v = .string x
        | 8 => v = .string (((D ++ (⟨#[32]⟩))) ++ x)
        | 9 => v = .string (((((D ++ (⟨#[32]⟩))) ++ x)) ++ (⟨#[10]⟩))
        | 10 => v = .string (TA ++ ((((((D ++ (⟨#[32]⟩))) ++ x)) ++ (⟨#[10]⟩))))
        | 11 => v = .string (TA ++ ((((((D ++ (⟨#[32]⟩))) ++ x)) ++ (⟨#[10]⟩))))
        | _ => False) (fun _ ww => Below wr.heap.size wr ww) (fun w w' => Below w.heap.size w w') ?hmono (by kernel_rfl) (by kernel_rfl) ((Below.refl _ _).drew) ?hop ?hend
      case hmono =>
        intro i wa wb v hR hV
        rcases i with _ | _ | _ | _ | _ | _ | _ | _ | _ | _ | _ | _ | i
        · exact hV
        · exact hV
        · exact hV
        · exact hV
        · exact hV
        · exact hV
        · exact hV
        · exact hV
        · exact hV
        · exact hV
        · exact hV
        · exact hV
        · exact hV
      case hop =>
        intro q o hq listed act w3 hI hnot hcl hall
        have hB := hI.cls
        have hcc := HCL.out _ hB
        rcases q with _ | _ | _ | _ | _ | _ | _ | _ | _ | _ | _ | _ | q
        · simp at hq; subst hq
          have hnl : listed.getD 11 false = false := hcl.not (j := 11) (i := 0) (e := ⟨0, .phase⟩) rfl (by simp) rfl rfl hnot
          have g3 : act.tmps[3]?.getD undef = .string TA := hI.keptN 3 11 (by kernel_rfl) hnl
          clear hI hall hnot hcl
          refine .inl ⟨wanted_none rfl, ?_⟩
          unfold Oper.wp
          go_simp
          all_goals first | exact ⟨_, rfl, Below.refl _ _, rfl, hB⟩ | exact ⟨Below.refl _ _, hB⟩ | exact Below.refl _ _
        · simp at hq; subst hq
          have g4 : act.tmps[4]?.getD undef = .int .i64 c2 := hI.kept 4 (by kernel_rfl)
          clear hI hall hnot hcl
          refine .inl ⟨wanted_none rfl, ?_⟩
          unfold Oper.wp
          go_simp
          all_goals first | exact ⟨_, rfl, Below.refl _ _, rfl, hB⟩ | exact ⟨Below.refl _ _, hB⟩ | exact Below.refl _ _
        · simp at hq; subst hq
          have g19 : act.tmps[19]?.getD undef = .int .i64 c2 := hI.has 1 19 rfl (hall ⟨1, .data⟩ (by simp) rfl)
          clear hI hall hnot hcl
          refine .inl ⟨wanted_none rfl, ?_⟩
          unfold Oper.wp
          go_simp
          refine (HDC.out _).mono ?_
          rintro e w4 ⟨rfl, b4⟩
          exact ⟨_, rfl, b4, rfl, below_of hB hB.size b4⟩
        · simp at hq; subst hq
          have g20 : act.tmps[20]?.getD undef = .string D := hI.has 2 20 rfl (hall ⟨2, .data⟩ (by simp) rfl)
          clear hI hall hnot hcl
          refine .inl ⟨wanted_none rfl, ?_⟩
          unfold Oper.wp
          go_simp
          rw [if_neg (by omega)]
          go_simp
          all_goals first | exact ⟨_, rfl, Below.refl _ _, rfl, hB⟩ | exact ⟨Below.refl _ _, hB⟩ | exact Below.refl _ _
        · simp at hq; subst hq
          have g0 : act.tmps[0]?.getD undef = .slice (some ⟨b, off, none⟩) xs.length cap := hI.kept 0 (by kernel_rfl)
          clear hI hall hnot hcl
          refine .inl ⟨wanted_none rfl, ?_⟩
          unfold Oper.wp
          go_simp
          all_goals first | exact ⟨_, rfl, Below.refl _ _, rfl, hB⟩ | exact ⟨Below.refl _ _, hB⟩ | exact Below.refl _ _
        · simp at hq; subst hq
          have g5 : act.tmps[5]?.getD undef = .int .i64 k := hI.kept 5 (by kernel_rfl)
          clear hI hall hnot hcl
          refine .inl ⟨wanted_none rfl, ?_⟩
          unfold Oper.wp
          go_simp
          all_goals first | exact ⟨_, rfl, Below.refl _ _, rfl, hB⟩ | exact ⟨Below.refl _ _, hB⟩ | exact Below.refl _ _
        · simp at hq; subst hq
          have g22 : act.tmps[22]?.getD undef = .slice (some ⟨b, off, none⟩) xs.length cap := hI.has 4 22 rfl (hall ⟨4, .data⟩ (by simp) rfl)
          have g23 : act.tmps[23]?.getD undef = .int .i64 k := hI.has 5 23 rfl (hall ⟨5, .data⟩ (by simp) rfl)
          clear hI hall hnot hcl
          refine .inl ⟨wanted_none rfl, ?_⟩
          unfold Oper.wp
          go_simp
          all_goals first | exact ⟨_, rfl, Below.refl _ _, rfl, hB⟩ | exact ⟨Below.refl _ _, hB⟩ | exact Below.refl _ _
        · simp at hq; subst hq
          have g24 : act.tmps[24]?.getD undef = .pointer (some ⟨b, off + k, none⟩) := hI.has 6 24 rfl (hall ⟨6, .data⟩ (by simp) rfl)
          clear hI hall hnot hcl
          refine .inl ⟨wanted_none rfl, ?_⟩
          unfold Oper.wp
          go_simp
          all_goals first | exact ⟨_, rfl, Below.refl _ _, rfl, hB⟩ | exact ⟨Below.refl _ _, hB⟩ | exact Below.refl _ _
        · simp at hq; subst hq
          have g21 : act.tmps[21]?.getD undef = .string (D ++ (⟨#[32]⟩)) := hI.has 3 21 rfl (hall ⟨3, .data⟩ (by simp) rfl)
          have g25 : act.tmps[25]?.getD undef = .string x := hI.has 7 25 rfl (hall ⟨7, .data⟩ (by simp) rfl)
          clear hI hall hnot hcl
          refine .inl ⟨wanted_none rfl, ?_⟩
          unfold Oper.wp
          go_simp
          rw [if_neg (by omega)]
          go_simp
          all_goals first | exact ⟨_, rfl, Below.refl _ _, rfl, hB⟩ | exact ⟨Below.refl _ _, hB⟩ | exact Below.refl _ _
        · simp at hq; subst hq
          have g26 : act.tmps[26]?.getD undef = .string (((D ++ (⟨#[32]⟩))) ++ x) := hI.has 8 26 rfl (hall ⟨8, .data⟩ (by simp) rfl)
          clear hI hall hnot hcl
          refine .inl ⟨wanted_none rfl, ?_⟩
          unfold Oper.wp
          go_simp
          rw [if_neg (by omega)]
          go_simp
          all_goals first | exact ⟨_, rfl, Below.refl _ _, rfl, hB⟩ | exact ⟨Below.refl _ _, hB⟩ | exact Below.refl _ _
        · simp at hq; subst hq
          have g18 : act.tmps[18]?.getD undef = .string TA := hI.has 0 18 rfl (hall ⟨0, .data⟩ (by simp) rfl)
          have g27 : act.tmps[27]?.getD undef = .string (((((D ++ (⟨#[32]⟩))) ++ x)) ++ (⟨#[10]⟩)) := hI.has 9 27 rfl (hall ⟨9, .data⟩ (by simp) rfl)
          clear hI hall hnot hcl
          refine .inl ⟨wanted_none rfl, ?_⟩
          unfold Oper.wp
          go_simp
          rw [if_neg (by omega)]
          go_simp
          all_goals first | exact ⟨_, rfl, Below.refl _ _, rfl, hB⟩ | exact ⟨Below.refl _ _, hB⟩ | exact Below.refl _ _
        · simp at hq; subst hq
          have g28 : act.tmps[28]?.getD undef = .string (TA ++ ((((((D ++ (⟨#[32]⟩))) ++ x)) ++ (⟨#[10]⟩)))) := hI.has 10 28 rfl (hall ⟨10, .data⟩ (by simp) rfl)
          clear hI hall hnot hcl
          refine .inl ⟨wanted_none rfl, ?_⟩
          unfold Oper.wp
          go_simp
          all_goals first | exact ⟨_, rfl, Below.refl _ _, rfl, hB⟩ | exact ⟨Below.refl _ _, hB⟩ | exact Below.refl _ _
        · simp at hq
      case hend =>
        intro listed act w3 hI hall
        have hB := hI.cls
        have hcc := HCL.out _ hB
        have g3 : act.tmps[3]?.getD undef = .string (TA ++ ((((((D ++ (⟨#[32]⟩))) ++ x)) ++ (⟨#[10]⟩)))) := hI.has 11 3 rfl (hall 11 (by decide))
        have g4 := hI.kept 4 (by kernel_rfl)
        conv at g4 => rhs; whnf
        have g5 := hI.kept 5 (by kernel_rfl)
        conv at g5 => rhs; whnf
        have g0 := hI.kept 0 (by kernel_rfl)
        conv at g0 => rhs; whnf
        have g1 : act.tmps[1]?.getD undef = undef := hI.kept 1 (by kernel_rfl)
        have g2 := hI.kept 2 (by kernel_rfl)
        conv at g2 => rhs; whnf
        have g29 : act.tmps[29]?.getD undef = undef := hI.kept 29 (by kernel_rfl)
        have hsz : act.tmps.size = 30 := hI.size.trans (by kernel_rfl)
        have hd := hI.defers
        have BW2 : Hid (Below w.heap.size w w3) := Lib.hid (below_of BW.out BW.out.size hB)
        clear hI hall hB hcc HCL
        obtain ⟨tt, dd⟩ := act
        simp only at g0 g1 g2 g3 g4 g5 g29 hsz hd
        subst hd
        have hl : tt = #[tt[0]?.getD undef, tt[1]?.getD undef, tt[2]?.getD undef, tt[3]?.getD undef, tt[4]?.getD undef, tt[5]?.getD undef, tt[6]?.getD undef, tt[7]?.getD undef, tt[8]?.getD undef, tt[9]?.getD undef, tt[10]?.getD undef, tt[11]?.getD undef, tt[12]?.getD undef, tt[13]?.getD undef, tt[14]?.getD undef, tt[15]?.getD undef, tt[16]?.getD undef, tt[17]?.getD undef, tt[18]?.getD undef, tt[19]?.getD undef, tt[20]?.getD undef, tt[21]?.getD undef, tt[22]?.getD undef, tt[23]?.getD undef, tt[24]?.getD undef, tt[25]?.getD undef, tt[26]?.getD undef, tt[27]?.getD undef, tt[28]?.getD undef, tt[29]?.getD undef] := (arr_lit hsz).trans rfl
        rw [g0, g1, g2, g3, g4, g5, g29] at hl
        clear g0 g1 g2 g3 g4 g5 g29 hsz
        generalize tt[6]?.getD undef = y6 at hl
        generalize tt[7]?.getD undef = y7 at hl
        generalize tt[8]?.getD undef = y8 at hl
        generalize tt[9]?.getD undef = y9 at hl
        generalize tt[10]?.getD undef = y10 at hl
        generalize tt[11]?.getD undef = y11 at hl
        generalize tt[12]?.getD undef = y12 at hl
        generalize tt[13]?.getD undef = y13 at hl
        generalize tt[14]?.getD undef = y14 at hl
        generalize tt[15]?.getD undef = y15 at hl
        generalize tt[16]?.getD undef = y16 at hl
        generalize tt[17]?.getD undef = y17 at hl
        generalize tt[18]?.getD undef = y18 at hl
        generalize tt[19]?.getD undef = y19 at hl
        generalize tt[20]?.getD undef = y20 at hl
        generalize tt[21]?.getD undef = y21 at hl
        generalize tt[22]?.getD undef = y22 at hl
        generalize tt[23]?.getD undef = y23 at hl
        generalize tt[24]?.getD undef = y24 at hl
        generalize tt[25]?.getD undef = y25 at hl
        generalize tt[26]?.getD undef = y26 at hl
        generalize tt[27]?.getD undef = y27 at hl
        generalize tt[28]?.getD undef = y28 at hl
        subst hl
        go_wp2
        go_roundw
        case rel => exact ⟨k + 1, by have := HLT.out; omega, by rw [HT1.out], by rw [HC2.out], by go_num, BW2⟩
        case measure => have := HLT.out; simp [intOf]; omega
--GER
    · have hkk : k = xs.length := by omega
      subst hkk
      clear hlt hk
      go_wp2
      go_ret
      exact ⟨rfl, BW.out⟩
set_option maxHeartbeats 8000000 in
set_option maxRecDepth 100000 in
theorem s_JournalOf (A : Option Addr) (cap : Nat) (xs : List ByteArray) (w : World) (h : FlS w A xs) (hs : szT xs ≤ 1048576) :
    Calls Tryd.prog 7 #[.slice A xs.length cap] w fun e w' => e = .returned (.tuple #[.string (jS xs), .bool (jO xs)]) ∧ Below w.heap.size w w' := by
  have hn : xs.length ≤ 1048576 := by unfold szT at hs; omega
  have hni : (xs.length : Int) ≤ 1048576 := by omega
  have HX : Hid (∀ k, k < xs.length → (lnK xs k).size ≤ 1048576) := Lib.hid (fun k hk => by
    have h1 := szK_mono xs (k := k + 1) xs.length (by omega)
    have h2 : szK xs (k + 1) = szK xs k + (lnK xs k).size := rfl
    unfold szT at hs
    omega)
  have HJ := Lib.hid (s_l08Journal A cap xs w h hs)
  have HLONG : Hid (∀ k, k ≤ xs.length → 16000 < tot xs k → jO xs = false ∧ jS xs = ⟨#[]⟩) := Lib.hid (fun k hk hl => jo_bad (jo_long (n := xs.length) (by have h1 := tot_mono xs (k := k) xs.length hk; have h2 := jT_tot xs xs.length; omega)) (Nat.le_refl _))
  have HF := Lib.hid h
  clear h hs hn
  go_enter Tryd.func7, Tryd.ntmps7
  go_wp2
  go_loopw [4, 5] (fun t i wr => ∃ k : Nat, k ≤ xs.length ∧ t = .int .i64 (tot xs k : Nat) ∧ i = .int .i64 k ∧ tot xs k ≤ 16000 ∧ Hid (nlB xs k = false) ∧ w = wr) (fun _ i _ => xs.length - (intOf i).toNat)
  case atStart => exact ⟨0, Nat.zero_le _, rfl, rfl, Nat.zero_le _, Lib.hid rfl, rfl⟩
  case round =>
    obtain ⟨k, hk, rfl, rfl, htk, HNB, rfl⟩ := hrel
    by_cases hlt : k < xs.length
    · obtain ⟨b, off, rfl, hb, hc⟩ := HF.out.at_ hlt
      rw [show xs.getD k ⟨#[]⟩ = lnK xs k from rfl] at hc
      have HTO : Hid (tot xs (k + 1) = tot xs k + ((lnK xs k).size + 3)) := Lib.hid rfl
      have HNB2 : Hid (nlB xs (k + 1) = (nlB xs k || nlF (lnK xs k))) := Lib.hid rfl
      have HBAD : Hid (nlF (lnK xs k) = true → jO xs = false ∧ jS xs = ⟨#[]⟩) := Lib.hid (fun hh => jo_bad (jo_nl hh) (by omega))
      have HLG := Lib.hid (HLONG.out (k + 1) (by omega))
      have zX := HX.out k hlt
      have HLT := Lib.hid hlt
      have htk0 : (0 : Int) ≤ (tot xs k : Int) := by omega
      have htk1 : (tot xs k : Int) ≤ 16000 := by omega
      clear hb htk
      generalize lnK xs k = x at hc HTO HNB2 HBAD zX
      have zx0 : (0 : Int) ≤ (x.size : Int) := by omega
      have zx1 : (x.size : Int) ≤ 1048576 := by omega
      by_cases hlong : (tot xs k : Int) + ((x.size : Int) + 3) > 16000
      · have HO := Lib.hid (HLG.out (by rw [HTO.out]; omega))
        have hlong' : (16000 : Int) < (tot xs k : Int) + ((x.size : Int) + 3) := hlong
        clear hlong
        go_wp2
        go_ret2
        exact ⟨by rw [HO.out.1, HO.out.2]; rfl, Below.refl _ _⟩
      · have hlong' : ¬ (16000 : Int) < (tot xs k : Int) + ((x.size : Int) + 3) := hlong
        have hfit : tot xs (k + 1) ≤ 16000 := by rw [HTO.out]; omega
        have HFIT := Lib.hid hfit
        clear hlong hfit
        go_wp2
        go_loopw [6] (fun j wq => ∃ m : Nat, m ≤ x.size ∧ j = .int .i64 m ∧ Hid ((x.data.toList.take m).any (· == 10) = false) ∧ w = wq) (fun j _ => x.size - (intOf j).toNat)
        case atStart => exact ⟨0, Nat.zero_le _, rfl, Lib.hid rfl, rfl⟩
        case round =>
          obtain ⟨m, hm, rfl, HM, rfl⟩ := hrel
          by_cases hmx : m < x.size
          · have HMX := Lib.hid hmx
            have hTS := take_snoc x m hmx
            by_cases h10 : x[m] = 10
            · have HO := Lib.hid (HBAD.out (by
                unfold nlF
                have h1 : (x.data.toList.take (m + 1)).any (· == 10) = true := by rw [hTS]; simp; exact .inr h10
                rw [← List.take_append_drop (m + 1) x.data.toList, List.any_append, h1]
                rfl))
              have h10i : (x[m].toNat : Int) = 10 := by rw [h10]; rfl
              clear hTS h10
              go_wp2
              go_ret2
              exact ⟨by rw [HO.out.1, HO.out.2]; rfl, Below.refl _ _⟩
            · have HM2 : Hid ((x.data.toList.take (m + 1)).any (· == 10) = false) := Lib.hid (by
                rw [hTS, List.any_append, HM.out]
                simp
                exact h10)
              have h10i : ¬ ((x[m].toNat : Int) = 10) := by
                intro e
                apply h10
                apply UInt8.toNat_inj.1
                have : x[m].toNat = 10 := by omega
                rw [this]; rfl
              clear hTS h10
              go_wp2
              go_roundw
              case rel => exact ⟨m + 1, by have := HMX.out; omega, by go_num, HM2, by first | rfl | trivial⟩
              case measure => have := HMX.out; simp [intOf]; omega
          · have hmm : m = x.size := by omega
            subst hmm
            have HN2 : Hid (nlB xs (k + 1) = false) := Lib.hid (by
              rw [HNB2.out, HNB.out]
              have h1 := HM.out
              rw [List.take_of_length_le (by rw [Array.length_toList]; exact Nat.le_refl _)] at h1
              exact h1)
            have HTE : Hid (((tot xs k : Nat) : Int) + ((x.size : Int) + 3) = ((tot xs (k + 1) : Nat) : Int)) := Lib.hid (by rw [HTO.out]; omega)
            clear hmx hm
            go_wp2
            go_roundw
            case rel => exact ⟨k + 1, by have := HLT.out; omega, congrArg (Value.int IntKind.i64) HTE.out, by go_num, HFIT.out, HN2, by first | rfl | trivial⟩
            case measure => have := HLT.out; simp [intOf]; omega
    · have hkk : k = xs.length := by omega
      subst hkk
      clear hlt hk
      go_wp2_with fail
      refine HJ.out.mono ?_
      rintro e w2 ⟨rfl, b2⟩
      have B2 := Lib.hid b2
      clear b2 HJ
      by_cases hz : 16000 < (jT xs xs.length).size
      · have HO := Lib.hid (jo_bad (xs := xs) (jo_long hz) (Nat.le_refl _))
        have hzi : (16000 : Int) < ((jT xs xs.length).size : Int) := by omega
        clear hz
        generalize jT xs xs.length = TT at *
        go_wp2
        go_ret2
        exact ⟨by rw [HO.out.1, HO.out.2]; rfl, B2.out⟩
      · have HO := Lib.hid (jo_good (xs := xs) (jo_fine _ HNB.out (by omega)))
        have hzi : ¬ (16000 : Int) < ((jT xs xs.length).size : Int) := by omega
        clear hz
        go_wp2
        go_ret2
        exact ⟨by rw [HO.out.1, HO.out.2]; rfl, B2.out⟩
end Go.Proofs.YtknabmknboffgaaDoor
