/- The journal of lines: the program. No statement is proved here. -/
import Derived.Test.YtknabmknboffgaaDoorJoS
import Derived.Test.YtknabmknboffgaaDoorShelfB
import Derived.Lib.Builder
import Derived.Lib.AppendStr
import Derived.Test.YtknabmknboffgaaDoorByt
namespace Go.Proofs.YtknabmknboffgaaDoor
open Go Go.RowKit
set_option maxHeartbeats 4000000 in
theorem i_entryOf (c : Int) (l : ByteArray) (w : World) (hc : 0 ≤ c ∧ c ≤ 65002) (hs : l.size ≤ 2000000) (hT : T10 w) :
    Calls Tryd.prog 21 #[.int .i64 c, .string l] w fun e w' => e = .returned (.tuple #[.string (entS (chk c l.data.toList) l), .int .i64 (chk c l.data.toList)]) ∧ Below w.heap.size w w' := by
  have hb := chk_bd c l.data.toList hc.1 hc.2
  have HC := Lib.hid (i_CheckOf_yes c l w (by omega) hc.1 hc.2)
  have HD := Lib.hid (i_Decimal (chk c l.data.toList) w (by omega) (by omega) hT)
  have zD := dec_le hb
  have HE : Hid (entS (chk c l.data.toList) l = decS (chk c l.data.toList) ++ ⟨#[32]⟩ ++ l ++ ⟨#[10]⟩) := Lib.hid rfl
  generalize entS (chk c l.data.toList) l = E at HE ⊢
  generalize decS (chk c l.data.toList) = D at HD zD HE
  generalize chk c l.data.toList = c2 at HC HD ⊢
  clear hb hc hT
  go_enter Tryd.func21, Tryd.ntmps21
  go_wp2_with fail
  refine HC.out.mono ?_
  rintro e w1 ⟨rfl, hw⟩
  obtain rfl : w = w1 := hw.symm
  go_wp2_with fail
  refine HD.out.mono ?_
  rintro e w2 ⟨rfl, b2⟩
  go_wp2
  go_ret2
  exact ⟨by rw [HE.out]; rfl, b2⟩
theorem sizeBd : (Tryd.prog.info? 41).map (·.size) = some 2 := by kernel_rfl
theorem liesBd : liesAt Tryd.prog Tryd.prog.depth 41 (2 / Tryd.prog.cellsOf 41) 0 41 1 = true := by kernel_rfl
set_option maxHeartbeats 1000000 in
set_option maxRecDepth 100000 in
theorem lib_copyCheck_used (b : Nat) (w : World) (h0 : w.cell? ⟨b, 0, none⟩ = some (.pointer (some ⟨b, 0, none⟩))) :
    Calls Tryd.prog 39 #[.pointer (some ⟨b, 0, none⟩)] w fun e w' => e = .returned (.tuple #[]) ∧ w' = w := by
  obtain ⟨j, hj, _⟩ := Option.map_eq_some_iff.1 sizeBd
  go_enter Tryd.func39, Tryd.ntmps39
  go_wp2
  rw [Lib.run_neq_ptr_same w _ Tryd.underlying38 hj]
  go_wp2
  go_end0
  exact ⟨rfl, rfl⟩
set_option maxHeartbeats 1000000 in
set_option maxRecDepth 100000 in
theorem lib_copyCheck_fresh (b : Nat) (w : World) (h0 : w.cell? ⟨b, 0, none⟩ = some (.pointer none)) (hsh : w.shape? b = some (41, 2)) (hfz : w.frozen? ⟨b, 0, none⟩ = false) :
    Calls Tryd.prog 39 #[.pointer (some ⟨b, 0, none⟩)] w fun e w' => e = .returned (.tuple #[]) ∧ w' = w.setCell ⟨b, 0, none⟩ (.pointer (some ⟨b, 0, none⟩)) := by
  obtain ⟨j, hj, hjs⟩ := Option.map_eq_some_iff.1 sizeBd
  go_enter Tryd.func39, Tryd.ntmps39
  go_wp2
  rw [Lib.run_to_unsafe w ⟨b, 0, none⟩ Tryd.underlying38 Tryd.underlying83 hj (by rw [hjs]; decide) hsh (Nat.zero_lt_succ 1)]
  simp only [Result.andThen]
  rw [Oper.upon_value]
  go_wp2
  rw [run_callFunc_extern Tryd.func51 (by kernel_rfl) (by kernel_rfl) (by kernel_rfl) (e := Extern.AbiNoEscape.same) (by kernel_rfl)]
  rw [Lib.run_noEscape]
  simp only [Result.andThen]
  rw [Oper.upon_value]
  go_wp2
  rw [Lib.run_from_unsafe w ⟨b, 0, none⟩ Tryd.underlying83 Tryd.underlying38 hj hsh liesBd]
  simp only [Result.andThen]
  rw [Oper.upon_value]
  go_wp2
  go_end0
  exact ⟨rfl, rfl⟩
theorem lib_copyCheck (B b : Nat) (bs : List Value) (w : World) (h : Lib.IsBuilder 41 5 B b bs w) :
    Calls Tryd.prog 39 #[.pointer (some ⟨b, 0, none⟩)] w fun e w' => e = .returned (.tuple #[]) ∧ (Lib.BuilderAt 41 5 B b (.pointer (some ⟨b, 0, none⟩)) bs w' ∧ Below B w w') := by
  rcases h with h | h
  · refine (lib_copyCheck_fresh b w h.cell0 h.shape h.frozen0).mono ?_
    rintro e w' ⟨rfl, rfl⟩
    exact ⟨rfl, h.used _, (Below.refl B w).setCell (p := ⟨b, 0, none⟩) h.1 _⟩
  · refine (lib_copyCheck_used b w h.cell0).mono ?_
    rintro e w' ⟨rfl, rfl⟩
    exact ⟨rfl, h, Below.refl B _⟩
set_option maxHeartbeats 2000000 in
theorem lib_WriteString (B b : Nat) (bs : List Value) (s : ByteArray) (w : World) (h : Lib.IsBuilder 41 5 B b bs w) (hlen : bs.length + s.size ≤ 140737488355328) (hBw : B ≤ w.heap.size) :
    Calls Tryd.prog 22 #[.pointer (some ⟨b, 0, none⟩), .string s] w fun e w' => e = .returned (.tuple #[.int .i64 s.size, .nilIface]) ∧ (Lib.BuilderAt 41 5 B b (.pointer (some ⟨b, 0, none⟩)) (bs ++ Lib.strCells s) w' ∧ Below B w w') := by
  obtain ⟨i0, hi, hz0, hz1, hz2⟩ := info_parts u8_info
  go_enter Tryd.func22, Tryd.ntmps22
  go_wp2_with fail
  refine (lib_copyCheck B b bs _ h).mono ?_
  rintro e w1 ⟨rfl, h1, hb1⟩
  obtain ⟨hB, v, hbk, hown, hne⟩ := h1
  have c0 : w1.cell? ⟨b, 0, none⟩ = some (.pointer (some ⟨b, 0, none⟩)) := by rw [Lib.cell_of_heap hbk]; rfl
  have c1 : w1.cell? ⟨b, 1, none⟩ = some v := by rw [Lib.cell_of_heap hbk]; rfl
  go_wp2_with (at_builtin; refine Lib.wpList_append_own_string _ rfl _ _ 39 9 rfl B 5 i0 Tryd.underlying39 Tryd.underlying9 hi hz0 hz1 hz2 _ _ _ rfl hown s rfl ?c3 ?c4 ?c5 ?_)
  case c3 => unfold maxLen; omega
  case c4 => omega
  case c5 => have := hb1.size; omega
  intro v' w2 hown' hgrow _
  have hlt : b < w1.heap.size := by
    rcases Nat.lt_or_ge b w1.heap.size with h' | h'
    · exact h'
    · simp [Array.getElem?_eq_none h'] at hbk
  have hb2 : w2.heap[b]? = some (.cells #[.pointer (some ⟨b, 0, none⟩), v] 41 (0, 0)) := by
    rw [hgrow.block b hlt (fun e => hne e.symm)]
    exact hbk
  have d0 : w2.cell? ⟨b, 0, none⟩ = some (.pointer (some ⟨b, 0, none⟩)) := by rw [Lib.cell_of_heap hb2]; rfl
  have d1 : w2.cell? ⟨b, 1, none⟩ = some v := by rw [Lib.cell_of_heap hb2]; rfl
  have f1 : w2.frozen? ⟨b, 1, none⟩ = false := Lib.frozen_of_heap hb2 1
  obtain ⟨ao, n', cap, rfl⟩ : ∃ ao n' cap, v' = .slice ao n' cap := by
    rcases hown'.2 with ⟨hv, _⟩ | ⟨g, cap, cur, hv, _⟩
    · exact ⟨_, _, _, hv⟩
    · exact ⟨_, _, _, hv⟩
  go_wp2
  go_ret2
  refine ⟨rfl, ?_, ?_⟩
  · exact Lib.BuilderAt.put (T := 41) (e := 5) hB hb2 (bs' := bs ++ Lib.strCells s) (by simpa [Lib.strCells_length] using hown') (by decide)
  · exact (hb1.grown hgrow (by have := hb1.size; omega) (fun k hk => (hown.lt k hk).1)).setCell (p := ⟨b, 1, none⟩) hB _
def IsBd (B : Nat) (t : ByteArray) (w : World) : Prop := Lib.IsBuilder 41 5 B B (Lib.byteCells t.data.toList) w
theorem IsBd.below {B : Nat} {t : ByteArray} {w w' : World} (h : IsBd B t w) (hb : Below w.heap.size w w') : IsBd B t w' := by
  have one : ∀ p, Lib.BuilderAt 41 5 B B p (Lib.byteCells t.data.toList) w → Lib.BuilderAt 41 5 B B p (Lib.byteCells t.data.toList) w' := by
    rintro p ⟨h1, v, h2, h3, h4⟩
    refine ⟨h1, v, ?_, ⟨h3.1, ?_⟩, h4⟩
    · rw [hb.block B (Array.getElem?_eq_some_iff.1 h2).1]; exact h2
    · rcases h3.2 with hn | ⟨g, cap, cur, rfl, hbg, hgg, rest⟩
      · exact .inl hn
      · refine .inr ⟨g, cap, cur, rfl, hbg, ?_, rest⟩
        rw [hb.block g (Array.getElem?_eq_some_iff.1 hgg).1]
        exact hgg
  rcases h with h | h
  · exact .inl (one _ h)
  · exact .inr (one _ h)
theorem cells_app (a b : ByteArray) : Lib.byteCells (a ++ b).data.toList = Lib.byteCells a.data.toList ++ Lib.strCells b := by
  unfold Lib.byteCells Lib.strCells
  rw [← List.map_append]
  congr 1
set_option maxHeartbeats 8000000 in
set_option maxRecDepth 100000 in
theorem i_JournalOf (A : Option Addr) (cap : Nat) (xs : List ByteArray) (w : World) (h : FlS w A xs) (hs : szT xs ≤ 1048576) (hT : T10 w) :
    Calls Tryd.prog 9 #[.slice A xs.length cap] w fun e w' => e = .returned (.tuple #[.string (jS xs), .bool (jO xs)]) ∧ Below w.heap.size w w' := by
  have hn : xs.length ≤ 1048576 := by unfold szT at hs; omega
  have hni : (xs.length : Int) ≤ 1048576 := by omega
  have HX : Hid (∀ k, k < xs.length → (lnK xs k).size ≤ 1048576) := Lib.hid (fun k hk => by
    have h1 := szK_mono xs (k := k + 1) xs.length (by omega)
    have h2 : szK xs (k + 1) = szK xs k + (lnK xs k).size := rfl
    unfold szT at hs
    omega)
  have HG : Hid (∀ k, k ≤ xs.length → (jT xs k).size ≤ 30000000) := Lib.hid (fun k hk => by
    have h1 := szK_mono xs (k := k) xs.length hk
    have h2 := jT_le xs k
    unfold szT at hs
    omega)
  have HF := Lib.hid h
  have HTT := Lib.hid hT
  have b0 : Below w.heap.size w (w.alloc (.cells #[.pointer none, .slice none 0 0] 41)) := (Below.refl _ _).alloc (Nat.le_refl _) _
  have hk0 : IsBd w.heap.size (jT xs 0) (w.alloc (.cells #[.pointer none, .slice none 0 0] 41)) := Lib.fresh_isBuilder _ _ _
  obtain ⟨w0, hw0⟩ : ∃ z, z = w.alloc (.cells #[.pointer none, .slice none 0 0] 41) := ⟨_, rfl⟩
  rw [← hw0] at b0 hk0
  have B0 := Lib.hid b0
  have K0 := Lib.hid hk0
  clear h hs hT b0 hk0 hn
  go_enter Tryd.func9, Tryd.ntmps9
  go_upto_region 2 with fail
  rw [← hw0]
  clear hw0
  go_wp2
  go_loopw [5, 12] (fun c i wr => ∃ k : Nat, k ≤ xs.length ∧ i = .int .i64 k ∧ c = .int .i64 (jC xs k) ∧ Hid (IsBd w.heap.size (jT xs k) wr) ∧ Hid (jB xs k = false) ∧ Hid (Below w.heap.size w wr)) (fun _ i _ => xs.length - (intOf i).toNat)
  case atStart => exact ⟨0, Nat.zero_le _, rfl, rfl, K0, Lib.hid rfl, B0⟩
  case round =>
    obtain ⟨k, hk, rfl, rfl, HB, HJ, BW⟩ := hrel
    by_cases hlt : k < xs.length
    · obtain ⟨b, off, rfl, hb, hc0⟩ := HF.out.at_ hlt
      have hc : wr.cell? ⟨b, off + k, none⟩ = some (.string (xs.getD k ⟨#[]⟩)) := by rw [BW.out.cell (p := ⟨b, off + k, none⟩) hb]; exact hc0
      rw [show xs.getD k ⟨#[]⟩ = lnK xs k from rfl] at hc
      have HEC := Lib.hid (i_entryOf (jC xs k) (lnK xs k) wr (jC_bd xs k) (by have := HX.out k hlt; omega) (HTT.out.below BW.out))
      rw [show chk (jC xs k) (lnK xs k).data.toList = jC xs (k + 1) from rfl] at HEC
      have HT1 : Hid (jT xs (k + 1) = jT xs k ++ entS (jC xs (k + 1)) (lnK xs k)) := Lib.hid rfl
      have HBB : Hid (jB xs (k + 1) = (jB xs k || (nlF (lnK xs k) || decide (16000 < (jT xs (k + 1)).size)))) := Lib.hid rfl
      have HZ := Lib.hid (HG.out (k + 1) (by omega))
      have HLT := Lib.hid hlt
      have HNL : Hid (decide (0 ≤ Lib.indexByte (lnK xs k).data.toList 10) = nlF (lnK xs k)) := Lib.hid (idx_any _)
      clear hb hc0
      generalize lnK xs k = x at hc HEC HT1 HBB HNL
      generalize entS (jC xs (k + 1)) x = E at HEC HT1
      go_wp2_with fail
      refine HEC.out.mono ?_
      rintro e w2 ⟨rfl, b2⟩
      have HB2 := Lib.hid (HB.out.below b2)
      have BW2 := Lib.hid (below_of BW.out BW.out.size b2)
      clear b2 hc HEC
      have HWS := Lib.hid (lib_WriteString w.heap.size w.heap.size (Lib.byteCells (jT xs k).data.toList) E w2 HB2.out (by
        have h1 := HZ.out
        rw [HT1.out, app_size] at h1
        rw [Lib.byteCells_length]
        have h2 : (jT xs k).data.toList.length = (jT xs k).size := by rw [Array.length_toList]; rfl
        omega) BW2.out.size)
      go_wp2_with fail
      refine HWS.out.mono ?_
      rintro e w3 ⟨rfl, h3, b3⟩
      have HB3 : Hid (IsBd w.heap.size (jT xs (k + 1)) w3) := Lib.hid (by
        unfold IsBd
        rw [HT1.out, cells_app]
        exact .inr h3)
      have BW3 : Hid (Below w.heap.size w w3) := Lib.hid (BW2.out.trans b3)
      clear h3 b3 HWS HB2 BW2
      have HCN := Lib.hid (Tryd.strings_Contains_one x 10 w3)
      rw [HNL.out] at HCN
      have HBL := Lib.hid (Tryd.Builder_Len w.heap.size w.heap.size (Lib.byteCells (jT xs (k + 1)).data.toList) w3 HB3.out)
      rw [Lib.byteCells_length, show (jT xs (k + 1)).data.toList.length = (jT xs (k + 1)).size from by rw [Array.length_toList]; rfl] at HBL
      go_wp2_with fail
      refine HCN.out.mono ?_
      rintro e w4 ⟨rfl, hw⟩
      obtain rfl : w3 = w4 := hw.symm
      clear HCN HNL
      cases hnl : nlF x
      · by_cases hz : 16000 < (jT xs (k + 1)).size
        · have HO := Lib.hid (jo_bad (xs := xs) (k := k + 1) (by rw [HBB.out, decide_eq_true hz]; simp) (by have := HLT.out; omega))
          have hzi : (16000 : Int) < ((jT xs (k + 1)).size : Int) := by omega
          clear hz hnl HBB HT1
          go_wp2_with fail
          refine HBL.out.mono ?_
          rintro e w4 ⟨rfl, hw⟩
          obtain rfl : w3 = w4 := hw.symm
          clear HBL
          go_wp2
          go_ret2
          exact ⟨by rw [HO.out.1, HO.out.2]; rfl, BW3.out⟩
        · have HJ2 : Hid (jB xs (k + 1) = false) := Lib.hid (by rw [HBB.out, HJ.out, hnl, decide_eq_false hz]; rfl)
          have hzi : ¬ (16000 : Int) < ((jT xs (k + 1)).size : Int) := by omega
          clear hz hnl HBB HT1
          go_wp2_with fail
          refine HBL.out.mono ?_
          rintro e w4 ⟨rfl, hw⟩
          obtain rfl : w3 = w4 := hw.symm
          clear HBL
          go_wp2
          go_roundw
          case rel => exact ⟨k + 1, by have := HLT.out; omega, by go_num, rfl, HB3, HJ2, BW3⟩
          case measure => have := HLT.out; simp [intOf]; omega
      · have HO := Lib.hid (jo_bad (xs := xs) (k := k + 1) (by rw [HBB.out, hnl]; simp) (by have := HLT.out; omega))
        clear hnl HBB HT1 HBL
        go_wp2
        go_ret2
        exact ⟨by rw [HO.out.1, HO.out.2]; rfl, BW3.out⟩
    · have hkk : k = xs.length := by omega
      subst hkk
      have HO := Lib.hid (jo_good HJ.out)
      have HST := Lib.hid (Tryd.Builder_String_any w.heap.size w.heap.size (jT xs xs.length).data.toList wr HB.out BW.out.size)
      clear hlt hk
      go_wp2_with fail
      refine HST.out.mono ?_
      rintro e w2 ⟨rfl, b2⟩
      have BW2 : Hid (Below w.heap.size w w2) := Lib.hid (BW.out.trans b2)
      clear b2 HST
      go_wp2
      go_ret2
      exact ⟨by rw [HO.out.1, HO.out.2]; rfl, BW2.out⟩
end Go.Proofs.YtknabmknboffgaaDoor
