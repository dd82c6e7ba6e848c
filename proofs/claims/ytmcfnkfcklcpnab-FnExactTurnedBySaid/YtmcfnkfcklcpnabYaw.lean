/- Yaws: a step, both sides. No statement is proved here. -/
import Derived.Test.YtmcfnkfcklcpnabExact
import Derived.Test.YtmcfnkfcklcpnabFsure
import Derived.Test.YtmcfnkfcklcpnabArea
namespace Go.Proofs.Ytmcfnkfcklcpnab
open Go Go.RowKit
theorem fin_neg {b : Nat} (h : fin .f32 b = true) : fin .f32 (Op.negFloat .f32 b) = true := by
  unfold fin at *
  rw [read_neg]
  cases hd : FloatKind.f32.decode b <;> rw [hd] at h <;> first | rfl | cases h
theorem key_neg {b : Nat} (h : fin .f32 b = true) : key (Op.negFloat .f32 b) = - key b := by
  unfold key
  rw [read_neg]
  unfold fin at h
  cases hd : FloatKind.f32.decode b with
  | nan s f => rw [hd] at h; cases h
  | infinity s => rw [hd] at h; cases h
  | number s m e =>
    simp only [Ieee.Datum.opposite]
    unfold Ieee.signed
    cases s <;> simp
theorem abs_leq {d n : Nat} (hd : fin .f32 d = true) (hn : fin .f32 n = true) : leq32 (abs32 d) n = (leq32 d n && leq32 (Op.negFloat .f32 d) n) := by
  obtain ⟨h1, h2, -⟩ := abs_fin hd
  rw [leq_key h1 hn, leq_key hd hn, leq_key (fin_neg hd) hn, h2, key_neg hd, Bool.eq_iff_iff]
  simp only [decide_eq_true_eq, Bool.and_eq_true]
  omega
theorem fin_fopV {op : BinOp} {k : FloatKind} {x y : Nat} (w : World) : fin k (fopV op k x y w) = fin k (fop op k x y) := by
  rw [← fin_canon, canon_fopV]
  have : fop op k (canon k x) (canon k y) = fop op k x y := by unfold fop; rw [floatBits_canon]
  rw [this]
def yawD (ya wi : Nat) : Nat := fop .sub .f32 wi ya
/-- where a yaw goes -/
def yawTo (ya d ra ne : Nat) : Nat := bif leq32 (abs32 d) ne then ya else bif leq32 (abs32 d) ra then fop .add .f32 ya d else bif gtr32 d 0 then fop .add .f32 ya ra else fop .sub .f32 ya ra
def yawO (ya wi ra ne : Nat) : Bool := fin .f32 (yawD ya wi) && (amount ra && (amount ne && fin .f32 (yawTo ya (wrapT (yawD ya wi)) ra ne)))
def yawR (ya wi ra ne : Nat) : Nat := bif yawO ya wi ra ne then wrapT (yawTo ya (wrapT (yawD ya wi)) ra ne) else 0
theorem amt_fin {x : Nat} (h : amount x = true) : fin .f32 x = true := by unfold amount at h; rw [Bool.and_eq_true] at h; exact h.1
theorem i_absOf (b : Nat) (hb : fin .f32 b = true) (w : World) :
    Calls Try.prog 85 #[.float .f32 b] w fun e w' => e = .returned (.float .f32 (abs32 b)) ∧ w' = w := by
  obtain ⟨hw, hwn⟩ := wide_sure (not_nan_of_fin hb)
  obtain ⟨-, -, ho, hn⟩ := abs_fin hb
  obtain ⟨hv, hvn⟩ := narrow_sure hn ho
  have hl := wide_lt b
  have HA : Hid (narrow (fabs (wide b)) = abs32 b) := rfl
  clear ho hn hb
  go_enter Try.func85, Try.ntmps85
  go_wp2_with fail
  refine (m_Abs _ _ hl).mono ?_
  rintro e w' ⟨rfl, rfl⟩
  go_wp2
  go_ret
  exact ⟨by rw [← HA.out]; rfl, by first | rfl | simp⟩
theorem yaw_no1 {ya wi ra ne : Nat} (h : fin .f32 (yawD ya wi) = false) : yawO ya wi ra ne = false ∧ yawR ya wi ra ne = 0 := by
  have h1 : yawO ya wi ra ne = false := by unfold yawO; rw [h]; rfl
  exact ⟨h1, by unfold yawR; rw [h1]; rfl⟩
theorem yaw_no2 {ya wi ra ne : Nat} (h : amount ra = false) : yawO ya wi ra ne = false ∧ yawR ya wi ra ne = 0 := by
  have h1 : yawO ya wi ra ne = false := by unfold yawO; rw [h]; simp
  exact ⟨h1, by unfold yawR; rw [h1]; rfl⟩
theorem yaw_no3 {ya wi ra ne : Nat} (h : amount ne = false) : yawO ya wi ra ne = false ∧ yawR ya wi ra ne = 0 := by
  have h1 : yawO ya wi ra ne = false := by unfold yawO; rw [h]; simp
  exact ⟨h1, by unfold yawR; rw [h1]; rfl⟩
theorem yaw_to {ya wi ra ne T : Nat} (hD : fin .f32 (yawD ya wi) = true) (hra : amount ra = true) (hne : amount ne = true) (hT : yawTo ya (wrapT (yawD ya wi)) ra ne = T) : yawO ya wi ra ne = fin .f32 T ∧ yawR ya wi ra ne = bif fin .f32 T then wrapT T else 0 := by
  have h1 : yawO ya wi ra ne = fin .f32 T := by unfold yawO; rw [hD, hra, hne, hT]; rfl
  exact ⟨h1, by unfold yawR; rw [h1, hT]⟩
set_option maxHeartbeats 8000000 in
set_option maxRecDepth 100000 in
theorem i_YawStep0 (ya wi ra ne : Nat) (w : World) :
    Calls Try.prog 38 #[.float .f32 ya, .float .f32 wi, .float .f32 ra, .float .f32 ne] w fun e w' => ∃ n, e = .returned (.tuple #[.float .f32 (yawR ya wi ra ne), .bool (yawO ya wi ra ne)]) ∧ w' = w.drewN n := by
  cases hD : fin .f32 (yawD ya wi)
  · obtain ⟨hO, hR⟩ := yaw_no1 (ra := ra) (ne := ne) hD
    rw [hO, hR]
    have HD := Lib.hid hD; clear hD hO hR
    go_enter Try.func38, Try.ntmps38
    go_wp2_with fail
    refine (i_WrapAngle_no _ (by rw [fin_fopV]; exact HD.out) _).mono ?_
    rintro e w' ⟨n, rfl, rfl⟩
    go_wp2
    refine bodyPost_ret (v := .tuple #[.float .f32 0, .bool false]) (by simp [results, Try.results38, go_sem]) rfl ?_
    first | exact ⟨_, rfl, rfl⟩ | exact ⟨rfl, _, rfl⟩ | exact ⟨_, rfl, by first | rfl | (simp only [World.drewN_drewN]; rfl)⟩ | exact ⟨rfl, _, by first | rfl | (simp only [World.drewN_drewN]; rfl)⟩
  · obtain ⟨hfw, hfy⟩ := diff_fin (show fin .f32 (fop .sub .f32 wi ya) = true from hD)
    obtain ⟨hs0, hsn⟩ := fop_sure (not_nan_of_fin (show fin .f32 (fop .sub .f32 wi ya) = true from hD))
    have hs : ∀ w, fopV .sub .f32 wi ya w = yawD ya wi := hs0
    clear hs0
    have HFY := Lib.hid hfy
    have HFD : Hid (fin .f32 (wrapT (yawD ya wi)) = true) := Lib.hid (bd_fin (wrapT_bd hD))
    have HD := Lib.hid hD
    clear hfw hfy hD
    cases hra : amount ra
    · obtain ⟨hO, hR⟩ := yaw_no2 (ya := ya) (wi := wi) (ne := ne) hra
      rw [hO, hR]
      clear hO hR
      go_enter Try.func38, Try.ntmps38
      go_wp2_with fail
      refine (i_WrapAngle _ HD.out _).mono ?_
      rintro e w' ⟨n, rfl, rfl⟩
      clear hs hsn
      go_wp2_with fail
      refine (i_notAmount _ _).mono ?_
      rintro e w' ⟨n2, rfl, rfl⟩
      rw [hra]
      go_wp2
      refine bodyPost_ret (v := .tuple #[.float .f32 0, .bool false]) (by simp [results, Try.results38, go_sem]) rfl ?_
      first | exact ⟨_, rfl, rfl⟩ | exact ⟨rfl, _, rfl⟩ | exact ⟨_, rfl, by first | rfl | (simp only [World.drewN_drewN]; rfl)⟩ | exact ⟨rfl, _, by first | rfl | (simp only [World.drewN_drewN]; rfl)⟩
    · have HA := Lib.hid hra; clear hra
      cases hne : amount ne
      · obtain ⟨hO, hR⟩ := yaw_no3 (ya := ya) (wi := wi) (ra := ra) hne
        rw [hO, hR]
        clear hO hR
        go_enter Try.func38, Try.ntmps38
        go_wp2_with fail
        refine (i_WrapAngle _ HD.out _).mono ?_
        rintro e w' ⟨n, rfl, rfl⟩
        clear hs hsn
        go_wp2_with fail
        refine (i_notAmount _ _).mono ?_
        rintro e w' ⟨n2, rfl, rfl⟩
        rw [HA.out]
        go_wp2_with fail
        refine (i_notAmount _ _).mono ?_
        rintro e w' ⟨n3, rfl, rfl⟩
        rw [hne]
        go_wp2
        refine bodyPost_ret (v := .tuple #[.float .f32 0, .bool false]) (by simp [results, Try.results38, go_sem]) rfl ?_
        first | exact ⟨_, rfl, rfl⟩ | exact ⟨rfl, _, rfl⟩ | exact ⟨_, rfl, by first | rfl | (simp only [World.drewN_drewN]; rfl)⟩ | exact ⟨rfl, _, by first | rfl | (simp only [World.drewN_drewN]; rfl)⟩
      · have HN := Lib.hid hne; clear hne
        have HS := Lib.hid hs; clear hs
        have HSN := Lib.hid hsn; clear hsn
        have HTO : Hid (∀ T, yawTo ya (wrapT (yawD ya wi)) ra ne = T → yawO ya wi ra ne = fin .f32 T ∧ yawR ya wi ra ne = bif fin .f32 T then wrapT T else 0) := Lib.hid fun T => yaw_to HD.out HA.out HN.out
        have HW : Hid (∀ W, Calls Try.prog 84 #[.float .f32 (yawD ya wi)] W fun e w' => ∃ n, e = .returned (.tuple #[.float .f32 (wrapT (yawD ya wi)), .bool true]) ∧ w' = W.drewN n) := Lib.hid fun W => i_WrapAngle _ HD.out W
        generalize wrapT (yawD ya wi) = d at HFD HTO HW
        generalize yawD ya wi = D at HS HW
        clear HD
        cases q1 : (FloatKind.f32.format.order (abs32 d) ne == some .lt || FloatKind.f32.format.order (abs32 d) ne == some .eq)
        · cases q2 : (FloatKind.f32.format.order (abs32 d) ra == some .lt || FloatKind.f32.format.order (abs32 d) ra == some .eq)
          · cases q3 : (FloatKind.f32.format.order d 0 == some .gt)
            · skip
              obtain ⟨hO, hR⟩ := HTO.out (fop .sub .f32 ya ra) (by unfold yawTo leq32 gtr32; rw [q1, q2, q3]; rfl)
              rw [hO, hR]
              clear hO hR
              obtain ⟨s1, s2⟩ := fop_sure (sub_num (k := .f32) HFY.out (amt_fin HA.out))
              cases hT : fin .f32 (fop .sub .f32 ya ra)
              · go_enter Try.func38, Try.ntmps38
                have hs := HS.out
                have hsn := HSN.out
                go_wp2_with fail
                refine (HW.out _).mono ?_
                rintro e w' ⟨n, rfl, rfl⟩
                clear hs hsn
                go_wp2_with fail
                refine (i_notAmount _ _).mono ?_
                rintro e w' ⟨n2, rfl, rfl⟩
                rw [HA.out]
                go_wp2_with fail
                refine (i_notAmount _ _).mono ?_
                rintro e w' ⟨n3, rfl, rfl⟩
                rw [HN.out]
                go_wp2_with fail
                refine (i_absOf _ HFD.out _).mono ?_
                rintro e w' ⟨rfl, rfl⟩
                go_wp2_with fail
                refine (i_absOf _ HFD.out _).mono ?_
                rintro e w' ⟨rfl, rfl⟩
                go_wp2_with fail
                refine (i_WrapAngle_no _ hT _).mono ?_
                rintro e w' ⟨n4, rfl, rfl⟩
                go_wp2
                refine bodyPost_ret (v := .tuple #[.float .f32 0, .bool false]) (by simp [results, Try.results38, go_sem]) rfl ?_
                first | exact ⟨_, rfl, rfl⟩ | exact ⟨rfl, _, rfl⟩ | exact ⟨_, rfl, by first | rfl | (simp only [World.drewN_drewN]; rfl)⟩ | exact ⟨rfl, _, by first | rfl | (simp only [World.drewN_drewN]; rfl)⟩
              · go_enter Try.func38, Try.ntmps38
                have hs := HS.out
                have hsn := HSN.out
                go_wp2_with fail
                refine (HW.out _).mono ?_
                rintro e w' ⟨n, rfl, rfl⟩
                clear hs hsn
                go_wp2_with fail
                refine (i_notAmount _ _).mono ?_
                rintro e w' ⟨n2, rfl, rfl⟩
                rw [HA.out]
                go_wp2_with fail
                refine (i_notAmount _ _).mono ?_
                rintro e w' ⟨n3, rfl, rfl⟩
                rw [HN.out]
                go_wp2_with fail
                refine (i_absOf _ HFD.out _).mono ?_
                rintro e w' ⟨rfl, rfl⟩
                go_wp2_with fail
                refine (i_absOf _ HFD.out _).mono ?_
                rintro e w' ⟨rfl, rfl⟩
                go_wp2_with fail
                refine (i_WrapAngle _ hT _).mono ?_
                rintro e w' ⟨n4, rfl, rfl⟩
                go_wp2
                refine bodyPost_ret (v := .tuple #[.float .f32 (wrapT (fop .sub .f32 ya ra)), .bool true]) (by simp [results, Try.results38, go_sem]) rfl ?_
                first | exact ⟨_, rfl, rfl⟩ | exact ⟨rfl, _, rfl⟩ | exact ⟨_, rfl, by first | rfl | (simp only [World.drewN_drewN]; rfl)⟩ | exact ⟨rfl, _, by first | rfl | (simp only [World.drewN_drewN]; rfl)⟩
            · skip
              obtain ⟨hO, hR⟩ := HTO.out (fop .add .f32 ya ra) (by unfold yawTo leq32 gtr32; rw [q1, q2, q3]; rfl)
              rw [hO, hR]
              clear hO hR
              obtain ⟨s1, s2⟩ := fop_sure (add_num (k := .f32) HFY.out (amt_fin HA.out))
              cases hT : fin .f32 (fop .add .f32 ya ra)
              · go_enter Try.func38, Try.ntmps38
                have hs := HS.out
                have hsn := HSN.out
                go_wp2_with fail
                refine (HW.out _).mono ?_
                rintro e w' ⟨n, rfl, rfl⟩
                clear hs hsn
                go_wp2_with fail
                refine (i_notAmount _ _).mono ?_
                rintro e w' ⟨n2, rfl, rfl⟩
                rw [HA.out]
                go_wp2_with fail
                refine (i_notAmount _ _).mono ?_
                rintro e w' ⟨n3, rfl, rfl⟩
                rw [HN.out]
                go_wp2_with fail
                refine (i_absOf _ HFD.out _).mono ?_
                rintro e w' ⟨rfl, rfl⟩
                go_wp2_with fail
                refine (i_absOf _ HFD.out _).mono ?_
                rintro e w' ⟨rfl, rfl⟩
                go_wp2_with fail
                refine (i_WrapAngle_no _ hT _).mono ?_
                rintro e w' ⟨n4, rfl, rfl⟩
                go_wp2
                refine bodyPost_ret (v := .tuple #[.float .f32 0, .bool false]) (by simp [results, Try.results38, go_sem]) rfl ?_
                first | exact ⟨_, rfl, rfl⟩ | exact ⟨rfl, _, rfl⟩ | exact ⟨_, rfl, by first | rfl | (simp only [World.drewN_drewN]; rfl)⟩ | exact ⟨rfl, _, by first | rfl | (simp only [World.drewN_drewN]; rfl)⟩
              · go_enter Try.func38, Try.ntmps38
                have hs := HS.out
                have hsn := HSN.out
                go_wp2_with fail
                refine (HW.out _).mono ?_
                rintro e w' ⟨n, rfl, rfl⟩
                clear hs hsn
                go_wp2_with fail
                refine (i_notAmount _ _).mono ?_
                rintro e w' ⟨n2, rfl, rfl⟩
                rw [HA.out]
                go_wp2_with fail
                refine (i_notAmount _ _).mono ?_
                rintro e w' ⟨n3, rfl, rfl⟩
                rw [HN.out]
                go_wp2_with fail
                refine (i_absOf _ HFD.out _).mono ?_
                rintro e w' ⟨rfl, rfl⟩
                go_wp2_with fail
                refine (i_absOf _ HFD.out _).mono ?_
                rintro e w' ⟨rfl, rfl⟩
                go_wp2_with fail
                refine (i_WrapAngle _ hT _).mono ?_
                rintro e w' ⟨n4, rfl, rfl⟩
                go_wp2
                refine bodyPost_ret (v := .tuple #[.float .f32 (wrapT (fop .add .f32 ya ra)), .bool true]) (by simp [results, Try.results38, go_sem]) rfl ?_
                first | exact ⟨_, rfl, rfl⟩ | exact ⟨rfl, _, rfl⟩ | exact ⟨_, rfl, by first | rfl | (simp only [World.drewN_drewN]; rfl)⟩ | exact ⟨rfl, _, by first | rfl | (simp only [World.drewN_drewN]; rfl)⟩
          · skip
            obtain ⟨hO, hR⟩ := HTO.out (fop .add .f32 ya d) (by unfold yawTo leq32 gtr32; rw [q1, q2]; rfl)
            rw [hO, hR]
            clear hO hR
            obtain ⟨s1, s2⟩ := fop_sure (add_num (k := .f32) HFY.out HFD.out)
            cases hT : fin .f32 (fop .add .f32 ya d)
            · go_enter Try.func38, Try.ntmps38
              have hs := HS.out
              have hsn := HSN.out
              go_wp2_with fail
              refine (HW.out _).mono ?_
              rintro e w' ⟨n, rfl, rfl⟩
              clear hs hsn
              go_wp2_with fail
              refine (i_notAmount _ _).mono ?_
              rintro e w' ⟨n2, rfl, rfl⟩
              rw [HA.out]
              go_wp2_with fail
              refine (i_notAmount _ _).mono ?_
              rintro e w' ⟨n3, rfl, rfl⟩
              rw [HN.out]
              go_wp2_with fail
              refine (i_absOf _ HFD.out _).mono ?_
              rintro e w' ⟨rfl, rfl⟩
              go_wp2_with fail
              refine (i_absOf _ HFD.out _).mono ?_
              rintro e w' ⟨rfl, rfl⟩
              go_wp2_with fail
              refine (i_WrapAngle_no _ hT _).mono ?_
              rintro e w' ⟨n4, rfl, rfl⟩
              go_wp2
              refine bodyPost_ret (v := .tuple #[.float .f32 0, .bool false]) (by simp [results, Try.results38, go_sem]) rfl ?_
              first | exact ⟨_, rfl, rfl⟩ | exact ⟨rfl, _, rfl⟩ | exact ⟨_, rfl, by first | rfl | (simp only [World.drewN_drewN]; rfl)⟩ | exact ⟨rfl, _, by first | rfl | (simp only [World.drewN_drewN]; rfl)⟩
            · go_enter Try.func38, Try.ntmps38
              have hs := HS.out
              have hsn := HSN.out
              go_wp2_with fail
              refine (HW.out _).mono ?_
              rintro e w' ⟨n, rfl, rfl⟩
              clear hs hsn
              go_wp2_with fail
              refine (i_notAmount _ _).mono ?_
              rintro e w' ⟨n2, rfl, rfl⟩
              rw [HA.out]
              go_wp2_with fail
              refine (i_notAmount _ _).mono ?_
              rintro e w' ⟨n3, rfl, rfl⟩
              rw [HN.out]
              go_wp2_with fail
              refine (i_absOf _ HFD.out _).mono ?_
              rintro e w' ⟨rfl, rfl⟩
              go_wp2_with fail
              refine (i_absOf _ HFD.out _).mono ?_
              rintro e w' ⟨rfl, rfl⟩
              go_wp2_with fail
              refine (i_WrapAngle _ hT _).mono ?_
              rintro e w' ⟨n4, rfl, rfl⟩
              go_wp2
              refine bodyPost_ret (v := .tuple #[.float .f32 (wrapT (fop .add .f32 ya d)), .bool true]) (by simp [results, Try.results38, go_sem]) rfl ?_
              first | exact ⟨_, rfl, rfl⟩ | exact ⟨rfl, _, rfl⟩ | exact ⟨_, rfl, by first | rfl | (simp only [World.drewN_drewN]; rfl)⟩ | exact ⟨rfl, _, by first | rfl | (simp only [World.drewN_drewN]; rfl)⟩
        · skip
          obtain ⟨hO, hR⟩ := HTO.out ya (by unfold yawTo leq32 gtr32; rw [q1]; rfl)
          rw [hO, hR, HFY.out]
          clear hO hR
          go_enter Try.func38, Try.ntmps38
          have hs := HS.out
          have hsn := HSN.out
          go_wp2_with fail
          refine (HW.out _).mono ?_
          rintro e w' ⟨n, rfl, rfl⟩
          clear hs hsn
          go_wp2_with fail
          refine (i_notAmount _ _).mono ?_
          rintro e w' ⟨n2, rfl, rfl⟩
          rw [HA.out]
          go_wp2_with fail
          refine (i_notAmount _ _).mono ?_
          rintro e w' ⟨n3, rfl, rfl⟩
          rw [HN.out]
          go_wp2_with fail
          refine (i_absOf _ HFD.out _).mono ?_
          rintro e w' ⟨rfl, rfl⟩
          go_wp2_with fail
          refine (i_WrapAngle _ HFY.out _).mono ?_
          rintro e w' ⟨n4, rfl, rfl⟩
          go_wp2
          refine bodyPost_ret (v := .tuple #[.float .f32 (wrapT ya), .bool true]) (by simp [results, Try.results38, go_sem]) rfl ?_
          first | exact ⟨_, rfl, rfl⟩ | exact ⟨rfl, _, rfl⟩ | exact ⟨_, rfl, by first | rfl | (simp only [World.drewN_drewN]; rfl)⟩ | exact ⟨rfl, _, by first | rfl | (simp only [World.drewN_drewN]; rfl)⟩
set_option maxHeartbeats 8000000 in
set_option maxRecDepth 100000 in
theorem s_l05Yaw (ya wi ra ne : Nat) (w : World) (hya : fin .f32 ya = true) (hwi : fin .f32 wi = true) (hra : amount ra = true) (hne : amount ne = true) :
    Calls Try.prog 83 #[.float .f32 ya, .float .f32 wi, .float .f32 ra, .float .f32 ne] w fun e w' => ∃ n, e = .returned (.tuple #[.float .f32 (yawR ya wi ra ne), .bool (yawO ya wi ra ne)]) ∧ w' = w.drewN n := by
  obtain ⟨hs0, hsn⟩ := fop_sure (sub_num (k := .f32) hwi hya)
  have hs : ∀ w, fopV .sub .f32 wi ya w = yawD ya wi := hs0
  clear hs0
  have HS := Lib.hid hs
  have HSN := Lib.hid hsn
  have HFY := Lib.hid hya
  have HA := Lib.hid hra
  have HN := Lib.hid hne
  clear hs hsn hya hwi hra hne
  cases hD : fin .f32 (yawD ya wi)
  · obtain ⟨hO, hR⟩ := yaw_no1 (ra := ra) (ne := ne) hD
    rw [hO, hR]
    clear hO hR
    go_enter Try.func83, Try.ntmps83
    have hs := HS.out
    have hsn := HSN.out
    go_wp2_with fail
    refine (s_l01Finite _ _).mono ?_
    rintro e w' ⟨n, rfl, rfl⟩
    rw [hD]
    clear hs hsn
    go_wp2
    refine bodyPost_ret (v := .tuple #[.float .f32 0, .bool false]) (by simp [results, Try.results83, go_sem]) rfl ?_
    first | exact ⟨_, rfl, rfl⟩ | exact ⟨rfl, _, rfl⟩ | exact ⟨_, rfl, by first | rfl | (simp only [World.drewN_drewN]; rfl)⟩ | exact ⟨rfl, _, by first | rfl | (simp only [World.drewN_drewN]; rfl)⟩
  · have HFD : Hid (fin .f32 (wrapT (yawD ya wi)) = true) := Lib.hid (bd_fin (wrapT_bd hD))
    have HTO : Hid (∀ T, yawTo ya (wrapT (yawD ya wi)) ra ne = T → yawO ya wi ra ne = fin .f32 T ∧ yawR ya wi ra ne = bif fin .f32 T then wrapT T else 0) := Lib.hid fun T => yaw_to hD HA.out HN.out
    have HW : Hid (∀ W, Calls Try.prog 90 #[.float .f32 (yawD ya wi)] W fun e w' => e = .returned (.float .f32 (wrapT (yawD ya wi))) ∧ w' = W) := Lib.hid fun W => s_l02Wrap _ hD W
    have HDF := Lib.hid hD
    clear hD
    generalize wrapT (yawD ya wi) = d at HFD HTO HW
    generalize yawD ya wi = D at HS HW HDF
    have HL1 := Lib.hid (abs_leq HFD.out (amt_fin HN.out))
    have HL2 := Lib.hid (abs_leq HFD.out (amt_fin HA.out))
    cases q1 : (FloatKind.f32.format.order d ne == some .lt || FloatKind.f32.format.order d ne == some .eq)
    · skip
      cases q2 : (FloatKind.f32.format.order d ra == some .lt || FloatKind.f32.format.order d ra == some .eq)
      · skip
        cases q3 : (FloatKind.f32.format.order d 0 == some .gt)
        · skip
          obtain ⟨hO, hR⟩ := HTO.out (fop .sub .f32 ya ra) (by unfold yawTo; rw [HL1.out, HL2.out]; unfold leq32 gtr32; rw [q1, q2, q3]; rfl)
          rw [hO, hR]
          clear hO hR
          obtain ⟨s1, s2⟩ := fop_sure (sub_num (k := .f32) HFY.out (amt_fin HA.out))
          cases hT : fin .f32 (fop .sub .f32 ya ra)
          · go_enter Try.func83, Try.ntmps83
            have hs := HS.out
            have hsn := HSN.out
            go_wp2_with fail
            refine (s_l01Finite _ _).mono ?_
            rintro e w' ⟨n, rfl, rfl⟩
            rw [HDF.out]
            go_wp2_with fail
            refine (HW.out _).mono ?_
            rintro e w' ⟨rfl, rfl⟩
            clear hs hsn
            go_wp2_with fail
            refine (s_l01Finite _ _).mono ?_
            rintro e w' ⟨n2, rfl, rfl⟩
            rw [hT]
            go_wp2
            refine bodyPost_ret (v := .tuple #[.float .f32 0, .bool false]) (by simp [results, Try.results83, go_sem]) rfl ?_
            first | exact ⟨_, rfl, rfl⟩ | exact ⟨rfl, _, rfl⟩ | exact ⟨_, rfl, by first | rfl | (simp only [World.drewN_drewN]; rfl)⟩ | exact ⟨rfl, _, by first | rfl | (simp only [World.drewN_drewN]; rfl)⟩
          · go_enter Try.func83, Try.ntmps83
            have hs := HS.out
            have hsn := HSN.out
            go_wp2_with fail
            refine (s_l01Finite _ _).mono ?_
            rintro e w' ⟨n, rfl, rfl⟩
            rw [HDF.out]
            go_wp2_with fail
            refine (HW.out _).mono ?_
            rintro e w' ⟨rfl, rfl⟩
            clear hs hsn
            go_wp2_with fail
            refine (s_l01Finite _ _).mono ?_
            rintro e w' ⟨n2, rfl, rfl⟩
            rw [hT]
            go_wp2_with fail
            refine (s_l02Wrap _ hT _).mono ?_
            rintro e w' ⟨rfl, rfl⟩
            go_wp2
            refine bodyPost_ret (v := .tuple #[.float .f32 (wrapT (fop .sub .f32 ya ra)), .bool true]) (by simp [results, Try.results83, go_sem]) rfl ?_
            first | exact ⟨_, rfl, rfl⟩ | exact ⟨rfl, _, rfl⟩ | exact ⟨_, rfl, by first | rfl | (simp only [World.drewN_drewN]; rfl)⟩ | exact ⟨rfl, _, by first | rfl | (simp only [World.drewN_drewN]; rfl)⟩
        · skip
          obtain ⟨hO, hR⟩ := HTO.out (fop .add .f32 ya ra) (by unfold yawTo; rw [HL1.out, HL2.out]; unfold leq32 gtr32; rw [q1, q2, q3]; rfl)
          rw [hO, hR]
          clear hO hR
          obtain ⟨s1, s2⟩ := fop_sure (add_num (k := .f32) HFY.out (amt_fin HA.out))
          cases hT : fin .f32 (fop .add .f32 ya ra)
          · go_enter Try.func83, Try.ntmps83
            have hs := HS.out
            have hsn := HSN.out
            go_wp2_with fail
            refine (s_l01Finite _ _).mono ?_
            rintro e w' ⟨n, rfl, rfl⟩
            rw [HDF.out]
            go_wp2_with fail
            refine (HW.out _).mono ?_
            rintro e w' ⟨rfl, rfl⟩
            clear hs hsn
            go_wp2_with fail
            refine (s_l01Finite _ _).mono ?_
            rintro e w' ⟨n2, rfl, rfl⟩
            rw [hT]
            go_wp2
            refine bodyPost_ret (v := .tuple #[.float .f32 0, .bool false]) (by simp [results, Try.results83, go_sem]) rfl ?_
            first | exact ⟨_, rfl, rfl⟩ | exact ⟨rfl, _, rfl⟩ | exact ⟨_, rfl, by first | rfl | (simp only [World.drewN_drewN]; rfl)⟩ | exact ⟨rfl, _, by first | rfl | (simp only [World.drewN_drewN]; rfl)⟩
          · go_enter Try.func83, Try.ntmps83
            have hs := HS.out
            have hsn := HSN.out
            go_wp2_with fail
            refine (s_l01Finite _ _).mono ?_
            rintro e w' ⟨n, rfl, rfl⟩
            rw [HDF.out]
            go_wp2_with fail
            refine (HW.out _).mono ?_
            rintro e w' ⟨rfl, rfl⟩
            clear hs hsn
            go_wp2_with fail
            refine (s_l01Finite _ _).mono ?_
            rintro e w' ⟨n2, rfl, rfl⟩
            rw [hT]
            go_wp2_with fail
            refine (s_l02Wrap _ hT _).mono ?_
            rintro e w' ⟨rfl, rfl⟩
            go_wp2
            refine bodyPost_ret (v := .tuple #[.float .f32 (wrapT (fop .add .f32 ya ra)), .bool true]) (by simp [results, Try.results83, go_sem]) rfl ?_
            first | exact ⟨_, rfl, rfl⟩ | exact ⟨rfl, _, rfl⟩ | exact ⟨_, rfl, by first | rfl | (simp only [World.drewN_drewN]; rfl)⟩ | exact ⟨rfl, _, by first | rfl | (simp only [World.drewN_drewN]; rfl)⟩
      · skip
        cases p2 : (FloatKind.f32.format.order (Op.negFloat .f32 d) ra == some .lt || FloatKind.f32.format.order (Op.negFloat .f32 d) ra == some .eq)
        · skip
          cases q3 : (FloatKind.f32.format.order d 0 == some .gt)
          · skip
            obtain ⟨hO, hR⟩ := HTO.out (fop .sub .f32 ya ra) (by unfold yawTo; rw [HL1.out, HL2.out]; unfold leq32 gtr32; rw [q1, q2, p2, q3]; rfl)
            rw [hO, hR]
            clear hO hR
            obtain ⟨s1, s2⟩ := fop_sure (sub_num (k := .f32) HFY.out (amt_fin HA.out))
            cases hT : fin .f32 (fop .sub .f32 ya ra)
            · go_enter Try.func83, Try.ntmps83
              have hs := HS.out
              have hsn := HSN.out
              go_wp2_with fail
              refine (s_l01Finite _ _).mono ?_
              rintro e w' ⟨n, rfl, rfl⟩
              rw [HDF.out]
              go_wp2_with fail
              refine (HW.out _).mono ?_
              rintro e w' ⟨rfl, rfl⟩
              clear hs hsn
              go_wp2_with fail
              refine (s_l01Finite _ _).mono ?_
              rintro e w' ⟨n2, rfl, rfl⟩
              rw [hT]
              go_wp2
              refine bodyPost_ret (v := .tuple #[.float .f32 0, .bool false]) (by simp [results, Try.results83, go_sem]) rfl ?_
              first | exact ⟨_, rfl, rfl⟩ | exact ⟨rfl, _, rfl⟩ | exact ⟨_, rfl, by first | rfl | (simp only [World.drewN_drewN]; rfl)⟩ | exact ⟨rfl, _, by first | rfl | (simp only [World.drewN_drewN]; rfl)⟩
            · go_enter Try.func83, Try.ntmps83
              have hs := HS.out
              have hsn := HSN.out
              go_wp2_with fail
              refine (s_l01Finite _ _).mono ?_
              rintro e w' ⟨n, rfl, rfl⟩
              rw [HDF.out]
              go_wp2_with fail
              refine (HW.out _).mono ?_
              rintro e w' ⟨rfl, rfl⟩
              clear hs hsn
              go_wp2_with fail
              refine (s_l01Finite _ _).mono ?_
              rintro e w' ⟨n2, rfl, rfl⟩
              rw [hT]
              go_wp2_with fail
              refine (s_l02Wrap _ hT _).mono ?_
              rintro e w' ⟨rfl, rfl⟩
              go_wp2
              refine bodyPost_ret (v := .tuple #[.float .f32 (wrapT (fop .sub .f32 ya ra)), .bool true]) (by simp [results, Try.results83, go_sem]) rfl ?_
              first | exact ⟨_, rfl, rfl⟩ | exact ⟨rfl, _, rfl⟩ | exact ⟨_, rfl, by first | rfl | (simp only [World.drewN_drewN]; rfl)⟩ | exact ⟨rfl, _, by first | rfl | (simp only [World.drewN_drewN]; rfl)⟩
          · skip
            obtain ⟨hO, hR⟩ := HTO.out (fop .add .f32 ya ra) (by unfold yawTo; rw [HL1.out, HL2.out]; unfold leq32 gtr32; rw [q1, q2, p2, q3]; rfl)
            rw [hO, hR]
            clear hO hR
            obtain ⟨s1, s2⟩ := fop_sure (add_num (k := .f32) HFY.out (amt_fin HA.out))
            cases hT : fin .f32 (fop .add .f32 ya ra)
            · go_enter Try.func83, Try.ntmps83
              have hs := HS.out
              have hsn := HSN.out
              go_wp2_with fail
              refine (s_l01Finite _ _).mono ?_
              rintro e w' ⟨n, rfl, rfl⟩
              rw [HDF.out]
              go_wp2_with fail
              refine (HW.out _).mono ?_
              rintro e w' ⟨rfl, rfl⟩
              clear hs hsn
              go_wp2_with fail
              refine (s_l01Finite _ _).mono ?_
              rintro e w' ⟨n2, rfl, rfl⟩
              rw [hT]
              go_wp2
              refine bodyPost_ret (v := .tuple #[.float .f32 0, .bool false]) (by simp [results, Try.results83, go_sem]) rfl ?_
              first | exact ⟨_, rfl, rfl⟩ | exact ⟨rfl, _, rfl⟩ | exact ⟨_, rfl, by first | rfl | (simp only [World.drewN_drewN]; rfl)⟩ | exact ⟨rfl, _, by first | rfl | (simp only [World.drewN_drewN]; rfl)⟩
            · go_enter Try.func83, Try.ntmps83
              have hs := HS.out
              have hsn := HSN.out
              go_wp2_with fail
              refine (s_l01Finite _ _).mono ?_
              rintro e w' ⟨n, rfl, rfl⟩
              rw [HDF.out]
              go_wp2_with fail
              refine (HW.out _).mono ?_
              rintro e w' ⟨rfl, rfl⟩
              clear hs hsn
              go_wp2_with fail
              refine (s_l01Finite _ _).mono ?_
              rintro e w' ⟨n2, rfl, rfl⟩
              rw [hT]
              go_wp2_with fail
              refine (s_l02Wrap _ hT _).mono ?_
              rintro e w' ⟨rfl, rfl⟩
              go_wp2
              refine bodyPost_ret (v := .tuple #[.float .f32 (wrapT (fop .add .f32 ya ra)), .bool true]) (by simp [results, Try.results83, go_sem]) rfl ?_
              first | exact ⟨_, rfl, rfl⟩ | exact ⟨rfl, _, rfl⟩ | exact ⟨_, rfl, by first | rfl | (simp only [World.drewN_drewN]; rfl)⟩ | exact ⟨rfl, _, by first | rfl | (simp only [World.drewN_drewN]; rfl)⟩
        · skip
          obtain ⟨hO, hR⟩ := HTO.out (fop .add .f32 ya d) (by unfold yawTo; rw [HL1.out, HL2.out]; unfold leq32 gtr32; rw [q1, q2, p2]; rfl)
          rw [hO, hR]
          clear hO hR
          obtain ⟨s1, s2⟩ := fop_sure (add_num (k := .f32) HFY.out HFD.out)
          cases hT : fin .f32 (fop .add .f32 ya d)
          · go_enter Try.func83, Try.ntmps83
            have hs := HS.out
            have hsn := HSN.out
            go_wp2_with fail
            refine (s_l01Finite _ _).mono ?_
            rintro e w' ⟨n, rfl, rfl⟩
            rw [HDF.out]
            go_wp2_with fail
            refine (HW.out _).mono ?_
            rintro e w' ⟨rfl, rfl⟩
            clear hs hsn
            go_wp2_with fail
            refine (s_l01Finite _ _).mono ?_
            rintro e w' ⟨n2, rfl, rfl⟩
            rw [hT]
            go_wp2
            refine bodyPost_ret (v := .tuple #[.float .f32 0, .bool false]) (by simp [results, Try.results83, go_sem]) rfl ?_
            first | exact ⟨_, rfl, rfl⟩ | exact ⟨rfl, _, rfl⟩ | exact ⟨_, rfl, by first | rfl | (simp only [World.drewN_drewN]; rfl)⟩ | exact ⟨rfl, _, by first | rfl | (simp only [World.drewN_drewN]; rfl)⟩
          · go_enter Try.func83, Try.ntmps83
            have hs := HS.out
            have hsn := HSN.out
            go_wp2_with fail
            refine (s_l01Finite _ _).mono ?_
            rintro e w' ⟨n, rfl, rfl⟩
            rw [HDF.out]
            go_wp2_with fail
            refine (HW.out _).mono ?_
            rintro e w' ⟨rfl, rfl⟩
            clear hs hsn
            go_wp2_with fail
            refine (s_l01Finite _ _).mono ?_
            rintro e w' ⟨n2, rfl, rfl⟩
            rw [hT]
            go_wp2_with fail
            refine (s_l02Wrap _ hT _).mono ?_
            rintro e w' ⟨rfl, rfl⟩
            go_wp2
            refine bodyPost_ret (v := .tuple #[.float .f32 (wrapT (fop .add .f32 ya d)), .bool true]) (by simp [results, Try.results83, go_sem]) rfl ?_
            first | exact ⟨_, rfl, rfl⟩ | exact ⟨rfl, _, rfl⟩ | exact ⟨_, rfl, by first | rfl | (simp only [World.drewN_drewN]; rfl)⟩ | exact ⟨rfl, _, by first | rfl | (simp only [World.drewN_drewN]; rfl)⟩
    · skip
      cases p1 : (FloatKind.f32.format.order (Op.negFloat .f32 d) ne == some .lt || FloatKind.f32.format.order (Op.negFloat .f32 d) ne == some .eq)
      · skip
        cases q2 : (FloatKind.f32.format.order d ra == some .lt || FloatKind.f32.format.order d ra == some .eq)
        · skip
          cases q3 : (FloatKind.f32.format.order d 0 == some .gt)
          · skip
            obtain ⟨hO, hR⟩ := HTO.out (fop .sub .f32 ya ra) (by unfold yawTo; rw [HL1.out, HL2.out]; unfold leq32 gtr32; rw [q1, p1, q2, q3]; rfl)
            rw [hO, hR]
            clear hO hR
            obtain ⟨s1, s2⟩ := fop_sure (sub_num (k := .f32) HFY.out (amt_fin HA.out))
            cases hT : fin .f32 (fop .sub .f32 ya ra)
            · go_enter Try.func83, Try.ntmps83
              have hs := HS.out
              have hsn := HSN.out
              go_wp2_with fail
              refine (s_l01Finite _ _).mono ?_
              rintro e w' ⟨n, rfl, rfl⟩
              rw [HDF.out]
              go_wp2_with fail
              refine (HW.out _).mono ?_
              rintro e w' ⟨rfl, rfl⟩
              clear hs hsn
              go_wp2_with fail
              refine (s_l01Finite _ _).mono ?_
              rintro e w' ⟨n2, rfl, rfl⟩
              rw [hT]
              go_wp2
              refine bodyPost_ret (v := .tuple #[.float .f32 0, .bool false]) (by simp [results, Try.results83, go_sem]) rfl ?_
              first | exact ⟨_, rfl, rfl⟩ | exact ⟨rfl, _, rfl⟩ | exact ⟨_, rfl, by first | rfl | (simp only [World.drewN_drewN]; rfl)⟩ | exact ⟨rfl, _, by first | rfl | (simp only [World.drewN_drewN]; rfl)⟩
            · go_enter Try.func83, Try.ntmps83
              have hs := HS.out
              have hsn := HSN.out
              go_wp2_with fail
              refine (s_l01Finite _ _).mono ?_
              rintro e w' ⟨n, rfl, rfl⟩
              rw [HDF.out]
              go_wp2_with fail
              refine (HW.out _).mono ?_
              rintro e w' ⟨rfl, rfl⟩
              clear hs hsn
              go_wp2_with fail
              refine (s_l01Finite _ _).mono ?_
              rintro e w' ⟨n2, rfl, rfl⟩
              rw [hT]
              go_wp2_with fail
              refine (s_l02Wrap _ hT _).mono ?_
              rintro e w' ⟨rfl, rfl⟩
              go_wp2
              refine bodyPost_ret (v := .tuple #[.float .f32 (wrapT (fop .sub .f32 ya ra)), .bool true]) (by simp [results, Try.results83, go_sem]) rfl ?_
              first | exact ⟨_, rfl, rfl⟩ | exact ⟨rfl, _, rfl⟩ | exact ⟨_, rfl, by first | rfl | (simp only [World.drewN_drewN]; rfl)⟩ | exact ⟨rfl, _, by first | rfl | (simp only [World.drewN_drewN]; rfl)⟩
          · skip
            obtain ⟨hO, hR⟩ := HTO.out (fop .add .f32 ya ra) (by unfold yawTo; rw [HL1.out, HL2.out]; unfold leq32 gtr32; rw [q1, p1, q2, q3]; rfl)
            rw [hO, hR]
            clear hO hR
            obtain ⟨s1, s2⟩ := fop_sure (add_num (k := .f32) HFY.out (amt_fin HA.out))
            cases hT : fin .f32 (fop .add .f32 ya ra)
            · go_enter Try.func83, Try.ntmps83
              have hs := HS.out
              have hsn := HSN.out
              go_wp2_with fail
              refine (s_l01Finite _ _).mono ?_
              rintro e w' ⟨n, rfl, rfl⟩
              rw [HDF.out]
              go_wp2_with fail
              refine (HW.out _).mono ?_
              rintro e w' ⟨rfl, rfl⟩
              clear hs hsn
              go_wp2_with fail
              refine (s_l01Finite _ _).mono ?_
              rintro e w' ⟨n2, rfl, rfl⟩
              rw [hT]
              go_wp2
              refine bodyPost_ret (v := .tuple #[.float .f32 0, .bool false]) (by simp [results, Try.results83, go_sem]) rfl ?_
              first | exact ⟨_, rfl, rfl⟩ | exact ⟨rfl, _, rfl⟩ | exact ⟨_, rfl, by first | rfl | (simp only [World.drewN_drewN]; rfl)⟩ | exact ⟨rfl, _, by first | rfl | (simp only [World.drewN_drewN]; rfl)⟩
            · go_enter Try.func83, Try.ntmps83
              have hs := HS.out
              have hsn := HSN.out
              go_wp2_with fail
              refine (s_l01Finite _ _).mono ?_
              rintro e w' ⟨n, rfl, rfl⟩
              rw [HDF.out]
              go_wp2_with fail
              refine (HW.out _).mono ?_
              rintro e w' ⟨rfl, rfl⟩
              clear hs hsn
              go_wp2_with fail
              refine (s_l01Finite _ _).mono ?_
              rintro e w' ⟨n2, rfl, rfl⟩
              rw [hT]
              go_wp2_with fail
              refine (s_l02Wrap _ hT _).mono ?_
              rintro e w' ⟨rfl, rfl⟩
              go_wp2
              refine bodyPost_ret (v := .tuple #[.float .f32 (wrapT (fop .add .f32 ya ra)), .bool true]) (by simp [results, Try.results83, go_sem]) rfl ?_
              first | exact ⟨_, rfl, rfl⟩ | exact ⟨rfl, _, rfl⟩ | exact ⟨_, rfl, by first | rfl | (simp only [World.drewN_drewN]; rfl)⟩ | exact ⟨rfl, _, by first | rfl | (simp only [World.drewN_drewN]; rfl)⟩
        · skip
          cases p2 : (FloatKind.f32.format.order (Op.negFloat .f32 d) ra == some .lt || FloatKind.f32.format.order (Op.negFloat .f32 d) ra == some .eq)
          · skip
            cases q3 : (FloatKind.f32.format.order d 0 == some .gt)
            · skip
              obtain ⟨hO, hR⟩ := HTO.out (fop .sub .f32 ya ra) (by unfold yawTo; rw [HL1.out, HL2.out]; unfold leq32 gtr32; rw [q1, p1, q2, p2, q3]; rfl)
              rw [hO, hR]
              clear hO hR
              obtain ⟨s1, s2⟩ := fop_sure (sub_num (k := .f32) HFY.out (amt_fin HA.out))
              cases hT : fin .f32 (fop .sub .f32 ya ra)
              · go_enter Try.func83, Try.ntmps83
                have hs := HS.out
                have hsn := HSN.out
                go_wp2_with fail
                refine (s_l01Finite _ _).mono ?_
                rintro e w' ⟨n, rfl, rfl⟩
                rw [HDF.out]
                go_wp2_with fail
                refine (HW.out _).mono ?_
                rintro e w' ⟨rfl, rfl⟩
                clear hs hsn
                go_wp2_with fail
                refine (s_l01Finite _ _).mono ?_
                rintro e w' ⟨n2, rfl, rfl⟩
                rw [hT]
                go_wp2
                refine bodyPost_ret (v := .tuple #[.float .f32 0, .bool false]) (by simp [results, Try.results83, go_sem]) rfl ?_
                first | exact ⟨_, rfl, rfl⟩ | exact ⟨rfl, _, rfl⟩ | exact ⟨_, rfl, by first | rfl | (simp only [World.drewN_drewN]; rfl)⟩ | exact ⟨rfl, _, by first | rfl | (simp only [World.drewN_drewN]; rfl)⟩
              · go_enter Try.func83, Try.ntmps83
                have hs := HS.out
                have hsn := HSN.out
                go_wp2_with fail
                refine (s_l01Finite _ _).mono ?_
                rintro e w' ⟨n, rfl, rfl⟩
                rw [HDF.out]
                go_wp2_with fail
                refine (HW.out _).mono ?_
                rintro e w' ⟨rfl, rfl⟩
                clear hs hsn
                go_wp2_with fail
                refine (s_l01Finite _ _).mono ?_
                rintro e w' ⟨n2, rfl, rfl⟩
                rw [hT]
                go_wp2_with fail
                refine (s_l02Wrap _ hT _).mono ?_
                rintro e w' ⟨rfl, rfl⟩
                go_wp2
                refine bodyPost_ret (v := .tuple #[.float .f32 (wrapT (fop .sub .f32 ya ra)), .bool true]) (by simp [results, Try.results83, go_sem]) rfl ?_
                first | exact ⟨_, rfl, rfl⟩ | exact ⟨rfl, _, rfl⟩ | exact ⟨_, rfl, by first | rfl | (simp only [World.drewN_drewN]; rfl)⟩ | exact ⟨rfl, _, by first | rfl | (simp only [World.drewN_drewN]; rfl)⟩
            · skip
              obtain ⟨hO, hR⟩ := HTO.out (fop .add .f32 ya ra) (by unfold yawTo; rw [HL1.out, HL2.out]; unfold leq32 gtr32; rw [q1, p1, q2, p2, q3]; rfl)
              rw [hO, hR]
              clear hO hR
              obtain ⟨s1, s2⟩ := fop_sure (add_num (k := .f32) HFY.out (amt_fin HA.out))
              cases hT : fin .f32 (fop .add .f32 ya ra)
              · go_enter Try.func83, Try.ntmps83
                have hs := HS.out
                have hsn := HSN.out
                go_wp2_with fail
                refine (s_l01Finite _ _).mono ?_
                rintro e w' ⟨n, rfl, rfl⟩
                rw [HDF.out]
                go_wp2_with fail
                refine (HW.out _).mono ?_
                rintro e w' ⟨rfl, rfl⟩
                clear hs hsn
                go_wp2_with fail
                refine (s_l01Finite _ _).mono ?_
                rintro e w' ⟨n2, rfl, rfl⟩
                rw [hT]
                go_wp2
                refine bodyPost_ret (v := .tuple #[.float .f32 0, .bool false]) (by simp [results, Try.results83, go_sem]) rfl ?_
                first | exact ⟨_, rfl, rfl⟩ | exact ⟨rfl, _, rfl⟩ | exact ⟨_, rfl, by first | rfl | (simp only [World.drewN_drewN]; rfl)⟩ | exact ⟨rfl, _, by first | rfl | (simp only [World.drewN_drewN]; rfl)⟩
              · go_enter Try.func83, Try.ntmps83
                have hs := HS.out
                have hsn := HSN.out
                go_wp2_with fail
                refine (s_l01Finite _ _).mono ?_
                rintro e w' ⟨n, rfl, rfl⟩
                rw [HDF.out]
                go_wp2_with fail
                refine (HW.out _).mono ?_
                rintro e w' ⟨rfl, rfl⟩
                clear hs hsn
                go_wp2_with fail
                refine (s_l01Finite _ _).mono ?_
                rintro e w' ⟨n2, rfl, rfl⟩
                rw [hT]
                go_wp2_with fail
                refine (s_l02Wrap _ hT _).mono ?_
                rintro e w' ⟨rfl, rfl⟩
                go_wp2
                refine bodyPost_ret (v := .tuple #[.float .f32 (wrapT (fop .add .f32 ya ra)), .bool true]) (by simp [results, Try.results83, go_sem]) rfl ?_
                first | exact ⟨_, rfl, rfl⟩ | exact ⟨rfl, _, rfl⟩ | exact ⟨_, rfl, by first | rfl | (simp only [World.drewN_drewN]; rfl)⟩ | exact ⟨rfl, _, by first | rfl | (simp only [World.drewN_drewN]; rfl)⟩
          · skip
            obtain ⟨hO, hR⟩ := HTO.out (fop .add .f32 ya d) (by unfold yawTo; rw [HL1.out, HL2.out]; unfold leq32 gtr32; rw [q1, p1, q2, p2]; rfl)
            rw [hO, hR]
            clear hO hR
            obtain ⟨s1, s2⟩ := fop_sure (add_num (k := .f32) HFY.out HFD.out)
            cases hT : fin .f32 (fop .add .f32 ya d)
            · go_enter Try.func83, Try.ntmps83
              have hs := HS.out
              have hsn := HSN.out
              go_wp2_with fail
              refine (s_l01Finite _ _).mono ?_
              rintro e w' ⟨n, rfl, rfl⟩
              rw [HDF.out]
              go_wp2_with fail
              refine (HW.out _).mono ?_
              rintro e w' ⟨rfl, rfl⟩
              clear hs hsn
              go_wp2_with fail
              refine (s_l01Finite _ _).mono ?_
              rintro e w' ⟨n2, rfl, rfl⟩
              rw [hT]
              go_wp2
              refine bodyPost_ret (v := .tuple #[.float .f32 0, .bool false]) (by simp [results, Try.results83, go_sem]) rfl ?_
              first | exact ⟨_, rfl, rfl⟩ | exact ⟨rfl, _, rfl⟩ | exact ⟨_, rfl, by first | rfl | (simp only [World.drewN_drewN]; rfl)⟩ | exact ⟨rfl, _, by first | rfl | (simp only [World.drewN_drewN]; rfl)⟩
            · go_enter Try.func83, Try.ntmps83
              have hs := HS.out
              have hsn := HSN.out
              go_wp2_with fail
              refine (s_l01Finite _ _).mono ?_
              rintro e w' ⟨n, rfl, rfl⟩
              rw [HDF.out]
              go_wp2_with fail
              refine (HW.out _).mono ?_
              rintro e w' ⟨rfl, rfl⟩
              clear hs hsn
              go_wp2_with fail
              refine (s_l01Finite _ _).mono ?_
              rintro e w' ⟨n2, rfl, rfl⟩
              rw [hT]
              go_wp2_with fail
              refine (s_l02Wrap _ hT _).mono ?_
              rintro e w' ⟨rfl, rfl⟩
              go_wp2
              refine bodyPost_ret (v := .tuple #[.float .f32 (wrapT (fop .add .f32 ya d)), .bool true]) (by simp [results, Try.results83, go_sem]) rfl ?_
              first | exact ⟨_, rfl, rfl⟩ | exact ⟨rfl, _, rfl⟩ | exact ⟨_, rfl, by first | rfl | (simp only [World.drewN_drewN]; rfl)⟩ | exact ⟨rfl, _, by first | rfl | (simp only [World.drewN_drewN]; rfl)⟩
      · skip
        obtain ⟨hO, hR⟩ := HTO.out (ya) (by unfold yawTo; rw [HL1.out, HL2.out]; unfold leq32 gtr32; rw [q1, p1]; rfl)
        rw [hO, hR]
        clear hO hR
        have hT := HFY.out
        rw [hT]
        go_enter Try.func83, Try.ntmps83
        have hs := HS.out
        have hsn := HSN.out
        go_wp2_with fail
        refine (s_l01Finite _ _).mono ?_
        rintro e w' ⟨n, rfl, rfl⟩
        rw [HDF.out]
        go_wp2_with fail
        refine (HW.out _).mono ?_
        rintro e w' ⟨rfl, rfl⟩
        clear hs hsn
        go_wp2_with fail
        refine (s_l01Finite _ _).mono ?_
        rintro e w' ⟨n2, rfl, rfl⟩
        rw [hT]
        go_wp2_with fail
        refine (s_l02Wrap _ hT _).mono ?_
        rintro e w' ⟨rfl, rfl⟩
        go_wp2
        refine bodyPost_ret (v := .tuple #[.float .f32 (wrapT ya), .bool true]) (by simp [results, Try.results83, go_sem]) rfl ?_
        first | exact ⟨_, rfl, rfl⟩ | exact ⟨rfl, _, rfl⟩ | exact ⟨_, rfl, by first | rfl | (simp only [World.drewN_drewN]; rfl)⟩ | exact ⟨rfl, _, by first | rfl | (simp only [World.drewN_drewN]; rfl)⟩
set_option maxHeartbeats 8000000 in
theorem s_YawStep0 (ya wi ra ne : Nat) (w : World) :
    Calls Try.prog 37 #[.float .f32 ya, .float .f32 wi, .float .f32 ra, .float .f32 ne] w fun e w' => ∃ n, e = .returned (.tuple #[.float .f32 (yawR ya wi ra ne), .bool (yawO ya wi ra ne)]) ∧ w' = w.drewN n := by
  cases hy : fin .f32 ya
  · obtain ⟨hO, hR⟩ := yaw_no1 (ra := ra) (ne := ne) (show fin .f32 (yawD ya wi) = false from subR_not_fin hy)
    rw [hO, hR]
    clear hO hR
    go_enter Try.func37, Try.ntmps37
    go_wp2_with fail
    refine (s_l01Finite _ _).mono ?_
    rintro e w' ⟨n, rfl, rfl⟩
    rw [hy]
    go_wp2
    refine bodyPost_ret (v := .tuple #[.float .f32 0, .bool false]) (by simp [results, Try.results37, go_sem]) rfl ?_
    first | exact ⟨_, rfl, rfl⟩ | exact ⟨rfl, _, rfl⟩ | exact ⟨_, rfl, by first | rfl | (simp only [World.drewN_drewN]; rfl)⟩ | exact ⟨rfl, _, by first | rfl | (simp only [World.drewN_drewN]; rfl)⟩
  · cases hw : fin .f32 wi
    · obtain ⟨hO, hR⟩ := yaw_no1 (ra := ra) (ne := ne) (show fin .f32 (yawD ya wi) = false from subL_not_fin hw)
      rw [hO, hR]
      clear hO hR
      go_enter Try.func37, Try.ntmps37
      go_wp2_with fail
      refine (s_l01Finite _ _).mono ?_
      rintro e w' ⟨n, rfl, rfl⟩
      rw [hy]
      go_wp2_with fail
      refine (s_l01Finite _ _).mono ?_
      rintro e w' ⟨n2, rfl, rfl⟩
      rw [hw]
      go_wp2
      refine bodyPost_ret (v := .tuple #[.float .f32 0, .bool false]) (by simp [results, Try.results37, go_sem]) rfl ?_
      first | exact ⟨_, rfl, rfl⟩ | exact ⟨rfl, _, rfl⟩ | exact ⟨_, rfl, by first | rfl | (simp only [World.drewN_drewN]; rfl)⟩ | exact ⟨rfl, _, by first | rfl | (simp only [World.drewN_drewN]; rfl)⟩
    · cases hra : amount ra
      · obtain ⟨hO, hR⟩ := yaw_no2 (ya := ya) (wi := wi) (ne := ne) hra
        rw [hO, hR]
        clear hO hR
        go_enter Try.func37, Try.ntmps37
        go_wp2_with fail
        refine (s_l01Finite _ _).mono ?_
        rintro e w' ⟨n, rfl, rfl⟩
        rw [hy]
        go_wp2_with fail
        refine (s_l01Finite _ _).mono ?_
        rintro e w' ⟨n2, rfl, rfl⟩
        rw [hw]
        go_wp2_with fail
        refine (s_l02Least _ _).mono ?_
        rintro e w' ⟨n3, rfl, rfl⟩
        rw [hra]
        go_wp2
        refine bodyPost_ret (v := .tuple #[.float .f32 0, .bool false]) (by simp [results, Try.results37, go_sem]) rfl ?_
        first | exact ⟨_, rfl, rfl⟩ | exact ⟨rfl, _, rfl⟩ | exact ⟨_, rfl, by first | rfl | (simp only [World.drewN_drewN]; rfl)⟩ | exact ⟨rfl, _, by first | rfl | (simp only [World.drewN_drewN]; rfl)⟩
      · cases hne : amount ne
        · obtain ⟨hO, hR⟩ := yaw_no3 (ya := ya) (wi := wi) (ra := ra) hne
          rw [hO, hR]
          clear hO hR
          go_enter Try.func37, Try.ntmps37
          go_wp2_with fail
          refine (s_l01Finite _ _).mono ?_
          rintro e w' ⟨n, rfl, rfl⟩
          rw [hy]
          go_wp2_with fail
          refine (s_l01Finite _ _).mono ?_
          rintro e w' ⟨n2, rfl, rfl⟩
          rw [hw]
          go_wp2_with fail
          refine (s_l02Least _ _).mono ?_
          rintro e w' ⟨n3, rfl, rfl⟩
          rw [hra]
          go_wp2_with fail
          refine (s_l02Least _ _).mono ?_
          rintro e w' ⟨n4, rfl, rfl⟩
          rw [hne]
          go_wp2
          refine bodyPost_ret (v := .tuple #[.float .f32 0, .bool false]) (by simp [results, Try.results37, go_sem]) rfl ?_
          first | exact ⟨_, rfl, rfl⟩ | exact ⟨rfl, _, rfl⟩ | exact ⟨_, rfl, by first | rfl | (simp only [World.drewN_drewN]; rfl)⟩ | exact ⟨rfl, _, by first | rfl | (simp only [World.drewN_drewN]; rfl)⟩
        · skip
          go_enter Try.func37, Try.ntmps37
          go_wp2_with fail
          refine (s_l01Finite _ _).mono ?_
          rintro e w' ⟨n, rfl, rfl⟩
          rw [hy]
          go_wp2_with fail
          refine (s_l01Finite _ _).mono ?_
          rintro e w' ⟨n2, rfl, rfl⟩
          rw [hw]
          go_wp2_with fail
          refine (s_l02Least _ _).mono ?_
          rintro e w' ⟨n3, rfl, rfl⟩
          rw [hra]
          go_wp2_with fail
          refine (s_l02Least _ _).mono ?_
          rintro e w' ⟨n4, rfl, rfl⟩
          rw [hne]
          go_wp2_with fail
          refine (s_l05Yaw ya wi ra ne _ hy hw hra hne).mono ?_
          rintro e w' ⟨n5, rfl, rfl⟩
          go_wp2
          refine bodyPost_ret (v := .tuple #[.float .f32 (yawR ya wi ra ne), .bool (yawO ya wi ra ne)]) (by simp [results, Try.results37, go_sem]) rfl ?_
          first | exact ⟨_, rfl, rfl⟩ | exact ⟨rfl, _, rfl⟩ | exact ⟨_, rfl, by first | rfl | (simp only [World.drewN_drewN]; rfl)⟩ | exact ⟨rfl, _, by first | rfl | (simp only [World.drewN_drewN]; rfl)⟩
theorem i_YawStep (ya wi ra ne : Nat) (w : World) :
    Calls Try.prog 38 #[.float .f32 ya, .float .f32 wi, .float .f32 ra, .float .f32 ne] w fun e w' => ∃ r n, e = .returned (.tuple #[.float .f32 r, .bool (yawO ya wi ra ne)]) ∧ canon .f32 r = canon .f32 (yawR ya wi ra ne) ∧ w' = w.drewN n :=
  (i_YawStep0 ya wi ra ne w).mono fun _ _ ⟨n, he, hw⟩ => ⟨_, n, he, rfl, hw⟩
theorem s_YawStep (ya wi ra ne : Nat) (w : World) :
    Calls Try.prog 37 #[.float .f32 ya, .float .f32 wi, .float .f32 ra, .float .f32 ne] w fun e w' => ∃ r n, e = .returned (.tuple #[.float .f32 r, .bool (yawO ya wi ra ne)]) ∧ canon .f32 r = canon .f32 (yawR ya wi ra ne) ∧ w' = w.drewN n :=
  (s_YawStep0 ya wi ra ne w).mono fun _ _ ⟨n, he, hw⟩ => ⟨_, n, he, rfl, hw⟩
end Go.Proofs.Ytmcfnkfcklcpnab
