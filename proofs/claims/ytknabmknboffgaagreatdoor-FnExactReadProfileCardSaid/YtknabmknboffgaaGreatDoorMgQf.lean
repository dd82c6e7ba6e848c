/- A profile out of a text, put together No statement is proved here. -/
import Derived.Test.YtknabmknboffgaaGreatDoorApG
import Derived.Test.YtknabmknboffgaaGreatDoorPgr
import Derived.Test.YtknabmknboffgaaGreatDoorPrt
import Derived.Test.YtknabmknboffgaaGreatDoorStC
import Derived.Test.YtknabmknboffgaaGreatDoorInv7
import Derived.Test.YtknabmknboffgaaGreatDoorRdB
import Derived.Test.YtknabmknboffgaaGreatDoorVal
import Derived.Test.YtknabmknboffgaaGreatDoorNumS
import Derived.Test.YtknabmknboffgaaGreatDoorCutS
import Derived.Test.YtknabmknboffgaaGreatDoorInv4
import Derived.Test.YtknabmknboffgaaGreatDoorMarkR
import Derived.Test.YtknabmknboffgaaGreatDoorMark
namespace Go.Proofs.YtknabmknboffgaaGreatDoor
open Go Go.RowKit
def qfX (s : ByteArray) : List Nat := nmL (pcs 58 s 0)
def qfY (s : ByteArray) : List Nat := nmL (pcs 58 s 1)
def qfZ (s : ByteArray) : List Nat := nmL (pcs 58 s 2)
def qfO (s : ByteArray) : Bool := decide ((cutS 58 s).length = 3) && (nmO (pcs 58 s 0) && (nmO (pcs 58 s 1) && nmO (pcs 58 s 2)))
theorem qfO_iff {s : ByteArray} : qfO s = true ↔ ((cutS 58 s).length = 3 ∧ nmO (pcs 58 s 0) = true ∧ nmO (pcs 58 s 1) = true ∧ nmO (pcs 58 s 2) = true) := by
  unfold qfO; rw [Bool.and_eq_true, Bool.and_eq_true, Bool.and_eq_true, decide_eq_true_eq]
theorem qfO_no {s : ByteArray} (h : ¬ ((cutS 58 s).length = 3 ∧ nmO (pcs 58 s 0) = true ∧ nmO (pcs 58 s 1) = true ∧ nmO (pcs 58 s 2) = true)) : qfO s = false := by
  cases e : qfO s
  · rfl
  · exact absurd (qfO_iff.1 e) h
def rqO (s : ByteArray) : Bool := qfO s && validP (qfX s) (qfY s) (qfZ s)
theorem qf_few (s : ByteArray) : Few (qfX s) (qfY s) (qfZ s) := by
  have h1 := nm_256 (pcs 58 s 0)
  have h2 := nm_256 (pcs 58 s 1)
  have h3 := nm_256 (pcs 58 s 2)
  unfold Few qfX qfY qfZ
  omega
theorem qf_fewG (s : ByteArray) : Few (gLp (rqO s) (qfX s)) (gLp (rqO s) (qfY s)) (gLp (rqO s) (qfZ s)) := by
  cases rqO s
  · simp [gLp, Few]
  · exact qf_few s
end Go.Proofs.YtknabmknboffgaaGreatDoor
namespace Go.Proofs.YtknabmknboffgaaGreatDoor
open Go Go.RowKit
/-- what comes of a text: the thing, or what is given up with -/
def QfP (s : ByteArray) (pv : Value) (lo : Nat) (e : Ending) (w' : World) : Prop :=
  (qfO s = true ∧ ∃ (X Y Z : Option Addr) (cx cy cz gx gy gz : Nat), e = .returned (.agg #[.slice X (qfX s).length cx, .slice Y (qfY s).length cy, .slice Z (qfZ s).length cz]) ∧ OwnQ w' lo X Y Z gx gy gz (qfX s) (qfY s) (qfZ s)) ∨ (qfO s = false ∧ e = .panicked (chn pv))
def QfA (lo : Nat) (fx : List Nat) (fy : List Nat) (fz : List Nat) (W : World) (v : Value) : Prop := ∃ (X Y Z : Option Addr) (cx cy cz gx gy gz : Nat), v = .agg #[.slice X fx.length cx, .slice Y fy.length cy, .slice Z fz.length cz] ∧ OwnQ W lo X Y Z gx gy gz fx fy fz
def QfF (RB lo : Nat) (fx : List Nat) (fy : List Nat) (fz : List Nat) (W : World) : Prop := ∃ (X Y Z : Option Addr) (cx cy cz gx gy gz : Nat), BlkL W RB [.slice X fx.length cx, .slice Y fy.length cy, .slice Z fz.length cz] ∧ OwnQ W lo X Y Z gx gy gz fx fy fz
theorem QfA.turn {lo RB : Nat} {fx : List Nat} {fy : List Nat} {fz : List Nat} {W W' : World} {v : Value} (h : QfA lo fx fy fz W v) (ht : Turn W W' (fun b => b = RB)) (hb : RB < lo) : QfA lo fx fy fz W' v := by
  obtain ⟨X, Y, Z, cx, cy, cz, gx, gy, gz, rfl, h⟩ := h
  exact ⟨X, Y, Z, cx, cy, cz, gx, gy, gz, rfl, h.turnV ht hb⟩
theorem QfF.below (RB lo : Nat) (fx : List Nat) (fy : List Nat) (fz : List Nat) : ∀ wa wb : World, Below wa.heap.size wa wb → QfF RB lo fx fy fz wa → QfF RB lo fx fy fz wb := by
  rintro wa wb hb ⟨X, Y, Z, cx, cy, cz, gx, gy, gz, h1, h2⟩
  exact ⟨X, Y, Z, cx, cy, cz, gx, gy, gz, h1.below hb, h2.belowV hb⟩
set_option maxHeartbeats 8000000 in
set_option maxRecDepth 100000 in
theorem i_profileIn_len (s : ByteArray) (pv : Value) (w : World) (hs : s.size ≤ 1048576) (hM : ML w) (hV : EMv pv w) (h : (cutS 58 s).length ≠ 3) :
    Calls Tryz.prog 41 #[.string s] w fun e w' => QfP s pv w.heap.size e w' ∧ Below w.heap.size w w' := by
  obtain ⟨w0, hw0⟩ : ∃ z, z = w.alloc (.cells #[.slice none 0 0, .slice none 0 0, .slice none 0 0] 39) := ⟨_, rfl⟩
  have b0 : Below w.heap.size w w0 := by rw [hw0]; exact (Below.refl _ _).alloc (Nat.le_refl _) _
  have HZ0 : Hid (w0.heap.size = w.heap.size + 1) := Lib.hid (by rw [hw0]; simp)
  have K0 : Hid (BlkL w0 w.heap.size [.slice none 0 0, .slice none 0 0, .slice none 0 0]) := Lib.hid (by rw [hw0]; exact blkL_at w #[.slice none 0 0, .slice none 0 0, .slice none 0 0] _ rfl)
  have B0 := Lib.hid b0
  have HCP := Lib.hid (i_partsIn_no 58 3 s pv w0 hs (hM.below b0) (hV.below b0) (by decide) (by decide) h)
  have HG : Hid (∀ w', QfP s pv w.heap.size (.panicked (chn pv)) w') := Lib.hid (fun _ => .inr ⟨qfO_no (fun e => h e.1), rfl⟩)
  clear hs hM hV h b0 HZ0 K0
  go_enter Tryz.func41, Tryz.ntmps41
  go_upto_region 1 with fail
  rw [← hw0]
  clear hw0
  go_wp2_with fail
  refine HCP.out.mono ?_
  rintro e w1 ⟨rfl, b1⟩
  go_wp2
  exact ⟨rfl, HG.out _, below_of B0.out B0.out.size b1⟩
set_option maxHeartbeats 8000000 in
set_option maxRecDepth 100000 in
theorem i_profileIn_main (s : ByteArray) (pv : Value) (w : World) (hs : s.size ≤ 1048576) (hE : EV w) (hT : T64 w) (hM : ML w) (hV : EMv pv w) (hl : (cutS 58 s).length = 3) :
    Calls Tryz.prog 41 #[.string s] w fun e w' => QfP s pv w.heap.size e w' ∧ Below w.heap.size w w' := by
  obtain ⟨w0, hw0⟩ : ∃ z, z = w.alloc (.cells #[.slice none 0 0, .slice none 0 0, .slice none 0 0] 39) := ⟨_, rfl⟩
  have b0 : Below w.heap.size w w0 := by rw [hw0]; exact (Below.refl _ _).alloc (Nat.le_refl _) _
  have HZ0 : Hid (w0.heap.size = w.heap.size + 1) := Lib.hid (by rw [hw0]; simp)
  have K0 : Hid (BlkL w0 w.heap.size [.slice none 0 0, .slice none 0 0, .slice none 0 0]) := Lib.hid (by rw [hw0]; exact blkL_at w #[.slice none 0 0, .slice none 0 0, .slice none 0 0] _ rfl)
  have B0 := Lib.hid b0
  have HCP := Lib.hid (i_partsIn_yes 58 3 s w0 hs (hM.below b0) (by decide) (by decide) hl)
  have HPS : Hid ((cutS 58 s)[0]? = some (pcs 58 s 0) ∧ (cutS 58 s)[1]? = some (pcs 58 s 1) ∧ (cutS 58 s)[2]? = some (pcs 58 s 2)) := Lib.hid ⟨pcs_at hl (by decide), pcs_at hl (by decide), pcs_at hl (by decide)⟩
  have HV : Hid (∀ W, Below w.heap.size w W → EMv pv W) := Lib.hid (fun W hb => hV.below hb)
  have HC0 : Hid (∀ W, Below w.heap.size w W → Calls Tryz.prog 70 #[.string (pcs 58 s 0)] W fun e w' => ∃ R1 c1 g1, e = .returned (.tuple #[.slice R1 (nmL (pcs 58 s 0)).length c1, .bool (nmO (pcs 58 s 0))]) ∧ OwnO w' W.heap.size R1 g1 (nmL (pcs 58 s 0)) ∧ Below W.heap.size W w') := Lib.hid (fun W hb => i_ReadNumbers (pcs 58 s 0) W (Nat.le_trans (pcs_size _ _ _) hs) (hE.below hb) (hT.below hb) (hM.below hb))
  have HC1 : Hid (∀ W, Below w.heap.size w W → Calls Tryz.prog 70 #[.string (pcs 58 s 1)] W fun e w' => ∃ R1 c1 g1, e = .returned (.tuple #[.slice R1 (nmL (pcs 58 s 1)).length c1, .bool (nmO (pcs 58 s 1))]) ∧ OwnO w' W.heap.size R1 g1 (nmL (pcs 58 s 1)) ∧ Below W.heap.size W w') := Lib.hid (fun W hb => i_ReadNumbers (pcs 58 s 1) W (Nat.le_trans (pcs_size _ _ _) hs) (hE.below hb) (hT.below hb) (hM.below hb))
  have HC2 : Hid (∀ W, Below w.heap.size w W → Calls Tryz.prog 70 #[.string (pcs 58 s 2)] W fun e w' => ∃ R1 c1 g1, e = .returned (.tuple #[.slice R1 (nmL (pcs 58 s 2)).length c1, .bool (nmO (pcs 58 s 2))]) ∧ OwnO w' W.heap.size R1 g1 (nmL (pcs 58 s 2)) ∧ Below W.heap.size W w') := Lib.hid (fun W hb => i_ReadNumbers (pcs 58 s 2) W (Nat.le_trans (pcs_size _ _ _) hs) (hE.below hb) (hT.below hb) (hM.below hb))
  have HF : Hid (∀ w' (X Y Z : Option Addr) (cx cy cz gx gy gz : Nat), nmO (pcs 58 s 0) = true → nmO (pcs 58 s 1) = true → nmO (pcs 58 s 2) = true → OwnQ w' w.heap.size X Y Z gx gy gz (qfX s) (qfY s) (qfZ s) → QfP s pv w.heap.size (.returned (.agg #[.slice X (qfX s).length cx, .slice Y (qfY s).length cy, .slice Z (qfZ s).length cz])) w') := Lib.hid (fun w' X Y Z cx cy cz gx gy gz h0 h1 h2 ho => .inl ⟨qfO_iff.2 ⟨hl, h0, h1, h2⟩, X, Y, Z, cx, cy, cz, gx, gy, gz, rfl, ho⟩)
  have HG : Hid (∀ w', (nmO (pcs 58 s 0) = false ∨ nmO (pcs 58 s 1) = false ∨ nmO (pcs 58 s 2) = false) → QfP s pv w.heap.size (.panicked (chn pv)) w') := Lib.hid (fun w' h => .inr ⟨qfO_no (fun e => by rcases h with h | h | h <;> simp [h] at e), rfl⟩)
  clear hs hE hT hM hV hl b0
  unfold qfX qfY qfZ at HF
  generalize pcs 58 s 0 = a0 at *
  generalize pcs 58 s 1 = a1 at *
  generalize pcs 58 s 2 = a2 at *
  generalize nmO a0 = b0 at *
  generalize nmL a0 = fx at *
  generalize nmO a1 = b1 at *
  generalize nmL a1 = fy at *
  generalize nmO a2 = b2 at *
  generalize nmL a2 = fz at *
  go_enter Tryz.func41, Tryz.ntmps41
  go_upto_region 1 with fail
  rw [← hw0]
  clear hw0
  go_wp2_with fail
  refine HCP.out.mono ?_
  rintro e w1 ⟨N, rfl, hc, hlt, b1⟩
  have HB1 := Lib.hid (below_of B0.out B0.out.size b1)
  have HS1 := Lib.hid b1.size
  have K1 := Lib.hid (K0.out.below b1)
  obtain ⟨q, hq⟩ : ∃ q, q = w0.heap.size := ⟨_, rfl⟩
  rw [← hq] at hc hlt ⊢
  have HQ := Lib.hid hq
  have HP1 : Hid (∀ W, Below w1.heap.size w1 W → W.cell? ⟨q, 0, none⟩ = some (.string a0) ∧ W.cell? ⟨q, 1, none⟩ = some (.string a1) ∧ W.cell? ⟨q, 2, none⟩ = some (.string a2)) := Lib.hid (fun W hb => ⟨(hb.cell (p := ⟨q, 0, none⟩) hlt).trans (hc 0 _ HPS.out.1), (hb.cell (p := ⟨q, 1, none⟩) hlt).trans (hc 1 _ HPS.out.2.1), (hb.cell (p := ⟨q, 2, none⟩) hlt).trans (hc 2 _ HPS.out.2.2)⟩)
  have HQL := Lib.hid hlt
  clear hc hlt b1 HCP HPS B0 K0 hq
  obtain ⟨m0, m1, m2⟩ := HP1.out _ (Below.refl _ _)
  go_wp2_with fail
  have HB2 := Lib.hid HB1.out
  have HS2 : Hid (w0.heap.size ≤ w1.heap.size) := Lib.hid HS1.out
  have K2 : Hid (BlkL w1 w.heap.size [.slice none 0 0, .slice none 0 0, .slice none 0 0]) := Lib.hid K1.out
  have HP2 : Hid (w1.cell? ⟨q, 0, none⟩ = some (.string a0) ∧ w1.cell? ⟨q, 1, none⟩ = some (.string a1) ∧ w1.cell? ⟨q, 2, none⟩ = some (.string a2)) := Lib.hid ⟨m0, m1, m2⟩
  have HQ2 := Lib.hid HQL.out
  clear m0 m1 m2 HB1 HS1 K1 HP1 HQL
  generalize w1 = w2 at *
  have HPC : Hid (∀ W, Turn w2 W (fun b => b = w.heap.size) → W.cell? ⟨q, 0, none⟩ = some (.string a0) ∧ W.cell? ⟨q, 1, none⟩ = some (.string a1) ∧ W.cell? ⟨q, 2, none⟩ = some (.string a2)) := Lib.hid (fun W ht => by
    exact ⟨by rw [ht.2.1 ⟨q, 0, none⟩ HQ2.out (by show ¬ q = w.heap.size; have := HZ0.out; have := HQ.out; omega)]; exact HP2.out.1, by rw [ht.2.1 ⟨q, 1, none⟩ HQ2.out (by show ¬ q = w.heap.size; have := HZ0.out; have := HQ.out; omega)]; exact HP2.out.2.1, by rw [ht.2.1 ⟨q, 2, none⟩ HQ2.out (by show ¬ q = w.heap.size; have := HZ0.out; have := HQ.out; omega)]; exact HP2.out.2.2⟩)
  clear HP2 HQ2 HQ
  have hFin := QfF.below w.heap.size w0.heap.size fx fy fz
  refine wp_region_inv7 (fun iq wv v => match iq with
    | 0 => v = .slice (some ⟨q, 0, none⟩) 3 N
    | 1 => v = .pointer (some ⟨q, 0, none⟩)
    | 2 => v = .string a0
    | 3 => NT w0.heap.size fx b0 wv v
    | 4 => NS w0.heap.size fx wv v
    | 5 => v = .bool b0
    | 6 => (b0 = true ∧ NS w0.heap.size fx wv v)
    | 7 => v = .slice (some ⟨q, 0, none⟩) 3 N
    | 8 => v = .pointer (some ⟨q, 1, none⟩)
    | 9 => v = .string a1
    | 10 => NT w0.heap.size fy b1 wv v
    | 11 => NS w0.heap.size fy wv v
    | 12 => v = .bool b1
    | 13 => (b1 = true ∧ NS w0.heap.size fy wv v)
    | 14 => v = .slice (some ⟨q, 0, none⟩) 3 N
    | 15 => v = .pointer (some ⟨q, 2, none⟩)
    | 16 => v = .string a2
    | 17 => NT w0.heap.size fz b2 wv v
    | 18 => NS w0.heap.size fz wv v
    | 19 => v = .bool b2
    | 20 => (b2 = true ∧ NS w0.heap.size fz wv v)
    | 21 => QfA w0.heap.size fx fy fz wv v
    | 22 => True
    | _ => False) (fun listed aa ww => StC w2 w.heap.size 3 22 (QfF w.heap.size w0.heap.size fx fy fz) listed ww ∧ ApG [(9, 0), (10, 0), (12, 0), (16, 1), (17, 1), (19, 1), (23, 2), (24, 2), (26, 2)] aa ww) (fun wa wb => Turn wa wb (fun b => b = w.heap.size)) ?hmono (by kernel_rfl) (by kernel_rfl) ⟨StC.start K2.out rfl, ApG.start (by rfl)⟩ ?hop ?hend
  case hmono =>
    intro i wa wb v hR hV
    rcases i with _ | _ | _ | _ | _ | _ | _ | _ | _ | _ | _ | _ | _ | _ | _ | _ | _ | _ | _ | _ | _ | _ | _ | i
    · exact hV
    · exact hV
    · exact hV
    · exact hV.turn hR (by have := HZ0.out; omega)
    · exact hV.turn hR (by have := HZ0.out; omega)
    · exact hV
    · exact ⟨hV.1, hV.2.turn hR (by have := HZ0.out; omega)⟩
    · exact hV
    · exact hV
    · exact hV
    · exact hV.turn hR (by have := HZ0.out; omega)
    · exact hV.turn hR (by have := HZ0.out; omega)
    · exact hV
    · exact ⟨hV.1, hV.2.turn hR (by have := HZ0.out; omega)⟩
    · exact hV
    · exact hV
    · exact hV
    · exact hV.turn hR (by have := HZ0.out; omega)
    · exact hV.turn hR (by have := HZ0.out; omega)
    · exact hV
    · exact ⟨hV.1, hV.2.turn hR (by have := HZ0.out; omega)⟩
    · exact hV.turn hR (by have := HZ0.out; omega)
    · exact hV
    · exact hV
  case hop =>
    intro q o hq listed act w3 hI hCA hnot hcl hall
    obtain ⟨hC, hA⟩ := hCA
    have hlen : listed.size = 23 := hI.len
    have hdf := hI.defers
    have hbw := hC.1.2.2.2 w HB2.out (fun b hb => by have hb : b = w.heap.size := hb; omega)
    have hlo : w0.heap.size ≤ w3.heap.size := Nat.le_trans HS2.out hC.1.1
    obtain ⟨m0, m1, m2⟩ := HPC.out _ hC.1
    rcases q with _ | _ | _ | _ | _ | _ | _ | _ | _ | _ | _ | _ | _ | _ | _ | _ | _ | _ | _ | _ | _ | _ | _ | q
    · simp at hq; subst hq
      have g3 : act.tmps[3]?.getD undef = .slice (some ⟨q, 0, none⟩) 3 N := hI.kept 3 (by kernel_rfl)
      have hA2 := fun v => ApG.other (k := 6) hA (by decide) v
      clear hI hall hnot hcl
      refine .inl ⟨wanted_none rfl, ?_⟩
      unfold Oper.wp
      go_simp
      all_goals exact ⟨_, rfl, Turn.refl _ _, rfl, StC.step (k := 0) hC (Below.refl _ _) hFin (by decide) (by rw [hlen]; decide), hA2 _⟩
    · simp at hq; subst hq
      have g6 : act.tmps[6]?.getD undef = .slice (some ⟨q, 0, none⟩) 3 N := hI.has 0 6 rfl (hall ⟨0, .data⟩ (by simp) rfl)
      have hA2 := fun v => ApG.other (k := 7) hA (by decide) v
      clear hI hall hnot hcl
      refine .inl ⟨wanted_none rfl, ?_⟩
      unfold Oper.wp
      go_simp
      all_goals exact ⟨_, rfl, Turn.refl _ _, rfl, StC.step (k := 1) hC (Below.refl _ _) hFin (by decide) (by rw [hlen]; decide), hA2 _⟩
    · simp at hq; subst hq
      have g7 : act.tmps[7]?.getD undef = .pointer (some ⟨q, 0, none⟩) := hI.has 1 7 rfl (hall ⟨1, .data⟩ (by simp) rfl)
      have hA2 := fun v => ApG.other (k := 8) hA (by decide) v
      clear hI hall hnot hcl
      refine .inl ⟨wanted_none rfl, ?_⟩
      unfold Oper.wp
      go_simp
      all_goals exact ⟨_, rfl, Turn.refl _ _, rfl, StC.step (k := 2) hC (Below.refl _ _) hFin (by decide) (by rw [hlen]; decide), hA2 _⟩
    · simp at hq; subst hq
      have g8 : act.tmps[8]?.getD undef = .string a0 := hI.has 2 8 rfl (hall ⟨2, .data⟩ (by simp) rfl)
      clear hI hall hnot hcl
      refine .inl ⟨wanted_none rfl, ?_⟩
      unfold Oper.wp
      go_simp
      refine (HC0.out _ hbw).mono ?_
      rintro e w4 ⟨A1, c1, g1, rfl, ho, b4⟩
      exact ⟨_, rfl, Turn.of_below b4 _, ⟨A1, c1, g1, rfl, ho.baseV hlo⟩, StC.step (k := 3) hC b4 hFin (by decide) (by rw [hlen]; decide), ApG.fresh (k := 9) hA (by decide) b4.size (fun g hg => ho.blk hg)⟩
    · simp at hq; subst hq
      have G9 := hI.has 3 9 rfl (hall ⟨3, .data⟩ (by simp) rfl)
      clear hI hall hnot hcl
      refine .inl ⟨wanted_none rfl, ?_⟩
      unfold Oper.wp
      go_simp
      obtain ⟨A1, c1, g1, eg, ho⟩ := G9
      rw [eg]
      go_simp
      exact ⟨_, rfl, Turn.refl _ _, ⟨A1, c1, g1, rfl, ho⟩, StC.step (k := 4) hC (Below.refl _ _) hFin (by decide) (by rw [hlen]; decide), ApG.copy (k := 10) (i := 9) (grp := 0) hA (by decide) (by decide) (by decide) (fun g hg => by rw [Array.getD_eq_getD_getElem?, eg]; exact hg)⟩
    · simp at hq; subst hq
      have G9 := hI.has 3 9 rfl (hall ⟨3, .data⟩ (by simp) rfl)
      have hA2 := fun v => ApG.other (k := 11) hA (by decide) v
      clear hI hall hnot hcl
      refine .inl ⟨wanted_none rfl, ?_⟩
      unfold Oper.wp
      go_simp
      obtain ⟨A1, c1, g1, eg, ho⟩ := G9
      rw [eg]
      go_simp
      exact ⟨_, rfl, Turn.refl _ _, rfl, StC.step (k := 5) hC (Below.refl _ _) hFin (by decide) (by rw [hlen]; decide), hA2 _⟩
    · simp at hq; subst hq
      have G10 := hI.has 4 10 rfl (hall ⟨4, .data⟩ (by simp) rfl)
      have g11 : act.tmps[11]?.getD undef = .bool b0 := hI.has 5 11 rfl (hall ⟨5, .data⟩ (by simp) rfl)
      clear hI hall hnot hcl
      refine .inl ⟨wanted_none rfl, ?_⟩
      unfold Oper.wp
      go_simp
      obtain ⟨A1, c1, g1, eg, ho⟩ := G10
      rw [eg]
      go_simp
      rcases Bool.eq_false_or_eq_true b0 with hb | hb
      · rw [hb]
        refine (i_must_yes A1 _ c1 _).mono ?_
        rintro e w4 ⟨rfl, hw⟩
        obtain rfl := hw.symm
        exact ⟨_, rfl, Turn.refl _ _, ⟨by first | rfl | exact hb, A1, c1, g1, rfl, ho⟩, StC.step (k := 6) hC (Below.refl _ _) hFin (by decide) (by rw [hlen]; decide), ApG.copy (k := 12) (i := 10) (grp := 0) hA (by decide) (by decide) (by decide) (fun g hg => by rw [Array.getD_eq_getD_getElem?, eg]; exact hg)⟩
      · rw [hb]
        refine (i_must_no A1 _ c1 pv _ (HV.out _ hbw)).mono ?_
        rintro e w4 ⟨rfl, hw⟩
        obtain rfl := hw.symm
        have hpan : bodyPost Tryz.prog Tryz.f41 (fun e w' => QfP s pv w.heap.size e w' ∧ Below w.heap.size w w') (.panic (chn pv)) act _ := ⟨hdf, HG.out _ (.inl hb), hbw⟩
        exact hpan
    · simp at hq; subst hq
      have g3 : act.tmps[3]?.getD undef = .slice (some ⟨q, 0, none⟩) 3 N := hI.kept 3 (by kernel_rfl)
      have hA2 := fun v => ApG.other (k := 13) hA (by decide) v
      clear hI hall hnot hcl
      refine .inl ⟨wanted_none rfl, ?_⟩
      unfold Oper.wp
      go_simp
      all_goals exact ⟨_, rfl, Turn.refl _ _, rfl, StC.step (k := 7) hC (Below.refl _ _) hFin (by decide) (by rw [hlen]; decide), hA2 _⟩
    · simp at hq; subst hq
      have g13 : act.tmps[13]?.getD undef = .slice (some ⟨q, 0, none⟩) 3 N := hI.has 7 13 rfl (hall ⟨7, .data⟩ (by simp) rfl)
      have hA2 := fun v => ApG.other (k := 14) hA (by decide) v
      clear hI hall hnot hcl
      refine .inl ⟨wanted_none rfl, ?_⟩
      unfold Oper.wp
      go_simp
      all_goals exact ⟨_, rfl, Turn.refl _ _, rfl, StC.step (k := 8) hC (Below.refl _ _) hFin (by decide) (by rw [hlen]; decide), hA2 _⟩
    · simp at hq; subst hq
      have g14 : act.tmps[14]?.getD undef = .pointer (some ⟨q, 1, none⟩) := hI.has 8 14 rfl (hall ⟨8, .data⟩ (by simp) rfl)
      have hA2 := fun v => ApG.other (k := 15) hA (by decide) v
      clear hI hall hnot hcl
      refine .inl ⟨wanted_none rfl, ?_⟩
      unfold Oper.wp
      go_simp
      all_goals exact ⟨_, rfl, Turn.refl _ _, rfl, StC.step (k := 9) hC (Below.refl _ _) hFin (by decide) (by rw [hlen]; decide), hA2 _⟩
    · simp at hq; subst hq
      have g15 : act.tmps[15]?.getD undef = .string a1 := hI.has 9 15 rfl (hall ⟨9, .data⟩ (by simp) rfl)
      clear hI hall hnot hcl
      refine .inl ⟨wanted_none rfl, ?_⟩
      unfold Oper.wp
      go_simp
      refine (HC1.out _ hbw).mono ?_
      rintro e w4 ⟨A1, c1, g1, rfl, ho, b4⟩
      exact ⟨_, rfl, Turn.of_below b4 _, ⟨A1, c1, g1, rfl, ho.baseV hlo⟩, StC.step (k := 10) hC b4 hFin (by decide) (by rw [hlen]; decide), ApG.fresh (k := 16) hA (by decide) b4.size (fun g hg => ho.blk hg)⟩
    · simp at hq; subst hq
      have G16 := hI.has 10 16 rfl (hall ⟨10, .data⟩ (by simp) rfl)
      clear hI hall hnot hcl
      refine .inl ⟨wanted_none rfl, ?_⟩
      unfold Oper.wp
      go_simp
      obtain ⟨A1, c1, g1, eg, ho⟩ := G16
      rw [eg]
      go_simp
      exact ⟨_, rfl, Turn.refl _ _, ⟨A1, c1, g1, rfl, ho⟩, StC.step (k := 11) hC (Below.refl _ _) hFin (by decide) (by rw [hlen]; decide), ApG.copy (k := 17) (i := 16) (grp := 1) hA (by decide) (by decide) (by decide) (fun g hg => by rw [Array.getD_eq_getD_getElem?, eg]; exact hg)⟩
    · simp at hq; subst hq
      have G16 := hI.has 10 16 rfl (hall ⟨10, .data⟩ (by simp) rfl)
      have hA2 := fun v => ApG.other (k := 18) hA (by decide) v
      clear hI hall hnot hcl
      refine .inl ⟨wanted_none rfl, ?_⟩
      unfold Oper.wp
      go_simp
      obtain ⟨A1, c1, g1, eg, ho⟩ := G16
      rw [eg]
      go_simp
      exact ⟨_, rfl, Turn.refl _ _, rfl, StC.step (k := 12) hC (Below.refl _ _) hFin (by decide) (by rw [hlen]; decide), hA2 _⟩
    · simp at hq; subst hq
      have G17 := hI.has 11 17 rfl (hall ⟨11, .data⟩ (by simp) rfl)
      have g18 : act.tmps[18]?.getD undef = .bool b1 := hI.has 12 18 rfl (hall ⟨12, .data⟩ (by simp) rfl)
      clear hI hall hnot hcl
      refine .inl ⟨wanted_none rfl, ?_⟩
      unfold Oper.wp
      go_simp
      obtain ⟨A1, c1, g1, eg, ho⟩ := G17
      rw [eg]
      go_simp
      rcases Bool.eq_false_or_eq_true b1 with hb | hb
      · rw [hb]
        refine (i_must_yes A1 _ c1 _).mono ?_
        rintro e w4 ⟨rfl, hw⟩
        obtain rfl := hw.symm
        exact ⟨_, rfl, Turn.refl _ _, ⟨by first | rfl | exact hb, A1, c1, g1, rfl, ho⟩, StC.step (k := 13) hC (Below.refl _ _) hFin (by decide) (by rw [hlen]; decide), ApG.copy (k := 19) (i := 17) (grp := 1) hA (by decide) (by decide) (by decide) (fun g hg => by rw [Array.getD_eq_getD_getElem?, eg]; exact hg)⟩
      · rw [hb]
        refine (i_must_no A1 _ c1 pv _ (HV.out _ hbw)).mono ?_
        rintro e w4 ⟨rfl, hw⟩
        obtain rfl := hw.symm
        have hpan : bodyPost Tryz.prog Tryz.f41 (fun e w' => QfP s pv w.heap.size e w' ∧ Below w.heap.size w w') (.panic (chn pv)) act _ := ⟨hdf, HG.out _ (.inr (.inl hb)), hbw⟩
        exact hpan
    · simp at hq; subst hq
      have g3 : act.tmps[3]?.getD undef = .slice (some ⟨q, 0, none⟩) 3 N := hI.kept 3 (by kernel_rfl)
      have hA2 := fun v => ApG.other (k := 20) hA (by decide) v
      clear hI hall hnot hcl
      refine .inl ⟨wanted_none rfl, ?_⟩
      unfold Oper.wp
      go_simp
      all_goals exact ⟨_, rfl, Turn.refl _ _, rfl, StC.step (k := 14) hC (Below.refl _ _) hFin (by decide) (by rw [hlen]; decide), hA2 _⟩
    · simp at hq; subst hq
      have g20 : act.tmps[20]?.getD undef = .slice (some ⟨q, 0, none⟩) 3 N := hI.has 14 20 rfl (hall ⟨14, .data⟩ (by simp) rfl)
      have hA2 := fun v => ApG.other (k := 21) hA (by decide) v
      clear hI hall hnot hcl
      refine .inl ⟨wanted_none rfl, ?_⟩
      unfold Oper.wp
      go_simp
      all_goals exact ⟨_, rfl, Turn.refl _ _, rfl, StC.step (k := 15) hC (Below.refl _ _) hFin (by decide) (by rw [hlen]; decide), hA2 _⟩
    · simp at hq; subst hq
      have g21 : act.tmps[21]?.getD undef = .pointer (some ⟨q, 2, none⟩) := hI.has 15 21 rfl (hall ⟨15, .data⟩ (by simp) rfl)
      have hA2 := fun v => ApG.other (k := 22) hA (by decide) v
      clear hI hall hnot hcl
      refine .inl ⟨wanted_none rfl, ?_⟩
      unfold Oper.wp
      go_simp
      all_goals exact ⟨_, rfl, Turn.refl _ _, rfl, StC.step (k := 16) hC (Below.refl _ _) hFin (by decide) (by rw [hlen]; decide), hA2 _⟩
    · simp at hq; subst hq
      have g22 : act.tmps[22]?.getD undef = .string a2 := hI.has 16 22 rfl (hall ⟨16, .data⟩ (by simp) rfl)
      clear hI hall hnot hcl
      refine .inl ⟨wanted_none rfl, ?_⟩
      unfold Oper.wp
      go_simp
      refine (HC2.out _ hbw).mono ?_
      rintro e w4 ⟨A1, c1, g1, rfl, ho, b4⟩
      exact ⟨_, rfl, Turn.of_below b4 _, ⟨A1, c1, g1, rfl, ho.baseV hlo⟩, StC.step (k := 17) hC b4 hFin (by decide) (by rw [hlen]; decide), ApG.fresh (k := 23) hA (by decide) b4.size (fun g hg => ho.blk hg)⟩
    · simp at hq; subst hq
      have G23 := hI.has 17 23 rfl (hall ⟨17, .data⟩ (by simp) rfl)
      clear hI hall hnot hcl
      refine .inl ⟨wanted_none rfl, ?_⟩
      unfold Oper.wp
      go_simp
      obtain ⟨A1, c1, g1, eg, ho⟩ := G23
      rw [eg]
      go_simp
      exact ⟨_, rfl, Turn.refl _ _, ⟨A1, c1, g1, rfl, ho⟩, StC.step (k := 18) hC (Below.refl _ _) hFin (by decide) (by rw [hlen]; decide), ApG.copy (k := 24) (i := 23) (grp := 2) hA (by decide) (by decide) (by decide) (fun g hg => by rw [Array.getD_eq_getD_getElem?, eg]; exact hg)⟩
    · simp at hq; subst hq
      have G23 := hI.has 17 23 rfl (hall ⟨17, .data⟩ (by simp) rfl)
      have hA2 := fun v => ApG.other (k := 25) hA (by decide) v
      clear hI hall hnot hcl
      refine .inl ⟨wanted_none rfl, ?_⟩
      unfold Oper.wp
      go_simp
      obtain ⟨A1, c1, g1, eg, ho⟩ := G23
      rw [eg]
      go_simp
      exact ⟨_, rfl, Turn.refl _ _, rfl, StC.step (k := 19) hC (Below.refl _ _) hFin (by decide) (by rw [hlen]; decide), hA2 _⟩
    · simp at hq; subst hq
      have G24 := hI.has 18 24 rfl (hall ⟨18, .data⟩ (by simp) rfl)
      have g25 : act.tmps[25]?.getD undef = .bool b2 := hI.has 19 25 rfl (hall ⟨19, .data⟩ (by simp) rfl)
      clear hI hall hnot hcl
      refine .inl ⟨wanted_none rfl, ?_⟩
      unfold Oper.wp
      go_simp
      obtain ⟨A1, c1, g1, eg, ho⟩ := G24
      rw [eg]
      go_simp
      rcases Bool.eq_false_or_eq_true b2 with hb | hb
      · rw [hb]
        refine (i_must_yes A1 _ c1 _).mono ?_
        rintro e w4 ⟨rfl, hw⟩
        obtain rfl := hw.symm
        exact ⟨_, rfl, Turn.refl _ _, ⟨by first | rfl | exact hb, A1, c1, g1, rfl, ho⟩, StC.step (k := 20) hC (Below.refl _ _) hFin (by decide) (by rw [hlen]; decide), ApG.copy (k := 26) (i := 24) (grp := 2) hA (by decide) (by decide) (by decide) (fun g hg => by rw [Array.getD_eq_getD_getElem?, eg]; exact hg)⟩
      · rw [hb]
        refine (i_must_no A1 _ c1 pv _ (HV.out _ hbw)).mono ?_
        rintro e w4 ⟨rfl, hw⟩
        obtain rfl := hw.symm
        have hpan : bodyPost Tryz.prog Tryz.f41 (fun e w' => QfP s pv w.heap.size e w' ∧ Below w.heap.size w w') (.panic (chn pv)) act _ := ⟨hdf, HG.out _ (.inr (.inr hb)), hbw⟩
        exact hpan
    · simp at hq; subst hq
      have G12 := hI.has 6 12 rfl (hall ⟨6, .data⟩ (by simp) rfl)
      have G19 := hI.has 13 19 rfl (hall ⟨13, .data⟩ (by simp) rfl)
      have G26 := hI.has 20 26 rfl (hall ⟨20, .data⟩ (by simp) rfl)
      have hA2 := fun v => ApG.other (k := 27) hA (by decide) v
      clear hI hall hnot hcl
      refine .inl ⟨wanted_none rfl, ?_⟩
      unfold Oper.wp
      go_simp
      obtain ⟨-, X, cx, gx0, e0, o0⟩ := G12
      obtain ⟨-, Y, cy, gy0, e1, o1⟩ := G19
      obtain ⟨-, Z, cz, gz0, e2, o2⟩ := G26
      have ne01 := hA.ne (i := 12) (j := 19) (gi := 0) (gj := 1) (by decide) (by decide) (by decide) e0 e1
      have ne02 := hA.ne (i := 12) (j := 26) (gi := 0) (gj := 2) (by decide) (by decide) (by decide) e0 e2
      have ne12 := hA.ne (i := 19) (j := 26) (gi := 1) (gj := 2) (by decide) (by decide) (by decide) e1 e2
      obtain ⟨gx, gy, gz, hr⟩ := OwnQ.ofB o0 o1 o2 ne01 ne02 ne12
      rw [e0, e1, e2]
      go_simp
      exact ⟨_, rfl, Turn.refl _ _, ⟨X, Y, Z, cx, cy, cz, gx, gy, gz, rfl, hr⟩, StC.step (k := 21) hC (Below.refl _ _) hFin (by decide) (by rw [hlen]; decide), hA2 _⟩
    · simp at hq; subst hq
      have g2 : act.tmps[2]?.getD undef = .pointer (some ⟨w.heap.size, 0, none⟩) := hI.kept 2 (by kernel_rfl)
      have G27 := hI.has 21 27 rfl (hall ⟨21, .data⟩ (by simp) rfl)
      have hA2 := fun v => ApG.skip hA v
      clear hI hall hnot hcl
      refine .inl ⟨wanted_none rfl, ?_⟩
      unfold Oper.wp
      go_simp
      obtain ⟨X, Y, Z, cx, cy, cz, gx, gy, gz, eg, hg⟩ := G27
      rw [eg]
      obtain ⟨vs, hvs, hvl⟩ := hC.2.1
      match vs, hvs, hvl with
      | [u0, u1, u2], hvs, _ =>
      have p0 := (hvs.2 0 _ rfl).1
      have f0 := (hvs.2 0 _ rfl).2
      have p1 := (hvs.2 1 _ rfl).1
      have f1 := (hvs.2 1 _ rfl).2
      have p2 := (hvs.2 2 _ rfl).1
      have f2 := (hvs.2 2 _ rfl).2
      go_simp
      have hf := (((hvs.set (i := 0) (by simp) (.slice X fx.length cx)).set (i := 1) (by simp) (.slice Y fy.length cy)).set (i := 2) (by simp) (.slice Z fz.length cz))
      have ht2 := (((Turn.set w3 (B := w.heap.size) ⟨w.heap.size, 0, none⟩ rfl (.slice X fx.length cx)).trans (Turn.set _ (B := w.heap.size) ⟨w.heap.size, 1, none⟩ rfl (.slice Y fy.length cy))).trans (Turn.set _ (B := w.heap.size) ⟨w.heap.size, 2, none⟩ rfl (.slice Z fz.length cz)))
      have hn := (((hg.setV (p := ⟨w.heap.size, 0, none⟩) (by show w.heap.size < _; have := HZ0.out; omega) (.slice X fx.length cx)).setV (p := ⟨w.heap.size, 1, none⟩) (by show w.heap.size < _; have := HZ0.out; omega) (.slice Y fy.length cy)).setV (p := ⟨w.heap.size, 2, none⟩) (by show w.heap.size < _; have := HZ0.out; omega) (.slice Z fz.length cz))
      have hst := StC.store (st := 22) hC ht2 hf rfl ⟨X, Y, Z, cx, cy, cz, gx, gy, gz, hf, hn⟩
      have hap := (hA2 undef).grow ht2.1
      first | exact ⟨ht2, trivial, hst, hap⟩ | exact ⟨ht2, hst, hap⟩
    · simp at hq
  case hend =>
    intro listed act w3 hI hCA hall
    obtain ⟨hC, hA⟩ := hCA
    have hlen : listed.size = 23 := hI.len
    have hdf := hI.defers
    have hbw := hC.1.2.2.2 w HB2.out (fun b hb => by have hb : b = w.heap.size := hb; omega)
    have hlo : w0.heap.size ≤ w3.heap.size := Nat.le_trans HS2.out hC.1.1
    obtain ⟨m0, m1, m2⟩ := HPC.out _ hC.1
    obtain ⟨X, Y, Z, cx, cy, cz, gx, gy, gz, hf, hown⟩ := hC.2.2 (hall 22 (by decide))
    have hb0 := (hI.has 6 12 rfl (hall 6 (by decide))).1
    have hb1 := (hI.has 13 19 rfl (hall 13 (by decide))).1
    have hb2 := (hI.has 20 26 rfl (hall 20 (by decide))).1
    have g2 : act.tmps[2]?.getD undef = .pointer (some ⟨w.heap.size, 0, none⟩) := hI.kept 2 (by kernel_rfl)
    have hd := hI.defers
    clear hI hall hFin hC hA
    have k0 := (hf.2 0 _ rfl).1
    have k1 := (hf.2 1 _ rfl).1
    have k2 := (hf.2 2 _ rfl).1
    go_wp2
    refine bodyPost_ret (v := .agg #[.slice X fx.length cx, .slice Y fy.length cy, .slice Z fz.length cz]) (by simp [results, Tryz.results41, g2, k0, k1, k2, go_sem]) (by first | rfl | exact hd) ?_
    exact ⟨HF.out _ X Y Z cx cy cz gx gy gz hb0 hb1 hb2 (hown.baseV (by have := HZ0.out; omega)), hbw⟩
theorem i_profileIn (s : ByteArray) (pv : Value) (w : World) (hs : s.size ≤ 1048576) (hE : EV w) (hT : T64 w) (hM : ML w) (hV : EMv pv w) :
    Calls Tryz.prog 41 #[.string s] w fun e w' => QfP s pv w.heap.size e w' ∧ Below w.heap.size w w' := by
  by_cases hl : (cutS 58 s).length = 3
  · exact i_profileIn_main s pv w hs hE hT hM hV hl
  · exact i_profileIn_len s pv w hs hM hV hl
theorem i_profileIn_ok (s : ByteArray) (pv : Value) (w : World) (hs : s.size ≤ 1048576) (hE : EV w) (hT : T64 w) (hM : ML w) (hV : EMv pv w) (h : qfO s = true) :
    Calls Tryz.prog 41 #[.string s] w fun e w' => ∃ (X Y Z : Option Addr) (cx cy cz gx gy gz : Nat), e = .returned (.agg #[.slice X (qfX s).length cx, .slice Y (qfY s).length cy, .slice Z (qfZ s).length cz]) ∧ OwnQ w' w.heap.size X Y Z gx gy gz (qfX s) (qfY s) (qfZ s) ∧ Below w.heap.size w w' := by
  refine (i_profileIn s pv w hs hE hT hM hV).mono ?_
  rintro e w' ⟨h1 | h1, hb⟩
  · obtain ⟨-, X, Y, Z, cx, cy, cz, gx, gy, gz, he, ho⟩ := h1
    exact ⟨X, Y, Z, cx, cy, cz, gx, gy, gz, he, ho, hb⟩
  · rw [h1.1] at h; cases h
theorem i_profileIn_no (s : ByteArray) (pv : Value) (w : World) (hs : s.size ≤ 1048576) (hE : EV w) (hT : T64 w) (hM : ML w) (hV : EMv pv w) (h : qfO s = false) :
    Calls Tryz.prog 41 #[.string s] w fun e w' => e = .panicked (chn pv) ∧ Below w.heap.size w w' := by
  refine (i_profileIn s pv w hs hE hT hM hV).mono ?_
  rintro e w' ⟨h1 | h1, hb⟩
  · rw [h1.1] at h; cases h
  · exact ⟨h1.2, hb⟩
end Go.Proofs.YtknabmknboffgaaGreatDoor
namespace Go.Proofs.YtknabmknboffgaaGreatDoor
open Go Go.RowKit
/-- what is handed back -/
def QfV (lo : Nat) (fx : List Nat) (fy : List Nat) (fz : List Nat) (b : Bool) (e : Ending) (w' : World) : Prop := ∃ (X Y Z : Option Addr) (cx cy cz gx gy gz : Nat), e = .returned (.tuple #[.agg #[.slice X fx.length cx, .slice Y fy.length cy, .slice Z fz.length cz], .bool b]) ∧ OwnQ w' lo X Y Z gx gy gz fx fy fz
set_option maxHeartbeats 4000000 in
theorem i_rdProfile1_yes (B1 B2 B3 : Nat) (s : ByteArray) (pv : Value) (W w : World) (hs : s.size ≤ 1048576) (hE : EV w) (hT : T64 w) (hM : ML w) (hV : EMv pv w) (h : qfO s = true)
    (l1 : BlkL w B1 [.func (.func 41) #[] #[]]) (l2 : BlkL w B2 [.string s]) (l3 : BlkL w B3 [.slice none 0 0, .slice none 0 0, .slice none 0 0]) (hW : Below W.heap.size W w) (hB : W.heap.size ≤ B3) :
    Calls Tryz.prog 72 #[.pointer (some ⟨B1, 0, none⟩), .pointer (some ⟨B2, 0, none⟩), .pointer (some ⟨B3, 0, none⟩)] w fun e w' => e = .returned (.tuple #[]) ∧ QfF B3 w.heap.size (qfX s) (qfY s) (qfZ s) w' ∧ (∀ B vs, B < w.heap.size → B ≠ B3 → BlkL w B vs → BlkL w' B vs) ∧ Below W.heap.size W w' := by
  have HC := Lib.hid (i_profileIn_ok s pv w hs hE hT hM hV h)
  have m1 := (l1.2 0 _ rfl).1
  have m2 := (l2.2 0 _ rfl).1
  have L3 := Lib.hid l3
  have HW := Lib.hid hW
  have HB := Lib.hid hB
  have HLT := Lib.hid l3.1
  clear hs hE hT hM hV h l1 l2 l3 hW hB
  generalize qfX s = fx at HC ⊢
  generalize qfY s = fy at HC ⊢
  generalize qfZ s = fz at HC ⊢
  go_enter Tryz.func72, Tryz.ntmps72
  go_wp2_with fail
  refine HC.out.mono ?_
  rintro e w1 ⟨X, Y, Z, cx, cy, cz, gx, gy, gz, rfl, ho, b1⟩
  have HO := Lib.hid ho
  have B1' := Lib.hid b1
  have L4 := Lib.hid (L3.out.below b1)
  clear b1 ho m1 m2
  obtain ⟨⟨k0, f0⟩, ⟨k1, f1⟩, ⟨k2, f2⟩⟩ : (_ ∧ _) ∧ (_ ∧ _) ∧ (_ ∧ _) := ⟨L4.out.2 0 _ rfl, L4.out.2 1 _ rfl, L4.out.2 2 _ rfl⟩
  go_wp2
  refine bodyPost_end (v := .tuple #[]) (by simp [results, Tryz.results72, go_sem]) (by simp) ⟨rfl, ?_, ?_, ?_⟩
  · exact ⟨X, Y, Z, cx, cy, cz, gx, gy, gz, (((L4.out.set (i := 0) (by simp) (.slice X fx.length cx)).set (i := 1) (by simp) (.slice Y fy.length cy)).set (i := 2) (by simp) (.slice Z fz.length cz)), (((HO.out.setV (p := ⟨B3, 0, none⟩) HLT.out (.slice X fx.length cx)).setV (p := ⟨B3, 1, none⟩) HLT.out (.slice Y fy.length cy)).setV (p := ⟨B3, 2, none⟩) HLT.out (.slice Z fz.length cz))⟩
  · intro B vs hB hne hv
    have h1 := hv.below B1'.out
    exact (((h1.setCell (p := ⟨B3, 0, none⟩) (Ne.symm hne) _).setCell (p := ⟨B3, 1, none⟩) (Ne.symm hne) _).setCell (p := ⟨B3, 2, none⟩) (Ne.symm hne) _)
  · exact ((((below_of HW.out HW.out.size B1'.out).setCell (p := ⟨B3, 0, none⟩) HB.out _).setCell (p := ⟨B3, 1, none⟩) HB.out _).setCell (p := ⟨B3, 2, none⟩) HB.out _)
theorem i_rdProfile1_no (B1 B2 B3 : Nat) (s : ByteArray) (pv : Value) (w : World) (hs : s.size ≤ 1048576) (hE : EV w) (hT : T64 w) (hM : ML w) (hV : EMv pv w) (h : qfO s = false)
    (l1 : BlkL w B1 [.func (.func 41) #[] #[]]) (l2 : BlkL w B2 [.string s]) :
    Calls Tryz.prog 72 #[.pointer (some ⟨B1, 0, none⟩), .pointer (some ⟨B2, 0, none⟩), .pointer (some ⟨B3, 0, none⟩)] w fun e w' => e = .panicked (chn pv) ∧ Below w.heap.size w w' := by
  have HC := Lib.hid (i_profileIn_no s pv w hs hE hT hM hV h)
  have m1 := (l1.2 0 _ rfl).1
  have m2 := (l2.2 0 _ rfl).1
  clear hs hE hT hM hV h l1 l2
  go_enter Tryz.func72, Tryz.ntmps72
  go_wp2_with fail
  refine HC.out.mono ?_
  rintro e w1 ⟨rfl, b1⟩
  go_wp2
  exact ⟨rfl, rfl, b1⟩
set_option maxHeartbeats 4000000 in
theorem i_attProfile_yes (B1 B2 B3 : Nat) (s : ByteArray) (pv : Value) (W w : World) (hs : s.size ≤ 1048576) (hE : EV w) (hT : T64 w) (hM : ML w) (hV : EMv pv w) (h : qfO s = true)
    (l1 : BlkL w B1 [.func (.func 41) #[] #[]]) (l2 : BlkL w B2 [.string s]) (l3 : BlkL w B3 [.slice none 0 0, .slice none 0 0, .slice none 0 0]) (hW : Below W.heap.size W w) (hB : W.heap.size ≤ B3) :
    Calls Tryz.prog 53 #[.func (.func 72) #[] #[.pointer (some ⟨B1, 0, none⟩), .pointer (some ⟨B2, 0, none⟩), .pointer (some ⟨B3, 0, none⟩)]] w fun e w' => e = .returned .nilIface ∧ QfF B3 w.heap.size (qfX s) (qfY s) (qfZ s) w' ∧ (∀ B vs, B < w.heap.size → B ≠ B3 → BlkL w B vs → BlkL w' B vs) ∧ Below W.heap.size W w' := by
  have hmf : ∀ (fn : Fn) (first cap : Array Value) (w : World), (Instr.makeFunc fn first cap).run Tryz.prog w = .ok (.func fn first cap) w := fun _ _ _ _ => rfl
  have b0 : Below w.heap.size w (w.alloc (.cells #[.nilIface] 79)) := (Below.refl _ _).alloc (Nat.le_refl _) _
  have HB0 := Lib.hid b0
  have K0 : Hid (BlkL (w.alloc (.cells #[.nilIface] 79)) w.heap.size [.nilIface]) := Lib.hid (blkL_at w #[.nilIface] _ rfl)
  have hlt : B3 < w.heap.size := l3.1
  have HC := Lib.hid (i_rdProfile1_yes B1 B2 B3 s pv W _ hs (hE.below b0) (hT.below b0) (hM.below b0) (hV.below b0) h (l1.below b0) (l2.below b0) (l3.below b0) (below_of hW hW.size b0) hB)
  have LT := Lib.hid hlt
  have HW := Lib.hid hW.size
  clear hs hE hT hM hV h l1 l2 l3 hW hB hlt b0
  generalize qfX s = fx at HC ⊢
  generalize qfY s = fy at HC ⊢
  generalize qfZ s = fz at HC ⊢
  go_enter_defers Tryz.func53, Tryz.ntmps53
  go_wp2_with fail
  refine HC.out.mono ?_
  rintro e w1 ⟨rfl, hx, hk, hb⟩
  obtain ⟨X, Y, Z, cx, cy, cz, gx, gy, gz, hx, ho⟩ := hx
  have K1 := Lib.hid (hk w.heap.size _ (by simp) (Nat.ne_of_gt LT.out) K0.out)
  have X1 := Lib.hid hx
  have HO := Lib.hid ho
  have KK := Lib.hid hk
  have BB := Lib.hid hb
  clear hx ho hk hb HC
  obtain ⟨k, f⟩ := K1.out.2 0 _ rfl
  go_wp2
  refine leaves_cons (f := 88) (args := #[.pointer (some ⟨w.heap.size, 0, none⟩)]) (by simp) (by simp [go_sem]) ?_
  refine (att_idle ⟨w.heap.size, 0, none⟩ _).mono ?_
  rintro e u' w'' ⟨rfl, rfl, rfl⟩
  have kc : (w1.setCell ⟨w.heap.size, 0, none⟩ .nilIface).cell? ⟨w.heap.size, 0, none⟩ = some .nilIface := World.cell?_setCell_same _ _ _ k
  simp [Leaves, settle, results, Tryz.results53, go_sem, kc]
  exact ⟨⟨X, Y, Z, cx, cy, cz, gx, gy, gz, X1.out.setCell (Nat.ne_of_gt LT.out) _, (HO.out.setV (p := ⟨w.heap.size, 0, none⟩) (by simp) _).baseV (by simp)⟩, fun B vs hB hne hv => (KK.out B vs (by simp; omega) hne (hv.below HB0.out)).setCell (Nat.ne_of_gt hB) _, BB.out.setCell HW.out _⟩
theorem i_attProfile_no (B1 B2 B3 : Nat) (s : ByteArray) (pv : Value) (w : World) (hs : s.size ≤ 1048576) (hE : EV w) (hT : T64 w) (hM : ML w) (hV : EMv pv w) (h : qfO s = false)
    (l1 : BlkL w B1 [.func (.func 41) #[] #[]]) (l2 : BlkL w B2 [.string s]) :
    Calls Tryz.prog 53 #[.func (.func 72) #[] #[.pointer (some ⟨B1, 0, none⟩), .pointer (some ⟨B2, 0, none⟩), .pointer (some ⟨B3, 0, none⟩)]] w fun e w' => e = .returned (.iface 179 pv) ∧ Below w.heap.size w w' := by
  have hmf : ∀ (fn : Fn) (first cap : Array Value) (w : World), (Instr.makeFunc fn first cap).run Tryz.prog w = .ok (.func fn first cap) w := fun _ _ _ _ => rfl
  have b0 : Below w.heap.size w (w.alloc (.cells #[.nilIface] 79)) := (Below.refl _ _).alloc (Nat.le_refl _) _
  have HB0 := Lib.hid b0
  have K0 : Hid (BlkL (w.alloc (.cells #[.nilIface] 79)) w.heap.size [.nilIface]) := Lib.hid (blkL_at w #[.nilIface] _ rfl)
  have HC := Lib.hid (i_rdProfile1_no B1 B2 B3 s pv _ hs (hE.below b0) (hT.below b0) (hM.below b0) (hV.below b0) h (l1.below b0) (l2.below b0))
  clear hs hE hT hM hV h l1 l2 b0
  go_enter_defers Tryz.func53, Tryz.ntmps53
  go_wp2_with fail
  refine HC.out.mono ?_
  rintro e w1 ⟨rfl, hb⟩
  have K1 := Lib.hid (K0.out.below hb)
  have BB := Lib.hid hb
  clear hb HC
  obtain ⟨k, f⟩ := K1.out.2 0 _ rfl
  go_wp2
  refine leaves_cons (f := 88) (args := #[.pointer (some ⟨w.heap.size, 0, none⟩)]) (by simp) (by simp [go_sem]) ?_
  refine (att_panic ⟨w.heap.size, 0, none⟩ pv [] _ k f).mono ?_
  rintro e u' w'' ⟨rfl, rfl, rfl⟩
  have kc : (w1.setCell ⟨w.heap.size, 0, none⟩ (.iface 179 pv)).cell? ⟨w.heap.size, 0, none⟩ = some (.iface 179 pv) := World.cell?_setCell_same _ _ _ k
  simp [Leaves, settle, results, Tryz.results53, go_sem, kc]
  exact (below_of HB0.out HB0.out.size BB.out).setCell (Nat.le_refl _) _
end Go.Proofs.YtknabmknboffgaaGreatDoor
namespace Go.Proofs.YtknabmknboffgaaGreatDoor
open Go Go.RowKit
set_option maxHeartbeats 8000000 in
theorem i_rvProfile_yes (s : ByteArray) (pv : Value) (w : World) (hs : s.size ≤ 1048576) (hE : EV w) (hT : T64 w) (hM : ML w) (hV : EMv pv w) (h : qfO s = true) (hv : validP (qfX s) (qfY s) (qfZ s) = true) :
    Calls Tryz.prog 39 #[.string s, .func (.func 40) #[] #[], .func (.func 41) #[] #[]] w fun e w' => QfV w.heap.size (qfX s) (qfY s) (qfZ s) true e w' ∧ Below w.heap.size w w' := by
  have hmf : ∀ (fn : Fn) (first cap : Array Value) (w : World), (Instr.makeFunc fn first cap).run Tryz.prog w = .ok (.func fn first cap) w := fun _ _ _ _ => rfl
  obtain ⟨w5, h5⟩ : ∃ z, z = (((((w.alloc (.cells #[.string s] 9)).alloc (.cells #[.func (.func 41) #[] #[]] 64)).alloc (.cells #[.slice none 0 0, .slice none 0 0, .slice none 0 0] 39)).alloc (.cells #[.slice none 0 0, .slice none 0 0, .slice none 0 0] 39)).alloc (.cells #[.slice none 0 0, .slice none 0 0, .slice none 0 0] 39)) := ⟨_, rfl⟩
  obtain ⟨k0, k1, k2, k3, k4, b5⟩ := five w (.string s) (.func (.func 41) #[] #[]) #[.slice none 0 0, .slice none 0 0, .slice none 0 0] #[.slice none 0 0, .slice none 0 0, .slice none 0 0] #[.slice none 0 0, .slice none 0 0, .slice none 0 0] 9 64 39 39 39
  rw [← h5] at k0 k1 k2 k3 k4 b5
  have HC := Lib.hid (i_attProfile_yes (w.heap.size + 1) w.heap.size (w.heap.size + 4) s pv w w5 hs (hE.below b5) (hT.below b5) (hM.below b5) (hV.below b5) h k1 k0 k4 b5 (by omega))
  have HFW : Hid (Few (qfX s) (qfY s) (qfZ s)) := Lib.hid (qf_few s)
  have K2 := Lib.hid k2
  have K3 := Lib.hid k3
  have K4 := Lib.hid k4.1
  clear hs hE hT hM hV h k0 k1 k2 k3 k4 b5
  generalize qfX s = fx at HC hv HFW ⊢
  generalize qfY s = fy at HC hv HFW ⊢
  generalize qfZ s = fz at HC hv HFW ⊢
  have HV := Lib.hid hv
  clear hv
  go_enter Tryz.func39, Tryz.ntmps39
  go_upto_region 2 with fail
  rw [← h5]
  clear h5
  go_wp2_with fail
  refine HC.out.mono ?_
  rintro e w6 ⟨rfl, hx, hk, hb⟩
  obtain ⟨X, Y, Z, cx, cy, cz, gx, gy, gz, hx, ho⟩ := hx
  have X1 := Lib.hid hx
  have HO := Lib.hid ho
  have L2 := Lib.hid (hk _ _ (by have := K4.out; omega) (by omega) K2.out)
  have L3 := Lib.hid (hk _ _ (by have := K4.out; omega) (by omega) K3.out)
  have BB := Lib.hid hb
  clear hx ho hk hb HC K2 K3
  obtain ⟨u0, u1, u2⟩ : _ ∧ _ ∧ _ := ⟨(X1.out.2 0 _ rfl).1, (X1.out.2 1 _ rfl).1, (X1.out.2 2 _ rfl).1⟩
  go_wp2_with fail
  refine (i_ValidProfile X Y Z cx cy cz fx fy fz _ ⟨HO.out.1.fl, HO.out.2.1.fl, HO.out.2.2.1.fl⟩ HFW.out).mono ?_
  rintro e w7 ⟨rfl, b7⟩
  rw [HV.out]
  clear u0 u1 u2
  have X2 := Lib.hid (X1.out.below b7)
  have HO := Lib.hid (HO.out.belowV b7)
  have M2 := Lib.hid (L2.out.below b7)
  have M3 := Lib.hid (L3.out.below b7)
  have BC := Lib.hid (below_of BB.out BB.out.size b7)
  clear b7 X1 L2 L3 BB HV HFW
  obtain ⟨⟨f0, g0⟩, ⟨f1, g1⟩, ⟨f2, g2⟩⟩ : (_ ∧ _) ∧ (_ ∧ _) ∧ (_ ∧ _) := ⟨M2.out.2 0 _ rfl, M2.out.2 1 _ rfl, M2.out.2 2 _ rfl⟩
  obtain ⟨u0, u1, u2⟩ : _ ∧ _ ∧ _ := ⟨(X2.out.2 0 _ rfl).1, (X2.out.2 1 _ rfl).1, (X2.out.2 2 _ rfl).1⟩
  go_wp2
  have R := Lib.hid ((((BC.out.setCell (p := ⟨w.heap.size + 2, 0, none⟩) (by simp) (.slice X fx.length cx)).setCell (p := ⟨w.heap.size + 2, 1, none⟩) (by simp) (.slice Y fy.length cy)).setCell (p := ⟨w.heap.size + 2, 2, none⟩) (by simp) (.slice Z fz.length cz)))
  have Q := Lib.hid ((((M2.out.set (i := 0) (by simp) (.slice X fx.length cx)).set (i := 1) (by simp) (.slice Y fy.length cy)).set (i := 2) (by simp) (.slice Z fz.length cz)))
  obtain ⟨c0, c1, c2⟩ : _ ∧ _ ∧ _ := ⟨(Q.out.2 0 _ rfl).1, (Q.out.2 1 _ rfl).1, (Q.out.2 2 _ rfl).1⟩
  have HR := Lib.hid (((((HO.out.setV (p := ⟨w.heap.size + 2, 0, none⟩) (by show w.heap.size + 2 < _; have := K4.out; omega) (.slice X fx.length cx)).setV (p := ⟨w.heap.size + 2, 1, none⟩) (by show w.heap.size + 2 < _; have := K4.out; omega) (.slice Y fy.length cy)).setV (p := ⟨w.heap.size + 2, 2, none⟩) (by show w.heap.size + 2 < _; have := K4.out; omega) (.slice Z fz.length cz))).baseV (B := w.heap.size) (by have := K4.out; omega))
  refine bodyPost_ret (v := .tuple #[.agg #[.slice X fx.length cx, .slice Y fy.length cy, .slice Z fz.length cz], .bool true]) ?_ rfl ⟨⟨X, Y, Z, cx, cy, cz, gx, gy, gz, rfl, HR.out⟩, R.out⟩
  simp [results, Tryz.results39, go_sem, c0, c1, c2]
set_option maxHeartbeats 8000000 in
theorem i_rvProfile_inv (s : ByteArray) (pv : Value) (w : World) (hs : s.size ≤ 1048576) (hE : EV w) (hT : T64 w) (hM : ML w) (hV : EMv pv w) (h : qfO s = true) (hv : validP (qfX s) (qfY s) (qfZ s) = false) :
    Calls Tryz.prog 39 #[.string s, .func (.func 40) #[] #[], .func (.func 41) #[] #[]] w fun e w' => e = .returned (.tuple #[.agg #[.slice none 0 0, .slice none 0 0, .slice none 0 0], .bool false]) ∧ Below w.heap.size w w' := by
  have hmf : ∀ (fn : Fn) (first cap : Array Value) (w : World), (Instr.makeFunc fn first cap).run Tryz.prog w = .ok (.func fn first cap) w := fun _ _ _ _ => rfl
  obtain ⟨w5, h5⟩ : ∃ z, z = (((((w.alloc (.cells #[.string s] 9)).alloc (.cells #[.func (.func 41) #[] #[]] 64)).alloc (.cells #[.slice none 0 0, .slice none 0 0, .slice none 0 0] 39)).alloc (.cells #[.slice none 0 0, .slice none 0 0, .slice none 0 0] 39)).alloc (.cells #[.slice none 0 0, .slice none 0 0, .slice none 0 0] 39)) := ⟨_, rfl⟩
  obtain ⟨k0, k1, k2, k3, k4, b5⟩ := five w (.string s) (.func (.func 41) #[] #[]) #[.slice none 0 0, .slice none 0 0, .slice none 0 0] #[.slice none 0 0, .slice none 0 0, .slice none 0 0] #[.slice none 0 0, .slice none 0 0, .slice none 0 0] 9 64 39 39 39
  rw [← h5] at k0 k1 k2 k3 k4 b5
  have HC := Lib.hid (i_attProfile_yes (w.heap.size + 1) w.heap.size (w.heap.size + 4) s pv w w5 hs (hE.below b5) (hT.below b5) (hM.below b5) (hV.below b5) h k1 k0 k4 b5 (by omega))
  have HFW : Hid (Few (qfX s) (qfY s) (qfZ s)) := Lib.hid (qf_few s)
  have K2 := Lib.hid k2
  have K3 := Lib.hid k3
  have K4 := Lib.hid k4.1
  clear hs hE hT hM hV h k0 k1 k2 k3 k4 b5
  generalize qfX s = fx at HC hv HFW ⊢
  generalize qfY s = fy at HC hv HFW ⊢
  generalize qfZ s = fz at HC hv HFW ⊢
  have HV := Lib.hid hv
  clear hv
  go_enter Tryz.func39, Tryz.ntmps39
  go_upto_region 2 with fail
  rw [← h5]
  clear h5
  go_wp2_with fail
  refine HC.out.mono ?_
  rintro e w6 ⟨rfl, hx, hk, hb⟩
  obtain ⟨X, Y, Z, cx, cy, cz, gx, gy, gz, hx, ho⟩ := hx
  have X1 := Lib.hid hx
  have HO := Lib.hid ho
  have L2 := Lib.hid (hk _ _ (by have := K4.out; omega) (by omega) K2.out)
  have L3 := Lib.hid (hk _ _ (by have := K4.out; omega) (by omega) K3.out)
  have BB := Lib.hid hb
  clear hx ho hk hb HC K2 K3
  obtain ⟨u0, u1, u2⟩ : _ ∧ _ ∧ _ := ⟨(X1.out.2 0 _ rfl).1, (X1.out.2 1 _ rfl).1, (X1.out.2 2 _ rfl).1⟩
  go_wp2_with fail
  refine (i_ValidProfile X Y Z cx cy cz fx fy fz _ ⟨HO.out.1.fl, HO.out.2.1.fl, HO.out.2.2.1.fl⟩ HFW.out).mono ?_
  rintro e w7 ⟨rfl, b7⟩
  rw [HV.out]
  clear u0 u1 u2
  have X2 := Lib.hid (X1.out.below b7)
  have HO := Lib.hid (HO.out.belowV b7)
  have M2 := Lib.hid (L2.out.below b7)
  have M3 := Lib.hid (L3.out.below b7)
  have BC := Lib.hid (below_of BB.out BB.out.size b7)
  clear b7 X1 L2 L3 BB HV HFW
  obtain ⟨⟨f0, g0⟩, ⟨f1, g1⟩, ⟨f2, g2⟩⟩ : (_ ∧ _) ∧ (_ ∧ _) ∧ (_ ∧ _) := ⟨M2.out.2 0 _ rfl, M2.out.2 1 _ rfl, M2.out.2 2 _ rfl⟩
  obtain ⟨u0, u1, u2⟩ : _ ∧ _ ∧ _ := ⟨(M3.out.2 0 _ rfl).1, (M3.out.2 1 _ rfl).1, (M3.out.2 2 _ rfl).1⟩
  go_wp2
  have R := Lib.hid ((((BC.out.setCell (p := ⟨w.heap.size + 2, 0, none⟩) (by simp) (.slice none 0 0)).setCell (p := ⟨w.heap.size + 2, 1, none⟩) (by simp) (.slice none 0 0)).setCell (p := ⟨w.heap.size + 2, 2, none⟩) (by simp) (.slice none 0 0)))
  have Q := Lib.hid ((((M2.out.set (i := 0) (by simp) (.slice none 0 0)).set (i := 1) (by simp) (.slice none 0 0)).set (i := 2) (by simp) (.slice none 0 0)))
  obtain ⟨c0, c1, c2⟩ : _ ∧ _ ∧ _ := ⟨(Q.out.2 0 _ rfl).1, (Q.out.2 1 _ rfl).1, (Q.out.2 2 _ rfl).1⟩
  refine bodyPost_ret (v := .tuple #[.agg #[.slice none 0 0, .slice none 0 0, .slice none 0 0], .bool false]) ?_ rfl ⟨rfl, R.out⟩
  simp [results, Tryz.results39, go_sem, c0, c1, c2]
set_option maxHeartbeats 8000000 in
theorem i_rvProfile_no (s : ByteArray) (pv : Value) (w : World) (hs : s.size ≤ 1048576) (hE : EV w) (hT : T64 w) (hM : ML w) (hV : EMv pv w) (h : qfO s = false) :
    Calls Tryz.prog 39 #[.string s, .func (.func 40) #[] #[], .func (.func 41) #[] #[]] w fun e w' => e = .returned (.tuple #[.agg #[.slice none 0 0, .slice none 0 0, .slice none 0 0], .bool false]) ∧ Below w.heap.size w w' := by
  have hmf : ∀ (fn : Fn) (first cap : Array Value) (w : World), (Instr.makeFunc fn first cap).run Tryz.prog w = .ok (.func fn first cap) w := fun _ _ _ _ => rfl
  obtain ⟨w5, h5⟩ : ∃ z, z = (((((w.alloc (.cells #[.string s] 9)).alloc (.cells #[.func (.func 41) #[] #[]] 64)).alloc (.cells #[.slice none 0 0, .slice none 0 0, .slice none 0 0] 39)).alloc (.cells #[.slice none 0 0, .slice none 0 0, .slice none 0 0] 39)).alloc (.cells #[.slice none 0 0, .slice none 0 0, .slice none 0 0] 39)) := ⟨_, rfl⟩
  obtain ⟨k0, k1, k2, k3, k4, b5⟩ := five w (.string s) (.func (.func 41) #[] #[]) #[.slice none 0 0, .slice none 0 0, .slice none 0 0] #[.slice none 0 0, .slice none 0 0, .slice none 0 0] #[.slice none 0 0, .slice none 0 0, .slice none 0 0] 9 64 39 39 39
  rw [← h5] at k0 k1 k2 k3 k4 b5
  have HC := Lib.hid (i_attProfile_no (w.heap.size + 1) w.heap.size (w.heap.size + 4) s pv w5 hs (hE.below b5) (hT.below b5) (hM.below b5) (hV.below b5) h k1 k0)
  have K2 := Lib.hid k2
  have K3 := Lib.hid k3
  have B5 := Lib.hid b5
  clear hs hE hT hM hV h k0 k1 k2 k3 k4 b5
  go_enter Tryz.func39, Tryz.ntmps39
  go_upto_region 2 with fail
  rw [← h5]
  clear h5
  go_wp2_with fail
  refine HC.out.mono ?_
  rintro e w7 ⟨rfl, b7⟩
  have M2 := Lib.hid (K2.out.below b7)
  have M3 := Lib.hid (K3.out.below b7)
  have BC := Lib.hid (below_of B5.out B5.out.size b7)
  clear b7 HC K2 K3 B5
  obtain ⟨⟨f0, g0⟩, ⟨f1, g1⟩, ⟨f2, g2⟩⟩ : (_ ∧ _) ∧ (_ ∧ _) ∧ (_ ∧ _) := ⟨M2.out.2 0 _ rfl, M2.out.2 1 _ rfl, M2.out.2 2 _ rfl⟩
  obtain ⟨u0, u1, u2⟩ : _ ∧ _ ∧ _ := ⟨(M3.out.2 0 _ rfl).1, (M3.out.2 1 _ rfl).1, (M3.out.2 2 _ rfl).1⟩
  go_wp2
  have R := Lib.hid ((((BC.out.setCell (p := ⟨w.heap.size + 2, 0, none⟩) (by simp) (.slice none 0 0)).setCell (p := ⟨w.heap.size + 2, 1, none⟩) (by simp) (.slice none 0 0)).setCell (p := ⟨w.heap.size + 2, 2, none⟩) (by simp) (.slice none 0 0)))
  have Q := Lib.hid ((((M2.out.set (i := 0) (by simp) (.slice none 0 0)).set (i := 1) (by simp) (.slice none 0 0)).set (i := 2) (by simp) (.slice none 0 0)))
  obtain ⟨c0, c1, c2⟩ : _ ∧ _ ∧ _ := ⟨(Q.out.2 0 _ rfl).1, (Q.out.2 1 _ rfl).1, (Q.out.2 2 _ rfl).1⟩
  refine bodyPost_ret (v := .tuple #[.agg #[.slice none 0 0, .slice none 0 0, .slice none 0 0], .bool false]) ?_ rfl ⟨rfl, R.out⟩
  simp [results, Tryz.results39, go_sem, c0, c1, c2]
theorem QfV.zero (s : ByteArray) (lo : Nat) (w' : World) (hr : rqO s = false) : QfV lo (gLp (rqO s) (qfX s)) (gLp (rqO s) (qfY s)) (gLp (rqO s) (qfZ s)) (rqO s) (.returned (.tuple #[.agg #[.slice none 0 0, .slice none 0 0, .slice none 0 0], .bool false])) w' := by
  rw [hr]
  exact ⟨none, none, none, 0, 0, 0, 0, 1, 2, rfl, .inl rfl, .inl rfl, .inl rfl, by decide, by decide, by decide⟩
theorem QfV.full (s : ByteArray) (lo : Nat) (e : Ending) (w' : World) (hr : rqO s = true) (h : QfV lo (qfX s) (qfY s) (qfZ s) true e w') : QfV lo (gLp (rqO s) (qfX s)) (gLp (rqO s) (qfY s)) (gLp (rqO s) (qfZ s)) (rqO s) e w' := by
  rw [hr]
  exact h
theorem i_rvProfile (s : ByteArray) (pv : Value) (w : World) (hs : s.size ≤ 1048576) (hE : EV w) (hT : T64 w) (hM : ML w) (hV : EMv pv w) :
    Calls Tryz.prog 39 #[.string s, .func (.func 40) #[] #[], .func (.func 41) #[] #[]] w fun e w' => QfV w.heap.size (gLp (rqO s) (qfX s)) (gLp (rqO s) (qfY s)) (gLp (rqO s) (qfZ s)) (rqO s) e w' ∧ Below w.heap.size w w' := by
  cases h : qfO s
  · have hr : rqO s = false := by unfold rqO; rw [h]; rfl
    refine (i_rvProfile_no s pv w hs hE hT hM hV h).mono ?_
    rintro e w' ⟨rfl, hb⟩
    exact ⟨QfV.zero s _ _ hr, hb⟩
  · cases hv : validP (qfX s) (qfY s) (qfZ s)
    · have hr : rqO s = false := by unfold rqO; rw [h, hv]; rfl
      refine (i_rvProfile_inv s pv w hs hE hT hM hV h hv).mono ?_
      rintro e w' ⟨rfl, hb⟩
      exact ⟨QfV.zero s _ _ hr, hb⟩
    · have hr : rqO s = true := by unfold rqO; rw [h, hv]; rfl
      refine (i_rvProfile_yes s pv w hs hE hT hM hV h hv).mono ?_
      rintro e w' ⟨he, hb⟩
      exact ⟨QfV.full s _ _ _ hr he, hb⟩
set_option maxHeartbeats 8000000 in
theorem i_ReadProfileV (s : ByteArray) (pv : Value) (w : World) (hs : s.size ≤ 1048576) (hE : EV w) (hT : T64 w) (hM : ML w) (hV : EMv pv w) :
    Calls Tryz.prog 16 #[.string s] w fun e w' => QfV w.heap.size (gLp (rqO s) (qfX s)) (gLp (rqO s) (qfY s)) (gLp (rqO s) (qfZ s)) (rqO s) e w' ∧ Below w.heap.size w w' := by
  obtain ⟨w0, hw0⟩ : ∃ z, z = w.alloc (.cells #[.slice none 0 0, .slice none 0 0, .slice none 0 0] 39) := ⟨_, rfl⟩
  have b0 : Below w.heap.size w w0 := by rw [hw0]; exact (Below.refl _ _).alloc (Nat.le_refl _) _
  have HZ0 : Hid (w0.heap.size = w.heap.size + 1) := Lib.hid (by rw [hw0]; simp)
  have K0 : Hid (BlkL w0 w.heap.size [.slice none 0 0, .slice none 0 0, .slice none 0 0]) := Lib.hid (by rw [hw0]; exact blkL_at w #[.slice none 0 0, .slice none 0 0, .slice none 0 0] _ rfl)
  have HC := Lib.hid (i_rvProfile s pv w0 hs (hE.below b0) (hT.below b0) (hM.below b0) (hV.below b0))
  have B0 := Lib.hid b0
  clear hs hE hT hM hV b0
  generalize gLp (rqO s) (qfX s) = fx at HC ⊢
  generalize gLp (rqO s) (qfY s) = fy at HC ⊢
  generalize gLp (rqO s) (qfZ s) = fz at HC ⊢
  generalize rqO s = bb at HC ⊢
  go_enter Tryz.func16, Tryz.ntmps16
  go_upto_region 1 with fail
  rw [← hw0]
  clear hw0
  go_wp2_with fail
  refine HC.out.mono ?_
  rintro e w1 ⟨hx, b1⟩
  obtain ⟨X, Y, Z, cx, cy, cz, gx, gy, gz, rfl, ho⟩ := hx
  have K1 := Lib.hid (K0.out.below b1)
  have BB := Lib.hid (below_of B0.out B0.out.size b1)
  have HO := Lib.hid ho
  clear b1 ho K0 B0 HC
  obtain ⟨⟨f0, g0⟩, ⟨f1, g1⟩, ⟨f2, g2⟩⟩ : (_ ∧ _) ∧ (_ ∧ _) ∧ (_ ∧ _) := ⟨K1.out.2 0 _ rfl, K1.out.2 1 _ rfl, K1.out.2 2 _ rfl⟩
  go_wp2
  have R := Lib.hid ((((BB.out.setCell (p := ⟨w.heap.size, 0, none⟩) (by simp) (.slice X fx.length cx)).setCell (p := ⟨w.heap.size, 1, none⟩) (by simp) (.slice Y fy.length cy)).setCell (p := ⟨w.heap.size, 2, none⟩) (by simp) (.slice Z fz.length cz)))
  have Q := Lib.hid ((((K1.out.set (i := 0) (by simp) (.slice X fx.length cx)).set (i := 1) (by simp) (.slice Y fy.length cy)).set (i := 2) (by simp) (.slice Z fz.length cz)))
  have HR := Lib.hid (((((HO.out.setV (p := ⟨w.heap.size, 0, none⟩) (by show w.heap.size < _; have := HZ0.out; omega) (.slice X fx.length cx)).setV (p := ⟨w.heap.size, 1, none⟩) (by show w.heap.size < _; have := HZ0.out; omega) (.slice Y fy.length cy)).setV (p := ⟨w.heap.size, 2, none⟩) (by show w.heap.size < _; have := HZ0.out; omega) (.slice Z fz.length cz))).baseV (B := w.heap.size) (by have := HZ0.out; omega))
  obtain ⟨c0, c1, c2⟩ : _ ∧ _ ∧ _ := ⟨(Q.out.2 0 _ rfl).1, (Q.out.2 1 _ rfl).1, (Q.out.2 2 _ rfl).1⟩
  refine bodyPost_ret (v := .tuple #[.agg #[.slice X fx.length cx, .slice Y fy.length cy, .slice Z fz.length cz], .bool bb]) ?_ rfl ⟨⟨X, Y, Z, cx, cy, cz, gx, gy, gz, rfl, HR.out⟩, R.out⟩
  simp [results, Tryz.results16, go_sem, c0, c1, c2]
theorem i_ReadProfile (s : ByteArray) (pv : Value) (w : World) (hs : s.size ≤ 1048576) (hE : EV w) (hT : T64 w) (hM : ML w) (hV : EMv pv w) :
    Calls Tryz.prog 16 #[.string s] w fun e w' => ∃ (R1 R2 R3 : Option Addr) (c1 c2 c3 g1 g2 g3 : Nat), e = .returned (.tuple #[.agg #[.slice R1 (gLp (rqO s) (qfX s)).length c1, .slice R2 (gLp (rqO s) (qfY s)).length c2, .slice R3 (gLp (rqO s) (qfZ s)).length c3], .bool (rqO s)]) ∧ OwnQ w' w.heap.size R1 R2 R3 g1 g2 g3 (gLp (rqO s) (qfX s)) (gLp (rqO s) (qfY s)) (gLp (rqO s) (qfZ s)) ∧ Below w.heap.size w w' := by
  refine (i_ReadProfileV s pv w hs hE hT hM hV).mono ?_
  rintro e w' ⟨hx, hb⟩
  obtain ⟨X, Y, Z, cx, cy, cz, gx, gy, gz, he, ho⟩ := hx
  exact ⟨X, Y, Z, cx, cy, cz, gx, gy, gz, he, ho, hb⟩
end Go.Proofs.YtknabmknboffgaaGreatDoor
namespace Go.Proofs.YtknabmknboffgaaGreatDoor
open Go Go.RowKit
set_option maxHeartbeats 8000000 in
set_option maxRecDepth 100000 in
theorem s_l08ReadProfile_cut (s : ByteArray) (w : World) (hs : s.size ≤ 1048576) (hl : (cutS 58 s).length ≠ 3) :
    Calls Tryz.prog 38 #[.string s] w fun e w' => e = .returned (.tuple #[.agg #[.slice none 0 0, .slice none 0 0, .slice none 0 0], .bool false]) ∧ Below w.heap.size w w' := by
  obtain ⟨w0, hw0⟩ : ∃ z, z = w.alloc (.cells #[.slice none 0 0, .slice none 0 0, .slice none 0 0] 39) := ⟨_, rfl⟩
  have b0 : Below w.heap.size w w0 := by rw [hw0]; exact (Below.refl _ _).alloc (Nat.le_refl _) _
  have HZ0 : Hid (w0.heap.size = w.heap.size + 1) := Lib.hid (by rw [hw0]; simp)
  have K0 : Hid (BlkL w0 w.heap.size [.slice none 0 0, .slice none 0 0, .slice none 0 0]) := Lib.hid (by rw [hw0]; exact blkL_at w #[.slice none 0 0, .slice none 0 0, .slice none 0 0] _ rfl)
  have B0 := Lib.hid b0
  have HC : Hid (Calls Tryz.prog 49 #[.string s, .int .u8 58] w0 fun e w' => ∃ v, e = .returned v ∧ GrS w' w0.heap.size v (cutS 58 s) ∧ Below w0.heap.size w0 w') := Lib.hid (s_l01Cut 58 s w0 hs)
  clear b0
  have heq : (((cutS 58 s).length : Int) == 3) = false := beq_eq_false_iff_ne.2 (by omega)
  go_enter Tryz.func38, Tryz.ntmps38
  go_upto_region 1 with fail
  rw [← hw0]
  clear hw0
  go_wp2_with fail
  refine HC.out.mono ?_
  rintro e w1 ⟨v, rfl, hg, b1⟩
  obtain ⟨pb, pc, rfl, hlo, hlt1, -, -, hcell⟩ := hg.own (by intro e; have := cutS_pos 58 s; rw [e] at this; simp at this)
  have K1 := Lib.hid (K0.out.below b1)
  have BB := Lib.hid (below_of B0.out B0.out.size b1)
  have HS1 := Lib.hid b1.size
  clear hg hcell b1 HC B0 K0 hlt1 hlo hs hl HS1
  generalize (cutS 58 s).length = pl at *
  obtain ⟨⟨f0, g0⟩, ⟨f1, g1⟩, ⟨f2, g2⟩⟩ : (_ ∧ _) ∧ (_ ∧ _) ∧ (_ ∧ _) := ⟨K1.out.2 0 _ rfl, K1.out.2 1 _ rfl, K1.out.2 2 _ rfl⟩
  go_wp2
  have R := Lib.hid ((((BB.out.setCell (p := ⟨w.heap.size, 0, none⟩) (by simp) (.slice none 0 0)).setCell (p := ⟨w.heap.size, 1, none⟩) (by simp) (.slice none 0 0)).setCell (p := ⟨w.heap.size, 2, none⟩) (by simp) (.slice none 0 0)))
  have Q := Lib.hid ((((K1.out.set (i := 0) (by simp) (.slice none 0 0)).set (i := 1) (by simp) (.slice none 0 0)).set (i := 2) (by simp) (.slice none 0 0)))
  obtain ⟨c0, c1, c2⟩ : _ ∧ _ ∧ _ := ⟨(Q.out.2 0 _ rfl).1, (Q.out.2 1 _ rfl).1, (Q.out.2 2 _ rfl).1⟩
  refine bodyPost_ret (v := .tuple #[.agg #[.slice none 0 0, .slice none 0 0, .slice none 0 0], .bool false]) ?_ rfl ⟨rfl, R.out⟩
  simp [results, Tryz.results38, go_sem, c0, c1, c2]
set_option maxHeartbeats 8000000 in
set_option maxRecDepth 100000 in
theorem s_l08ReadProfile_one (s : ByteArray) (w : World) (hs : s.size ≤ 1048576) (hl : (cutS 58 s).length = 3) (ho0 : nmO (pcs 58 s 0) = false) :
    Calls Tryz.prog 38 #[.string s] w fun e w' => e = .returned (.tuple #[.agg #[.slice none 0 0, .slice none 0 0, .slice none 0 0], .bool false]) ∧ Below w.heap.size w w' := by
  obtain ⟨w0, hw0⟩ : ∃ z, z = w.alloc (.cells #[.slice none 0 0, .slice none 0 0, .slice none 0 0] 39) := ⟨_, rfl⟩
  have b0 : Below w.heap.size w w0 := by rw [hw0]; exact (Below.refl _ _).alloc (Nat.le_refl _) _
  have HZ0 : Hid (w0.heap.size = w.heap.size + 1) := Lib.hid (by rw [hw0]; simp)
  have K0 : Hid (BlkL w0 w.heap.size [.slice none 0 0, .slice none 0 0, .slice none 0 0]) := Lib.hid (by rw [hw0]; exact blkL_at w #[.slice none 0 0, .slice none 0 0, .slice none 0 0] _ rfl)
  have B0 := Lib.hid b0
  have HC : Hid (Calls Tryz.prog 49 #[.string s, .int .u8 58] w0 fun e w' => ∃ v, e = .returned v ∧ GrS w' w0.heap.size v (cutS 58 s) ∧ Below w0.heap.size w0 w') := Lib.hid (s_l01Cut 58 s w0 hs)
  clear b0
  have HPS : Hid ((cutS 58 s)[0]? = some (pcs 58 s 0) ∧ (cutS 58 s)[1]? = some (pcs 58 s 1) ∧ (cutS 58 s)[2]? = some (pcs 58 s 2)) := Lib.hid ⟨pcs_at hl (by decide), pcs_at hl (by decide), pcs_at hl (by decide)⟩
  have HL3 := Lib.hid hl
  have HR0 : Hid (∀ W, Calls Tryz.prog 50 #[.string (pcs 58 s 0)] W fun e w' => ∃ R1 c1 g1, e = .returned (.tuple #[.slice R1 (nmL (pcs 58 s 0)).length c1, .bool false]) ∧ OwnO w' W.heap.size R1 g1 (nmL (pcs 58 s 0)) ∧ Below W.heap.size W w') := Lib.hid (fun W => by have h := s_l01NRead (pcs 58 s 0) W (Nat.le_trans (pcs_size _ _ _) hs); rw [ho0] at h; exact h)
  have HR1 : Hid (∀ W, Calls Tryz.prog 50 #[.string (pcs 58 s 1)] W fun e w' => ∃ R1 c1 g1, e = .returned (.tuple #[.slice R1 (nmL (pcs 58 s 1)).length c1, .bool (nmO (pcs 58 s 1))]) ∧ OwnO w' W.heap.size R1 g1 (nmL (pcs 58 s 1)) ∧ Below W.heap.size W w') := Lib.hid (fun W => by have h := s_l01NRead (pcs 58 s 1) W (Nat.le_trans (pcs_size _ _ _) hs); exact h)
  have HR2 : Hid (∀ W, Calls Tryz.prog 50 #[.string (pcs 58 s 2)] W fun e w' => ∃ R1 c1 g1, e = .returned (.tuple #[.slice R1 (nmL (pcs 58 s 2)).length c1, .bool (nmO (pcs 58 s 2))]) ∧ OwnO w' W.heap.size R1 g1 (nmL (pcs 58 s 2)) ∧ Below W.heap.size W w') := Lib.hid (fun W => by have h := s_l01NRead (pcs 58 s 2) W (Nat.le_trans (pcs_size _ _ _) hs); exact h)
  clear hs hl ho0
  generalize pcs 58 s 0 = a0 at *
  generalize pcs 58 s 1 = a1 at *
  generalize pcs 58 s 2 = a2 at *
  go_enter Tryz.func38, Tryz.ntmps38
  go_upto_region 1 with fail
  rw [← hw0]
  clear hw0
  go_wp2_with fail
  refine HC.out.mono ?_
  rintro e w1 ⟨v, rfl, hg, b1⟩
  obtain ⟨pb, pc, rfl, hlo, hlt1, -, -, hcell⟩ := hg.own (by intro e; have := cutS_pos 58 s; rw [e] at this; simp at this)
  have K1 := Lib.hid (K0.out.below b1)
  have BB := Lib.hid (below_of B0.out B0.out.size b1)
  have HS1 := Lib.hid b1.size
  have HP : Hid (∀ W, Below w1.heap.size w1 W → W.cell? ⟨pb, 0, none⟩ = some (.string a0) ∧ W.cell? ⟨pb, 1, none⟩ = some (.string a1) ∧ W.cell? ⟨pb, 2, none⟩ = some (.string a2)) := Lib.hid (fun W hb => ⟨(hb.cell (p := ⟨pb, 0, none⟩) hlt1).trans (hcell 0 _ HPS.out.1), (hb.cell (p := ⟨pb, 1, none⟩) hlt1).trans (hcell 1 _ HPS.out.2.1), (hb.cell (p := ⟨pb, 2, none⟩) hlt1).trans (hcell 2 _ HPS.out.2.2)⟩)
  rw [HL3.out]
  clear hg hcell b1 HC B0 K0 HPS hlt1 hlo HL3
  obtain ⟨m0, m1, m2⟩ := HP.out _ (Below.refl _ _)
  go_wp2_with fail
  refine (HR0.out _).mono ?_
  rintro e w2 ⟨RA, cA, gA, rfl, hoA, b2⟩
  have B2 := Lib.hid b2
  have OA2 := Lib.hid hoA
  clear hoA b2 m0 m1 m2 HR0
  obtain ⟨m0, m1, m2⟩ := HP.out _ B2.out
  go_wp2_with fail
  refine (HR1.out _).mono ?_
  rintro e w3 ⟨RB, cB, gB, rfl, hoB, b3⟩
  have B3 := Lib.hid (below_of B2.out B2.out.size b3)
  have C3 := Lib.hid b3
  have OB3 := Lib.hid hoB
  clear hoB b3 m0 m1 m2 HR1
  obtain ⟨m0, m1, m2⟩ := HP.out _ B3.out
  go_wp2_with fail
  refine (HR2.out _).mono ?_
  rintro e w4 ⟨RC, cC, gC, rfl, hoC, b4⟩
  have C4 := Lib.hid b4
  have OC4 := Lib.hid hoC
  have B4 := Lib.hid (below_of B3.out B3.out.size b4)
  have K4 := Lib.hid (K1.out.below B4.out)
  have BC := Lib.hid (below_of BB.out BB.out.size B4.out)
  clear hoC b4 m0 m1 m2 HR2 HP K1 BB B4
  clear OA2 OB3 OC4 B2 B3 C3 C4 HS1
  obtain ⟨⟨f0, g0⟩, ⟨f1, g1⟩, ⟨f2, g2⟩⟩ : (_ ∧ _) ∧ (_ ∧ _) ∧ (_ ∧ _) := ⟨K4.out.2 0 _ rfl, K4.out.2 1 _ rfl, K4.out.2 2 _ rfl⟩
  go_wp2
  have R := Lib.hid ((((BC.out.setCell (p := ⟨w.heap.size, 0, none⟩) (by simp) (.slice none 0 0)).setCell (p := ⟨w.heap.size, 1, none⟩) (by simp) (.slice none 0 0)).setCell (p := ⟨w.heap.size, 2, none⟩) (by simp) (.slice none 0 0)))
  have Q := Lib.hid ((((K4.out.set (i := 0) (by simp) (.slice none 0 0)).set (i := 1) (by simp) (.slice none 0 0)).set (i := 2) (by simp) (.slice none 0 0)))
  obtain ⟨c0, c1, c2⟩ : _ ∧ _ ∧ _ := ⟨(Q.out.2 0 _ rfl).1, (Q.out.2 1 _ rfl).1, (Q.out.2 2 _ rfl).1⟩
  refine bodyPost_ret (v := .tuple #[.agg #[.slice none 0 0, .slice none 0 0, .slice none 0 0], .bool false]) ?_ rfl ⟨rfl, R.out⟩
  simp [results, Tryz.results38, go_sem, c0, c1, c2]
set_option maxHeartbeats 8000000 in
set_option maxRecDepth 100000 in
theorem s_l08ReadProfile_two (s : ByteArray) (w : World) (hs : s.size ≤ 1048576) (hl : (cutS 58 s).length = 3) (ho0 : nmO (pcs 58 s 0) = true) (ho1 : nmO (pcs 58 s 1) = false) :
    Calls Tryz.prog 38 #[.string s] w fun e w' => e = .returned (.tuple #[.agg #[.slice none 0 0, .slice none 0 0, .slice none 0 0], .bool false]) ∧ Below w.heap.size w w' := by
  obtain ⟨w0, hw0⟩ : ∃ z, z = w.alloc (.cells #[.slice none 0 0, .slice none 0 0, .slice none 0 0] 39) := ⟨_, rfl⟩
  have b0 : Below w.heap.size w w0 := by rw [hw0]; exact (Below.refl _ _).alloc (Nat.le_refl _) _
  have HZ0 : Hid (w0.heap.size = w.heap.size + 1) := Lib.hid (by rw [hw0]; simp)
  have K0 : Hid (BlkL w0 w.heap.size [.slice none 0 0, .slice none 0 0, .slice none 0 0]) := Lib.hid (by rw [hw0]; exact blkL_at w #[.slice none 0 0, .slice none 0 0, .slice none 0 0] _ rfl)
  have B0 := Lib.hid b0
  have HC : Hid (Calls Tryz.prog 49 #[.string s, .int .u8 58] w0 fun e w' => ∃ v, e = .returned v ∧ GrS w' w0.heap.size v (cutS 58 s) ∧ Below w0.heap.size w0 w') := Lib.hid (s_l01Cut 58 s w0 hs)
  clear b0
  have HPS : Hid ((cutS 58 s)[0]? = some (pcs 58 s 0) ∧ (cutS 58 s)[1]? = some (pcs 58 s 1) ∧ (cutS 58 s)[2]? = some (pcs 58 s 2)) := Lib.hid ⟨pcs_at hl (by decide), pcs_at hl (by decide), pcs_at hl (by decide)⟩
  have HL3 := Lib.hid hl
  have HR0 : Hid (∀ W, Calls Tryz.prog 50 #[.string (pcs 58 s 0)] W fun e w' => ∃ R1 c1 g1, e = .returned (.tuple #[.slice R1 (nmL (pcs 58 s 0)).length c1, .bool true]) ∧ OwnO w' W.heap.size R1 g1 (nmL (pcs 58 s 0)) ∧ Below W.heap.size W w') := Lib.hid (fun W => by have h := s_l01NRead (pcs 58 s 0) W (Nat.le_trans (pcs_size _ _ _) hs); rw [ho0] at h; exact h)
  have HR1 : Hid (∀ W, Calls Tryz.prog 50 #[.string (pcs 58 s 1)] W fun e w' => ∃ R1 c1 g1, e = .returned (.tuple #[.slice R1 (nmL (pcs 58 s 1)).length c1, .bool false]) ∧ OwnO w' W.heap.size R1 g1 (nmL (pcs 58 s 1)) ∧ Below W.heap.size W w') := Lib.hid (fun W => by have h := s_l01NRead (pcs 58 s 1) W (Nat.le_trans (pcs_size _ _ _) hs); rw [ho1] at h; exact h)
  have HR2 : Hid (∀ W, Calls Tryz.prog 50 #[.string (pcs 58 s 2)] W fun e w' => ∃ R1 c1 g1, e = .returned (.tuple #[.slice R1 (nmL (pcs 58 s 2)).length c1, .bool (nmO (pcs 58 s 2))]) ∧ OwnO w' W.heap.size R1 g1 (nmL (pcs 58 s 2)) ∧ Below W.heap.size W w') := Lib.hid (fun W => by have h := s_l01NRead (pcs 58 s 2) W (Nat.le_trans (pcs_size _ _ _) hs); exact h)
  clear hs hl ho0 ho1
  generalize pcs 58 s 0 = a0 at *
  generalize pcs 58 s 1 = a1 at *
  generalize pcs 58 s 2 = a2 at *
  go_enter Tryz.func38, Tryz.ntmps38
  go_upto_region 1 with fail
  rw [← hw0]
  clear hw0
  go_wp2_with fail
  refine HC.out.mono ?_
  rintro e w1 ⟨v, rfl, hg, b1⟩
  obtain ⟨pb, pc, rfl, hlo, hlt1, -, -, hcell⟩ := hg.own (by intro e; have := cutS_pos 58 s; rw [e] at this; simp at this)
  have K1 := Lib.hid (K0.out.below b1)
  have BB := Lib.hid (below_of B0.out B0.out.size b1)
  have HS1 := Lib.hid b1.size
  have HP : Hid (∀ W, Below w1.heap.size w1 W → W.cell? ⟨pb, 0, none⟩ = some (.string a0) ∧ W.cell? ⟨pb, 1, none⟩ = some (.string a1) ∧ W.cell? ⟨pb, 2, none⟩ = some (.string a2)) := Lib.hid (fun W hb => ⟨(hb.cell (p := ⟨pb, 0, none⟩) hlt1).trans (hcell 0 _ HPS.out.1), (hb.cell (p := ⟨pb, 1, none⟩) hlt1).trans (hcell 1 _ HPS.out.2.1), (hb.cell (p := ⟨pb, 2, none⟩) hlt1).trans (hcell 2 _ HPS.out.2.2)⟩)
  rw [HL3.out]
  clear hg hcell b1 HC B0 K0 HPS hlt1 hlo HL3
  obtain ⟨m0, m1, m2⟩ := HP.out _ (Below.refl _ _)
  go_wp2_with fail
  refine (HR0.out _).mono ?_
  rintro e w2 ⟨RA, cA, gA, rfl, hoA, b2⟩
  have B2 := Lib.hid b2
  have OA2 := Lib.hid hoA
  clear hoA b2 m0 m1 m2 HR0
  obtain ⟨m0, m1, m2⟩ := HP.out _ B2.out
  go_wp2_with fail
  refine (HR1.out _).mono ?_
  rintro e w3 ⟨RB, cB, gB, rfl, hoB, b3⟩
  have B3 := Lib.hid (below_of B2.out B2.out.size b3)
  have C3 := Lib.hid b3
  have OB3 := Lib.hid hoB
  clear hoB b3 m0 m1 m2 HR1
  obtain ⟨m0, m1, m2⟩ := HP.out _ B3.out
  go_wp2_with fail
  refine (HR2.out _).mono ?_
  rintro e w4 ⟨RC, cC, gC, rfl, hoC, b4⟩
  have C4 := Lib.hid b4
  have OC4 := Lib.hid hoC
  have B4 := Lib.hid (below_of B3.out B3.out.size b4)
  have K4 := Lib.hid (K1.out.below B4.out)
  have BC := Lib.hid (below_of BB.out BB.out.size B4.out)
  clear hoC b4 m0 m1 m2 HR2 HP K1 BB B4
  clear OA2 OB3 OC4 B2 B3 C3 C4 HS1
  obtain ⟨⟨f0, g0⟩, ⟨f1, g1⟩, ⟨f2, g2⟩⟩ : (_ ∧ _) ∧ (_ ∧ _) ∧ (_ ∧ _) := ⟨K4.out.2 0 _ rfl, K4.out.2 1 _ rfl, K4.out.2 2 _ rfl⟩
  go_wp2
  have R := Lib.hid ((((BC.out.setCell (p := ⟨w.heap.size, 0, none⟩) (by simp) (.slice none 0 0)).setCell (p := ⟨w.heap.size, 1, none⟩) (by simp) (.slice none 0 0)).setCell (p := ⟨w.heap.size, 2, none⟩) (by simp) (.slice none 0 0)))
  have Q := Lib.hid ((((K4.out.set (i := 0) (by simp) (.slice none 0 0)).set (i := 1) (by simp) (.slice none 0 0)).set (i := 2) (by simp) (.slice none 0 0)))
  obtain ⟨c0, c1, c2⟩ : _ ∧ _ ∧ _ := ⟨(Q.out.2 0 _ rfl).1, (Q.out.2 1 _ rfl).1, (Q.out.2 2 _ rfl).1⟩
  refine bodyPost_ret (v := .tuple #[.agg #[.slice none 0 0, .slice none 0 0, .slice none 0 0], .bool false]) ?_ rfl ⟨rfl, R.out⟩
  simp [results, Tryz.results38, go_sem, c0, c1, c2]
set_option maxHeartbeats 8000000 in
set_option maxRecDepth 100000 in
theorem s_l08ReadProfile_three (s : ByteArray) (w : World) (hs : s.size ≤ 1048576) (hl : (cutS 58 s).length = 3) (ho0 : nmO (pcs 58 s 0) = true) (ho1 : nmO (pcs 58 s 1) = true) (ho2 : nmO (pcs 58 s 2) = false) :
    Calls Tryz.prog 38 #[.string s] w fun e w' => e = .returned (.tuple #[.agg #[.slice none 0 0, .slice none 0 0, .slice none 0 0], .bool false]) ∧ Below w.heap.size w w' := by
  obtain ⟨w0, hw0⟩ : ∃ z, z = w.alloc (.cells #[.slice none 0 0, .slice none 0 0, .slice none 0 0] 39) := ⟨_, rfl⟩
  have b0 : Below w.heap.size w w0 := by rw [hw0]; exact (Below.refl _ _).alloc (Nat.le_refl _) _
  have HZ0 : Hid (w0.heap.size = w.heap.size + 1) := Lib.hid (by rw [hw0]; simp)
  have K0 : Hid (BlkL w0 w.heap.size [.slice none 0 0, .slice none 0 0, .slice none 0 0]) := Lib.hid (by rw [hw0]; exact blkL_at w #[.slice none 0 0, .slice none 0 0, .slice none 0 0] _ rfl)
  have B0 := Lib.hid b0
  have HC : Hid (Calls Tryz.prog 49 #[.string s, .int .u8 58] w0 fun e w' => ∃ v, e = .returned v ∧ GrS w' w0.heap.size v (cutS 58 s) ∧ Below w0.heap.size w0 w') := Lib.hid (s_l01Cut 58 s w0 hs)
  clear b0
  have HPS : Hid ((cutS 58 s)[0]? = some (pcs 58 s 0) ∧ (cutS 58 s)[1]? = some (pcs 58 s 1) ∧ (cutS 58 s)[2]? = some (pcs 58 s 2)) := Lib.hid ⟨pcs_at hl (by decide), pcs_at hl (by decide), pcs_at hl (by decide)⟩
  have HL3 := Lib.hid hl
  have HR0 : Hid (∀ W, Calls Tryz.prog 50 #[.string (pcs 58 s 0)] W fun e w' => ∃ R1 c1 g1, e = .returned (.tuple #[.slice R1 (nmL (pcs 58 s 0)).length c1, .bool true]) ∧ OwnO w' W.heap.size R1 g1 (nmL (pcs 58 s 0)) ∧ Below W.heap.size W w') := Lib.hid (fun W => by have h := s_l01NRead (pcs 58 s 0) W (Nat.le_trans (pcs_size _ _ _) hs); rw [ho0] at h; exact h)
  have HR1 : Hid (∀ W, Calls Tryz.prog 50 #[.string (pcs 58 s 1)] W fun e w' => ∃ R1 c1 g1, e = .returned (.tuple #[.slice R1 (nmL (pcs 58 s 1)).length c1, .bool true]) ∧ OwnO w' W.heap.size R1 g1 (nmL (pcs 58 s 1)) ∧ Below W.heap.size W w') := Lib.hid (fun W => by have h := s_l01NRead (pcs 58 s 1) W (Nat.le_trans (pcs_size _ _ _) hs); rw [ho1] at h; exact h)
  have HR2 : Hid (∀ W, Calls Tryz.prog 50 #[.string (pcs 58 s 2)] W fun e w' => ∃ R1 c1 g1, e = .returned (.tuple #[.slice R1 (nmL (pcs 58 s 2)).length c1, .bool false]) ∧ OwnO w' W.heap.size R1 g1 (nmL (pcs 58 s 2)) ∧ Below W.heap.size W w') := Lib.hid (fun W => by have h := s_l01NRead (pcs 58 s 2) W (Nat.le_trans (pcs_size _ _ _) hs); rw [ho2] at h; exact h)
  clear hs hl ho0 ho1 ho2
  generalize pcs 58 s 0 = a0 at *
  generalize pcs 58 s 1 = a1 at *
  generalize pcs 58 s 2 = a2 at *
  go_enter Tryz.func38, Tryz.ntmps38
  go_upto_region 1 with fail
  rw [← hw0]
  clear hw0
  go_wp2_with fail
  refine HC.out.mono ?_
  rintro e w1 ⟨v, rfl, hg, b1⟩
  obtain ⟨pb, pc, rfl, hlo, hlt1, -, -, hcell⟩ := hg.own (by intro e; have := cutS_pos 58 s; rw [e] at this; simp at this)
  have K1 := Lib.hid (K0.out.below b1)
  have BB := Lib.hid (below_of B0.out B0.out.size b1)
  have HS1 := Lib.hid b1.size
  have HP : Hid (∀ W, Below w1.heap.size w1 W → W.cell? ⟨pb, 0, none⟩ = some (.string a0) ∧ W.cell? ⟨pb, 1, none⟩ = some (.string a1) ∧ W.cell? ⟨pb, 2, none⟩ = some (.string a2)) := Lib.hid (fun W hb => ⟨(hb.cell (p := ⟨pb, 0, none⟩) hlt1).trans (hcell 0 _ HPS.out.1), (hb.cell (p := ⟨pb, 1, none⟩) hlt1).trans (hcell 1 _ HPS.out.2.1), (hb.cell (p := ⟨pb, 2, none⟩) hlt1).trans (hcell 2 _ HPS.out.2.2)⟩)
  rw [HL3.out]
  clear hg hcell b1 HC B0 K0 HPS hlt1 hlo HL3
  obtain ⟨m0, m1, m2⟩ := HP.out _ (Below.refl _ _)
  go_wp2_with fail
  refine (HR0.out _).mono ?_
  rintro e w2 ⟨RA, cA, gA, rfl, hoA, b2⟩
  have B2 := Lib.hid b2
  have OA2 := Lib.hid hoA
  clear hoA b2 m0 m1 m2 HR0
  obtain ⟨m0, m1, m2⟩ := HP.out _ B2.out
  go_wp2_with fail
  refine (HR1.out _).mono ?_
  rintro e w3 ⟨RB, cB, gB, rfl, hoB, b3⟩
  have B3 := Lib.hid (below_of B2.out B2.out.size b3)
  have C3 := Lib.hid b3
  have OB3 := Lib.hid hoB
  clear hoB b3 m0 m1 m2 HR1
  obtain ⟨m0, m1, m2⟩ := HP.out _ B3.out
  go_wp2_with fail
  refine (HR2.out _).mono ?_
  rintro e w4 ⟨RC, cC, gC, rfl, hoC, b4⟩
  have C4 := Lib.hid b4
  have OC4 := Lib.hid hoC
  have B4 := Lib.hid (below_of B3.out B3.out.size b4)
  have K4 := Lib.hid (K1.out.below B4.out)
  have BC := Lib.hid (below_of BB.out BB.out.size B4.out)
  clear hoC b4 m0 m1 m2 HR2 HP K1 BB B4
  clear OA2 OB3 OC4 B2 B3 C3 C4 HS1
  obtain ⟨⟨f0, g0⟩, ⟨f1, g1⟩, ⟨f2, g2⟩⟩ : (_ ∧ _) ∧ (_ ∧ _) ∧ (_ ∧ _) := ⟨K4.out.2 0 _ rfl, K4.out.2 1 _ rfl, K4.out.2 2 _ rfl⟩
  go_wp2
  have R := Lib.hid ((((BC.out.setCell (p := ⟨w.heap.size, 0, none⟩) (by simp) (.slice none 0 0)).setCell (p := ⟨w.heap.size, 1, none⟩) (by simp) (.slice none 0 0)).setCell (p := ⟨w.heap.size, 2, none⟩) (by simp) (.slice none 0 0)))
  have Q := Lib.hid ((((K4.out.set (i := 0) (by simp) (.slice none 0 0)).set (i := 1) (by simp) (.slice none 0 0)).set (i := 2) (by simp) (.slice none 0 0)))
  obtain ⟨c0, c1, c2⟩ : _ ∧ _ ∧ _ := ⟨(Q.out.2 0 _ rfl).1, (Q.out.2 1 _ rfl).1, (Q.out.2 2 _ rfl).1⟩
  refine bodyPost_ret (v := .tuple #[.agg #[.slice none 0 0, .slice none 0 0, .slice none 0 0], .bool false]) ?_ rfl ⟨rfl, R.out⟩
  simp [results, Tryz.results38, go_sem, c0, c1, c2]
set_option maxHeartbeats 8000000 in
set_option maxRecDepth 100000 in
theorem s_l08ReadProfile_yes (s : ByteArray) (w : World) (hs : s.size ≤ 1048576) (hl : (cutS 58 s).length = 3) (ho0 : nmO (pcs 58 s 0) = true) (ho1 : nmO (pcs 58 s 1) = true) (ho2 : nmO (pcs 58 s 2) = true) (hv : validP (qfX s) (qfY s) (qfZ s) = true) :
    Calls Tryz.prog 38 #[.string s] w fun e w' => QfV w.heap.size (qfX s) (qfY s) (qfZ s) true e w' ∧ Below w.heap.size w w' := by
  obtain ⟨w0, hw0⟩ : ∃ z, z = w.alloc (.cells #[.slice none 0 0, .slice none 0 0, .slice none 0 0] 39) := ⟨_, rfl⟩
  have b0 : Below w.heap.size w w0 := by rw [hw0]; exact (Below.refl _ _).alloc (Nat.le_refl _) _
  have HZ0 : Hid (w0.heap.size = w.heap.size + 1) := Lib.hid (by rw [hw0]; simp)
  have K0 : Hid (BlkL w0 w.heap.size [.slice none 0 0, .slice none 0 0, .slice none 0 0]) := Lib.hid (by rw [hw0]; exact blkL_at w #[.slice none 0 0, .slice none 0 0, .slice none 0 0] _ rfl)
  have B0 := Lib.hid b0
  have HC : Hid (Calls Tryz.prog 49 #[.string s, .int .u8 58] w0 fun e w' => ∃ v, e = .returned v ∧ GrS w' w0.heap.size v (cutS 58 s) ∧ Below w0.heap.size w0 w') := Lib.hid (s_l01Cut 58 s w0 hs)
  clear b0
  have HPS : Hid ((cutS 58 s)[0]? = some (pcs 58 s 0) ∧ (cutS 58 s)[1]? = some (pcs 58 s 1) ∧ (cutS 58 s)[2]? = some (pcs 58 s 2)) := Lib.hid ⟨pcs_at hl (by decide), pcs_at hl (by decide), pcs_at hl (by decide)⟩
  have HL3 := Lib.hid hl
  have HR0 : Hid (∀ W, Calls Tryz.prog 50 #[.string (pcs 58 s 0)] W fun e w' => ∃ R1 c1 g1, e = .returned (.tuple #[.slice R1 (nmL (pcs 58 s 0)).length c1, .bool true]) ∧ OwnO w' W.heap.size R1 g1 (nmL (pcs 58 s 0)) ∧ Below W.heap.size W w') := Lib.hid (fun W => by have h := s_l01NRead (pcs 58 s 0) W (Nat.le_trans (pcs_size _ _ _) hs); rw [ho0] at h; exact h)
  have HR1 : Hid (∀ W, Calls Tryz.prog 50 #[.string (pcs 58 s 1)] W fun e w' => ∃ R1 c1 g1, e = .returned (.tuple #[.slice R1 (nmL (pcs 58 s 1)).length c1, .bool true]) ∧ OwnO w' W.heap.size R1 g1 (nmL (pcs 58 s 1)) ∧ Below W.heap.size W w') := Lib.hid (fun W => by have h := s_l01NRead (pcs 58 s 1) W (Nat.le_trans (pcs_size _ _ _) hs); rw [ho1] at h; exact h)
  have HR2 : Hid (∀ W, Calls Tryz.prog 50 #[.string (pcs 58 s 2)] W fun e w' => ∃ R1 c1 g1, e = .returned (.tuple #[.slice R1 (nmL (pcs 58 s 2)).length c1, .bool true]) ∧ OwnO w' W.heap.size R1 g1 (nmL (pcs 58 s 2)) ∧ Below W.heap.size W w') := Lib.hid (fun W => by have h := s_l01NRead (pcs 58 s 2) W (Nat.le_trans (pcs_size _ _ _) hs); rw [ho2] at h; exact h)
  have HFW : Hid (Few (qfX s) (qfY s) (qfZ s)) := Lib.hid (qf_few s)
  clear hs hl ho0 ho1 ho2
  unfold qfX qfY qfZ at *
  generalize pcs 58 s 0 = a0 at *
  generalize pcs 58 s 1 = a1 at *
  generalize pcs 58 s 2 = a2 at *
  generalize nmL a0 = fx at *
  generalize nmL a1 = fy at *
  generalize nmL a2 = fz at *
  have HV := Lib.hid hv
  clear hv
  go_enter Tryz.func38, Tryz.ntmps38
  go_upto_region 1 with fail
  rw [← hw0]
  clear hw0
  go_wp2_with fail
  refine HC.out.mono ?_
  rintro e w1 ⟨v, rfl, hg, b1⟩
  obtain ⟨pb, pc, rfl, hlo, hlt1, -, -, hcell⟩ := hg.own (by intro e; have := cutS_pos 58 s; rw [e] at this; simp at this)
  have K1 := Lib.hid (K0.out.below b1)
  have BB := Lib.hid (below_of B0.out B0.out.size b1)
  have HS1 := Lib.hid b1.size
  have HP : Hid (∀ W, Below w1.heap.size w1 W → W.cell? ⟨pb, 0, none⟩ = some (.string a0) ∧ W.cell? ⟨pb, 1, none⟩ = some (.string a1) ∧ W.cell? ⟨pb, 2, none⟩ = some (.string a2)) := Lib.hid (fun W hb => ⟨(hb.cell (p := ⟨pb, 0, none⟩) hlt1).trans (hcell 0 _ HPS.out.1), (hb.cell (p := ⟨pb, 1, none⟩) hlt1).trans (hcell 1 _ HPS.out.2.1), (hb.cell (p := ⟨pb, 2, none⟩) hlt1).trans (hcell 2 _ HPS.out.2.2)⟩)
  rw [HL3.out]
  clear hg hcell b1 HC B0 K0 HPS hlt1 hlo HL3
  obtain ⟨m0, m1, m2⟩ := HP.out _ (Below.refl _ _)
  go_wp2_with fail
  refine (HR0.out _).mono ?_
  rintro e w2 ⟨RA, cA, gA, rfl, hoA, b2⟩
  have B2 := Lib.hid b2
  have OA2 := Lib.hid hoA
  clear hoA b2 m0 m1 m2 HR0
  obtain ⟨m0, m1, m2⟩ := HP.out _ B2.out
  go_wp2_with fail
  refine (HR1.out _).mono ?_
  rintro e w3 ⟨RB, cB, gB, rfl, hoB, b3⟩
  have B3 := Lib.hid (below_of B2.out B2.out.size b3)
  have C3 := Lib.hid b3
  have OB3 := Lib.hid hoB
  clear hoB b3 m0 m1 m2 HR1
  obtain ⟨m0, m1, m2⟩ := HP.out _ B3.out
  go_wp2_with fail
  refine (HR2.out _).mono ?_
  rintro e w4 ⟨RC, cC, gC, rfl, hoC, b4⟩
  have C4 := Lib.hid b4
  have OC4 := Lib.hid hoC
  have B4 := Lib.hid (below_of B3.out B3.out.size b4)
  have K4 := Lib.hid (K1.out.below B4.out)
  have BC := Lib.hid (below_of BB.out BB.out.size B4.out)
  clear hoC b4 m0 m1 m2 HR2 HP K1 BB B4
  obtain ⟨gx, gy, gz, hr⟩ := OwnQ.ofB (cx := 0) (cy := 0) (cz := 0) (((OA2.out.below C3.out).below C4.out).baseV (B := w0.heap.size) HS1.out) ((OB3.out.below C4.out).baseV (B := w0.heap.size) (Nat.le_trans HS1.out B2.out.size)) (OC4.out.baseV (B := w0.heap.size) (Nat.le_trans HS1.out B3.out.size)) (fun g h0 h1 => by have := (OA2.out.blk h0).2; have := (OB3.out.blk h1).1; omega) (fun g h0 h1 => by have := (OA2.out.blk h0).2; have := C3.out.size; have := (OC4.out.blk h1).1; omega) (fun g h0 h1 => by have := (OB3.out.blk h0).2; have := (OC4.out.blk h1).1; omega)
  have HO := Lib.hid hr
  clear hr
  have HGV : Hid (∀ W, Turn w4 W (fun b => b = w.heap.size) → Calls Tryz.prog 71 #[.agg #[.slice RA fx.length cA, .slice RB fy.length cB, .slice RC fz.length cC]] W fun e w' => e = .returned (.tuple #[.agg #[.slice RA fx.length cA, .slice RB fy.length cB, .slice RC fz.length cC], .bool true]) ∧ Below W.heap.size W w') := Lib.hid (fun W ht => by
    have h := HO.out.turnV ht (by have := HZ0.out; omega)
    exact s_GiveP_yes RA RB RC cA cB cC fx fy fz W ⟨h.1.fl, h.2.1.fl, h.2.2.1.fl⟩ HFW.out HV.out)
  clear OA2 OB3 OC4 B2 B3 C3 C4 HS1 HFW HV
  go_wp2_with fail
  refine (HGV.out _ (Turn.refl _ _)).mono ?_
  rintro e w5 ⟨rfl, b5⟩
  have K5 := Lib.hid (K4.out.below b5)
  have BD := Lib.hid (below_of BC.out BC.out.size b5)
  have HO5 := Lib.hid (HO.out.belowV b5)
  clear b5 K4 BC HO HGV
  obtain ⟨⟨f0, g0⟩, ⟨f1, g1⟩, ⟨f2, g2⟩⟩ : (_ ∧ _) ∧ (_ ∧ _) ∧ (_ ∧ _) := ⟨K5.out.2 0 _ rfl, K5.out.2 1 _ rfl, K5.out.2 2 _ rfl⟩
  go_wp2
  have R := Lib.hid ((((BD.out.setCell (p := ⟨w.heap.size, 0, none⟩) (by simp) (.slice RA fx.length cA)).setCell (p := ⟨w.heap.size, 1, none⟩) (by simp) (.slice RB fy.length cB)).setCell (p := ⟨w.heap.size, 2, none⟩) (by simp) (.slice RC fz.length cC)))
  have Q := Lib.hid ((((K5.out.set (i := 0) (by simp) (.slice RA fx.length cA)).set (i := 1) (by simp) (.slice RB fy.length cB)).set (i := 2) (by simp) (.slice RC fz.length cC)))
  have HR := Lib.hid (((((HO5.out.setV (p := ⟨w.heap.size, 0, none⟩) (by show w.heap.size < _; have := HZ0.out; omega) (.slice RA fx.length cA)).setV (p := ⟨w.heap.size, 1, none⟩) (by show w.heap.size < _; have := HZ0.out; omega) (.slice RB fy.length cB)).setV (p := ⟨w.heap.size, 2, none⟩) (by show w.heap.size < _; have := HZ0.out; omega) (.slice RC fz.length cC))).baseV (B := w.heap.size) (by have := HZ0.out; omega))
  obtain ⟨c0, c1, c2⟩ : _ ∧ _ ∧ _ := ⟨(Q.out.2 0 _ rfl).1, (Q.out.2 1 _ rfl).1, (Q.out.2 2 _ rfl).1⟩
  refine bodyPost_ret (v := .tuple #[.agg #[.slice RA fx.length cA, .slice RB fy.length cB, .slice RC fz.length cC], .bool true]) ?_ rfl ⟨⟨RA, RB, RC, cA, cB, cC, gx, gy, gz, rfl, HR.out⟩, R.out⟩
  simp [results, Tryz.results38, go_sem, c0, c1, c2]
set_option maxHeartbeats 8000000 in
set_option maxRecDepth 100000 in
theorem s_l08ReadProfile_inv (s : ByteArray) (w : World) (hs : s.size ≤ 1048576) (hl : (cutS 58 s).length = 3) (ho0 : nmO (pcs 58 s 0) = true) (ho1 : nmO (pcs 58 s 1) = true) (ho2 : nmO (pcs 58 s 2) = true) (hv : validP (qfX s) (qfY s) (qfZ s) = false) :
    Calls Tryz.prog 38 #[.string s] w fun e w' => e = .returned (.tuple #[.agg #[.slice none 0 0, .slice none 0 0, .slice none 0 0], .bool false]) ∧ Below w.heap.size w w' := by
  obtain ⟨w0, hw0⟩ : ∃ z, z = w.alloc (.cells #[.slice none 0 0, .slice none 0 0, .slice none 0 0] 39) := ⟨_, rfl⟩
  have b0 : Below w.heap.size w w0 := by rw [hw0]; exact (Below.refl _ _).alloc (Nat.le_refl _) _
  have HZ0 : Hid (w0.heap.size = w.heap.size + 1) := Lib.hid (by rw [hw0]; simp)
  have K0 : Hid (BlkL w0 w.heap.size [.slice none 0 0, .slice none 0 0, .slice none 0 0]) := Lib.hid (by rw [hw0]; exact blkL_at w #[.slice none 0 0, .slice none 0 0, .slice none 0 0] _ rfl)
  have B0 := Lib.hid b0
  have HC : Hid (Calls Tryz.prog 49 #[.string s, .int .u8 58] w0 fun e w' => ∃ v, e = .returned v ∧ GrS w' w0.heap.size v (cutS 58 s) ∧ Below w0.heap.size w0 w') := Lib.hid (s_l01Cut 58 s w0 hs)
  clear b0
  have HPS : Hid ((cutS 58 s)[0]? = some (pcs 58 s 0) ∧ (cutS 58 s)[1]? = some (pcs 58 s 1) ∧ (cutS 58 s)[2]? = some (pcs 58 s 2)) := Lib.hid ⟨pcs_at hl (by decide), pcs_at hl (by decide), pcs_at hl (by decide)⟩
  have HL3 := Lib.hid hl
  have HR0 : Hid (∀ W, Calls Tryz.prog 50 #[.string (pcs 58 s 0)] W fun e w' => ∃ R1 c1 g1, e = .returned (.tuple #[.slice R1 (nmL (pcs 58 s 0)).length c1, .bool true]) ∧ OwnO w' W.heap.size R1 g1 (nmL (pcs 58 s 0)) ∧ Below W.heap.size W w') := Lib.hid (fun W => by have h := s_l01NRead (pcs 58 s 0) W (Nat.le_trans (pcs_size _ _ _) hs); rw [ho0] at h; exact h)
  have HR1 : Hid (∀ W, Calls Tryz.prog 50 #[.string (pcs 58 s 1)] W fun e w' => ∃ R1 c1 g1, e = .returned (.tuple #[.slice R1 (nmL (pcs 58 s 1)).length c1, .bool true]) ∧ OwnO w' W.heap.size R1 g1 (nmL (pcs 58 s 1)) ∧ Below W.heap.size W w') := Lib.hid (fun W => by have h := s_l01NRead (pcs 58 s 1) W (Nat.le_trans (pcs_size _ _ _) hs); rw [ho1] at h; exact h)
  have HR2 : Hid (∀ W, Calls Tryz.prog 50 #[.string (pcs 58 s 2)] W fun e w' => ∃ R1 c1 g1, e = .returned (.tuple #[.slice R1 (nmL (pcs 58 s 2)).length c1, .bool true]) ∧ OwnO w' W.heap.size R1 g1 (nmL (pcs 58 s 2)) ∧ Below W.heap.size W w') := Lib.hid (fun W => by have h := s_l01NRead (pcs 58 s 2) W (Nat.le_trans (pcs_size _ _ _) hs); rw [ho2] at h; exact h)
  have HFW : Hid (Few (qfX s) (qfY s) (qfZ s)) := Lib.hid (qf_few s)
  clear hs hl ho0 ho1 ho2
  unfold qfX qfY qfZ at *
  generalize pcs 58 s 0 = a0 at *
  generalize pcs 58 s 1 = a1 at *
  generalize pcs 58 s 2 = a2 at *
  generalize nmL a0 = fx at *
  generalize nmL a1 = fy at *
  generalize nmL a2 = fz at *
  have HV := Lib.hid hv
  clear hv
  go_enter Tryz.func38, Tryz.ntmps38
  go_upto_region 1 with fail
  rw [← hw0]
  clear hw0
  go_wp2_with fail
  refine HC.out.mono ?_
  rintro e w1 ⟨v, rfl, hg, b1⟩
  obtain ⟨pb, pc, rfl, hlo, hlt1, -, -, hcell⟩ := hg.own (by intro e; have := cutS_pos 58 s; rw [e] at this; simp at this)
  have K1 := Lib.hid (K0.out.below b1)
  have BB := Lib.hid (below_of B0.out B0.out.size b1)
  have HS1 := Lib.hid b1.size
  have HP : Hid (∀ W, Below w1.heap.size w1 W → W.cell? ⟨pb, 0, none⟩ = some (.string a0) ∧ W.cell? ⟨pb, 1, none⟩ = some (.string a1) ∧ W.cell? ⟨pb, 2, none⟩ = some (.string a2)) := Lib.hid (fun W hb => ⟨(hb.cell (p := ⟨pb, 0, none⟩) hlt1).trans (hcell 0 _ HPS.out.1), (hb.cell (p := ⟨pb, 1, none⟩) hlt1).trans (hcell 1 _ HPS.out.2.1), (hb.cell (p := ⟨pb, 2, none⟩) hlt1).trans (hcell 2 _ HPS.out.2.2)⟩)
  rw [HL3.out]
  clear hg hcell b1 HC B0 K0 HPS hlt1 hlo HL3
  obtain ⟨m0, m1, m2⟩ := HP.out _ (Below.refl _ _)
  go_wp2_with fail
  refine (HR0.out _).mono ?_
  rintro e w2 ⟨RA, cA, gA, rfl, hoA, b2⟩
  have B2 := Lib.hid b2
  have OA2 := Lib.hid hoA
  clear hoA b2 m0 m1 m2 HR0
  obtain ⟨m0, m1, m2⟩ := HP.out _ B2.out
  go_wp2_with fail
  refine (HR1.out _).mono ?_
  rintro e w3 ⟨RB, cB, gB, rfl, hoB, b3⟩
  have B3 := Lib.hid (below_of B2.out B2.out.size b3)
  have C3 := Lib.hid b3
  have OB3 := Lib.hid hoB
  clear hoB b3 m0 m1 m2 HR1
  obtain ⟨m0, m1, m2⟩ := HP.out _ B3.out
  go_wp2_with fail
  refine (HR2.out _).mono ?_
  rintro e w4 ⟨RC, cC, gC, rfl, hoC, b4⟩
  have C4 := Lib.hid b4
  have OC4 := Lib.hid hoC
  have B4 := Lib.hid (below_of B3.out B3.out.size b4)
  have K4 := Lib.hid (K1.out.below B4.out)
  have BC := Lib.hid (below_of BB.out BB.out.size B4.out)
  clear hoC b4 m0 m1 m2 HR2 HP K1 BB B4
  obtain ⟨gx, gy, gz, hr⟩ := OwnQ.ofB (cx := 0) (cy := 0) (cz := 0) (((OA2.out.below C3.out).below C4.out).baseV (B := w0.heap.size) HS1.out) ((OB3.out.below C4.out).baseV (B := w0.heap.size) (Nat.le_trans HS1.out B2.out.size)) (OC4.out.baseV (B := w0.heap.size) (Nat.le_trans HS1.out B3.out.size)) (fun g h0 h1 => by have := (OA2.out.blk h0).2; have := (OB3.out.blk h1).1; omega) (fun g h0 h1 => by have := (OA2.out.blk h0).2; have := C3.out.size; have := (OC4.out.blk h1).1; omega) (fun g h0 h1 => by have := (OB3.out.blk h0).2; have := (OC4.out.blk h1).1; omega)
  have HO := Lib.hid hr
  clear hr
  have HGV : Hid (∀ W, Turn w4 W (fun b => b = w.heap.size) → Calls Tryz.prog 71 #[.agg #[.slice RA fx.length cA, .slice RB fy.length cB, .slice RC fz.length cC]] W fun e w' => e = .returned (.tuple #[.agg #[.slice none 0 0, .slice none 0 0, .slice none 0 0], .bool false]) ∧ Below W.heap.size W w') := Lib.hid (fun W ht => by
    have h := HO.out.turnV ht (by have := HZ0.out; omega)
    exact s_GiveP_no RA RB RC cA cB cC fx fy fz W ⟨h.1.fl, h.2.1.fl, h.2.2.1.fl⟩ HFW.out HV.out)
  clear OA2 OB3 OC4 B2 B3 C3 C4 HS1 HFW HV
  go_wp2_with fail
  refine (HGV.out _ (Turn.refl _ _)).mono ?_
  rintro e w5 ⟨rfl, b5⟩
  have K5 := Lib.hid (K4.out.below b5)
  have BD := Lib.hid (below_of BC.out BC.out.size b5)
  have HO5 := Lib.hid (HO.out.belowV b5)
  clear b5 K4 BC HO HGV
  obtain ⟨⟨f0, g0⟩, ⟨f1, g1⟩, ⟨f2, g2⟩⟩ : (_ ∧ _) ∧ (_ ∧ _) ∧ (_ ∧ _) := ⟨K5.out.2 0 _ rfl, K5.out.2 1 _ rfl, K5.out.2 2 _ rfl⟩
  go_wp2
  have R := Lib.hid ((((BD.out.setCell (p := ⟨w.heap.size, 0, none⟩) (by simp) (.slice none 0 0)).setCell (p := ⟨w.heap.size, 1, none⟩) (by simp) (.slice none 0 0)).setCell (p := ⟨w.heap.size, 2, none⟩) (by simp) (.slice none 0 0)))
  have Q := Lib.hid ((((K5.out.set (i := 0) (by simp) (.slice none 0 0)).set (i := 1) (by simp) (.slice none 0 0)).set (i := 2) (by simp) (.slice none 0 0)))
  have HR := Lib.hid (((((HO5.out.setV (p := ⟨w.heap.size, 0, none⟩) (by show w.heap.size < _; have := HZ0.out; omega) (.slice none 0 0)).setV (p := ⟨w.heap.size, 1, none⟩) (by show w.heap.size < _; have := HZ0.out; omega) (.slice none 0 0)).setV (p := ⟨w.heap.size, 2, none⟩) (by show w.heap.size < _; have := HZ0.out; omega) (.slice none 0 0))).baseV (B := w.heap.size) (by have := HZ0.out; omega))
  obtain ⟨c0, c1, c2⟩ : _ ∧ _ ∧ _ := ⟨(Q.out.2 0 _ rfl).1, (Q.out.2 1 _ rfl).1, (Q.out.2 2 _ rfl).1⟩
  refine bodyPost_ret (v := .tuple #[.agg #[.slice none 0 0, .slice none 0 0, .slice none 0 0], .bool false]) ?_ rfl ⟨rfl, R.out⟩
  simp [results, Tryz.results38, go_sem, c0, c1, c2]
theorem s_l08ReadProfile (s : ByteArray) (w : World) (hs : s.size ≤ 1048576) :
    Calls Tryz.prog 38 #[.string s] w fun e w' => QfV w.heap.size (gLp (rqO s) (qfX s)) (gLp (rqO s) (qfY s)) (gLp (rqO s) (qfZ s)) (rqO s) e w' ∧ Below w.heap.size w w' := by
  have HN : ∀ (hr : qfO s = false), Calls Tryz.prog 38 #[.string s] w (fun e w' => e = .returned (.tuple #[.agg #[.slice none 0 0, .slice none 0 0, .slice none 0 0], .bool false]) ∧ Below w.heap.size w w') → Calls Tryz.prog 38 #[.string s] w fun e w' => QfV w.heap.size (gLp (rqO s) (qfX s)) (gLp (rqO s) (qfY s)) (gLp (rqO s) (qfZ s)) (rqO s) e w' ∧ Below w.heap.size w w' := by
    intro hr h
    refine h.mono ?_
    rintro e w' ⟨rfl, hb⟩
    exact ⟨QfV.zero s _ _ (by unfold rqO; rw [hr]; rfl), hb⟩
  by_cases hl : (cutS 58 s).length = 3
  · cases ho0 : nmO (pcs 58 s 0)
    · exact HN (qfO_no (fun e => by rw [ho0] at e; cases e.2.1)) (s_l08ReadProfile_one s w hs hl ho0)
    · cases ho1 : nmO (pcs 58 s 1)
      · exact HN (qfO_no (fun e => by rw [ho1] at e; cases e.2.2.1)) (s_l08ReadProfile_two s w hs hl ho0 ho1)
      · cases ho2 : nmO (pcs 58 s 2)
        · exact HN (qfO_no (fun e => by rw [ho2] at e; cases e.2.2.2)) (s_l08ReadProfile_three s w hs hl ho0 ho1 ho2)
        · have h := qfO_iff.2 ⟨hl, ho0, ho1, ho2⟩
          cases hv : validP (qfX s) (qfY s) (qfZ s)
          · have hr : rqO s = false := by unfold rqO; rw [h, hv]; rfl
            refine (s_l08ReadProfile_inv s w hs hl ho0 ho1 ho2 hv).mono ?_
            rintro e w' ⟨rfl, hb⟩
            exact ⟨QfV.zero s _ _ hr, hb⟩
          · have hr : rqO s = true := by unfold rqO; rw [h, hv]; rfl
            refine (s_l08ReadProfile_yes s w hs hl ho0 ho1 ho2 hv).mono ?_
            rintro e w' ⟨he, hb⟩
            exact ⟨QfV.full s _ _ _ hr he, hb⟩
  · exact HN (qfO_no (fun e => hl e.1)) (s_l08ReadProfile_cut s w hs hl)
set_option maxHeartbeats 8000000 in
theorem s_ReadProfileV (s : ByteArray) (w : World) (hs : s.size ≤ 1048576) :
    Calls Tryz.prog 15 #[.string s] w fun e w' => QfV w.heap.size (gLp (rqO s) (qfX s)) (gLp (rqO s) (qfY s)) (gLp (rqO s) (qfZ s)) (rqO s) e w' ∧ Below w.heap.size w w' := by
  obtain ⟨w0, hw0⟩ : ∃ z, z = w.alloc (.cells #[.slice none 0 0, .slice none 0 0, .slice none 0 0] 39) := ⟨_, rfl⟩
  have b0 : Below w.heap.size w w0 := by rw [hw0]; exact (Below.refl _ _).alloc (Nat.le_refl _) _
  have HZ0 : Hid (w0.heap.size = w.heap.size + 1) := Lib.hid (by rw [hw0]; simp)
  have K0 : Hid (BlkL w0 w.heap.size [.slice none 0 0, .slice none 0 0, .slice none 0 0]) := Lib.hid (by rw [hw0]; exact blkL_at w #[.slice none 0 0, .slice none 0 0, .slice none 0 0] _ rfl)
  have HC := Lib.hid (s_l08ReadProfile s w0 hs)
  have B0 := Lib.hid b0
  clear hs b0
  generalize gLp (rqO s) (qfX s) = fx at HC ⊢
  generalize gLp (rqO s) (qfY s) = fy at HC ⊢
  generalize gLp (rqO s) (qfZ s) = fz at HC ⊢
  generalize rqO s = bb at HC ⊢
  go_enter Tryz.func15, Tryz.ntmps15
  go_upto_region 1 with fail
  rw [← hw0]
  clear hw0
  go_wp2_with fail
  refine HC.out.mono ?_
  rintro e w1 ⟨hx, b1⟩
  obtain ⟨X, Y, Z, cx, cy, cz, gx, gy, gz, rfl, ho⟩ := hx
  have K1 := Lib.hid (K0.out.below b1)
  have BB := Lib.hid (below_of B0.out B0.out.size b1)
  have HO := Lib.hid ho
  clear b1 ho K0 B0 HC
  obtain ⟨⟨f0, g0⟩, ⟨f1, g1⟩, ⟨f2, g2⟩⟩ : (_ ∧ _) ∧ (_ ∧ _) ∧ (_ ∧ _) := ⟨K1.out.2 0 _ rfl, K1.out.2 1 _ rfl, K1.out.2 2 _ rfl⟩
  go_wp2
  have R := Lib.hid ((((BB.out.setCell (p := ⟨w.heap.size, 0, none⟩) (by simp) (.slice X fx.length cx)).setCell (p := ⟨w.heap.size, 1, none⟩) (by simp) (.slice Y fy.length cy)).setCell (p := ⟨w.heap.size, 2, none⟩) (by simp) (.slice Z fz.length cz)))
  have Q := Lib.hid ((((K1.out.set (i := 0) (by simp) (.slice X fx.length cx)).set (i := 1) (by simp) (.slice Y fy.length cy)).set (i := 2) (by simp) (.slice Z fz.length cz)))
  have HR := Lib.hid (((((HO.out.setV (p := ⟨w.heap.size, 0, none⟩) (by show w.heap.size < _; have := HZ0.out; omega) (.slice X fx.length cx)).setV (p := ⟨w.heap.size, 1, none⟩) (by show w.heap.size < _; have := HZ0.out; omega) (.slice Y fy.length cy)).setV (p := ⟨w.heap.size, 2, none⟩) (by show w.heap.size < _; have := HZ0.out; omega) (.slice Z fz.length cz))).baseV (B := w.heap.size) (by have := HZ0.out; omega))
  obtain ⟨c0, c1, c2⟩ : _ ∧ _ ∧ _ := ⟨(Q.out.2 0 _ rfl).1, (Q.out.2 1 _ rfl).1, (Q.out.2 2 _ rfl).1⟩
  refine bodyPost_ret (v := .tuple #[.agg #[.slice X fx.length cx, .slice Y fy.length cy, .slice Z fz.length cz], .bool bb]) ?_ rfl ⟨⟨X, Y, Z, cx, cy, cz, gx, gy, gz, rfl, HR.out⟩, R.out⟩
  simp [results, Tryz.results15, go_sem, c0, c1, c2]
theorem s_ReadProfile (s : ByteArray) (w : World) (hs : s.size ≤ 1048576) :
    Calls Tryz.prog 15 #[.string s] w fun e w' => ∃ (R1 R2 R3 : Option Addr) (c1 c2 c3 g1 g2 g3 : Nat), e = .returned (.tuple #[.agg #[.slice R1 (gLp (rqO s) (qfX s)).length c1, .slice R2 (gLp (rqO s) (qfY s)).length c2, .slice R3 (gLp (rqO s) (qfZ s)).length c3], .bool (rqO s)]) ∧ OwnQ w' w.heap.size R1 R2 R3 g1 g2 g3 (gLp (rqO s) (qfX s)) (gLp (rqO s) (qfY s)) (gLp (rqO s) (qfZ s)) ∧ Below w.heap.size w w' := by
  refine (s_ReadProfileV s w hs).mono ?_
  rintro e w' ⟨hx, hb⟩
  obtain ⟨X, Y, Z, cx, cy, cz, gx, gy, gz, he, ho⟩ := hx
  exact ⟨X, Y, Z, cx, cy, cz, gx, gy, gz, he, ho, hb⟩
end Go.Proofs.YtknabmknboffgaaGreatDoor
namespace Go.Proofs.YtknabmknboffgaaGreatDoor
open Go Go.RowKit
set_option maxHeartbeats 16000000 in
set_option maxRecDepth 100000 in
theorem law_FnExactReadProfile (s0 : ByteArray) (w : World) (_hz0 : s0.size ≤ maxLen) (he : EV w) (ht : T64 w) (hm0 : ML w) (hv : ∃ pv, EMv pv w) :
    Calls Tryz.prog 5 #[.string s0] w fun e w' => e = .returned (.bool true) ∧ Below w.heap.size w w' := by
  obtain ⟨pv, hv⟩ := hv
  have HE := Lib.hid he
  clear he
  have HT := Lib.hid ht
  clear ht
  have HM0 := Lib.hid hm0
  clear hm0
  have HV := Lib.hid hv
  clear hv
  by_cases hb0 : s0.size ≤ 1048576
  · skip
    have HZ0 := Lib.hid hb0
    have hbi0 : ¬ (1048576 : Int) < (s0.size : Int) := by omega
    clear hb0
    have HF : Hid (Few (gLp (rqO s0) (qfX s0)) (gLp (rqO s0) (qfY s0)) (gLp (rqO s0) (qfZ s0))) := Lib.hid (qf_fewG s0)
    go_enter Tryz.func5, Tryz.ntmps5
    go_wp2_with fail
    refine (s_ReadProfile s0 _ HZ0.out).mono ?_
    rintro e wd1 ⟨cR1, cR2, cR3, cc1, cc2, cc3, cg1, cg2, cg3, rfl, ho, b⟩
    have B1 : Hid (Below w.heap.size w wd1) := Lib.hid b
    have Z1 : Hid (w.heap.size ≤ wd1.heap.size) := Lib.hid b.size
    have Xc : Hid (OwnQ wd1 w.heap.size cR1 cR2 cR3 cg1 cg2 cg3 (gLp (rqO s0) (qfX s0)) (gLp (rqO s0) (qfY s0)) (gLp (rqO s0) (qfZ s0))) := Lib.hid (ho)
    have Xcbd := Xc
    clear ho
    clear b
    obtain ⟨wd2, hw2⟩ : ∃ x, x = wd1.alloc (.cells #[.slice cR1 (gLp (rqO s0) (qfX s0)).length cc1, .slice cR2 (gLp (rqO s0) (qfY s0)).length cc2, .slice cR3 (gLp (rqO s0) (qfZ s0)).length cc3] 39) := ⟨_, rfl⟩
    have b : Below wd1.heap.size wd1 wd2 := by rw [hw2]; exact (Below.refl _ _).alloc (Nat.le_refl _) _
    have Y2 : Hid (wd1.heap.size + 1 ≤ wd2.heap.size) := Lib.hid (by rw [hw2]; simp)
    have B2 : Hid (Below w.heap.size w wd2) := Lib.hid (below_of B1.out B1.out.size b)
    have Z2 : Hid (wd1.heap.size ≤ wd2.heap.size) := Lib.hid b.size
    have Xc_1 : Hid (OwnQ wd2 w.heap.size cR1 cR2 cR3 cg1 cg2 cg3 (gLp (rqO s0) (qfX s0)) (gLp (rqO s0) (qfY s0)) (gLp (rqO s0) (qfZ s0))) := Lib.hid (Xc.out.below b)
    have WB : Hid (BlkL wd2 (wd1.heap.size) [.slice cR1 (gLp (rqO s0) (qfX s0)).length cc1, .slice cR2 (gLp (rqO s0) (qfY s0)).length cc2, .slice cR3 (gLp (rqO s0) (qfZ s0)).length cc3]) := Lib.hid (by rw [hw2]; exact blkL_at wd1 #[.slice cR1 (gLp (rqO s0) (qfX s0)).length cc1, .slice cR2 (gLp (rqO s0) (qfY s0)).length cc2, .slice cR3 (gLp (rqO s0) (qfZ s0)).length cc3] 39 rfl)
    clear b
    go_wp2_with fail
    rw [← hw2]
    clear hw2
    clear Xc
    obtain ⟨WBx0, WBx1, WBx2⟩ := WB.out.three
    go_wp2_with fail
    refine (i_ReadProfile s0 pv _ HZ0.out (HE.out.below B2.out) (HT.out.below B2.out) (HM0.out.below B2.out) (HV.out.below B2.out)).mono ?_
    rintro e wd3 ⟨gR1, gR2, gR3, gc1, gc2, gc3, gg1, gg2, gg3, rfl, ho, b⟩
    have B3 : Hid (Below w.heap.size w wd3) := Lib.hid (below_of B2.out B2.out.size b)
    have Z3 : Hid (wd2.heap.size ≤ wd3.heap.size) := Lib.hid b.size
    have Xc_2 : Hid (OwnQ wd3 w.heap.size cR1 cR2 cR3 cg1 cg2 cg3 (gLp (rqO s0) (qfX s0)) (gLp (rqO s0) (qfY s0)) (gLp (rqO s0) (qfZ s0))) := Lib.hid (Xc_1.out.below b)
    have WB_1 : Hid (BlkL wd3 (wd1.heap.size) [.slice cR1 (gLp (rqO s0) (qfX s0)).length cc1, .slice cR2 (gLp (rqO s0) (qfY s0)).length cc2, .slice cR3 (gLp (rqO s0) (qfZ s0)).length cc3]) := Lib.hid (WB.out.below b)
    clear WBx0 WBx1 WBx2
    clear Xc_1 WB
    have Xg : Hid (OwnQ wd3 wd2.heap.size gR1 gR2 gR3 gg1 gg2 gg3 (gLp (rqO s0) (qfX s0)) (gLp (rqO s0) (qfY s0)) (gLp (rqO s0) (qfZ s0))) := Lib.hid (ho)
    have Xgbd := Xg
    clear ho
    clear b
    obtain ⟨wd4, hw4⟩ : ∃ x, x = wd3.alloc (.cells #[.slice gR1 (gLp (rqO s0) (qfX s0)).length gc1, .slice gR2 (gLp (rqO s0) (qfY s0)).length gc2, .slice gR3 (gLp (rqO s0) (qfZ s0)).length gc3] 39) := ⟨_, rfl⟩
    have b : Below wd3.heap.size wd3 wd4 := by rw [hw4]; exact (Below.refl _ _).alloc (Nat.le_refl _) _
    have Y4 : Hid (wd3.heap.size + 1 ≤ wd4.heap.size) := Lib.hid (by rw [hw4]; simp)
    have B4 : Hid (Below w.heap.size w wd4) := Lib.hid (below_of B3.out B3.out.size b)
    have Z4 : Hid (wd3.heap.size ≤ wd4.heap.size) := Lib.hid b.size
    have Xc_3 : Hid (OwnQ wd4 w.heap.size cR1 cR2 cR3 cg1 cg2 cg3 (gLp (rqO s0) (qfX s0)) (gLp (rqO s0) (qfY s0)) (gLp (rqO s0) (qfZ s0))) := Lib.hid (Xc_2.out.below b)
    have WB_2 : Hid (BlkL wd4 (wd1.heap.size) [.slice cR1 (gLp (rqO s0) (qfX s0)).length cc1, .slice cR2 (gLp (rqO s0) (qfY s0)).length cc2, .slice cR3 (gLp (rqO s0) (qfZ s0)).length cc3]) := Lib.hid (WB_1.out.below b)
    have Xg_1 : Hid (OwnQ wd4 wd2.heap.size gR1 gR2 gR3 gg1 gg2 gg3 (gLp (rqO s0) (qfX s0)) (gLp (rqO s0) (qfY s0)) (gLp (rqO s0) (qfZ s0))) := Lib.hid (Xg.out.below b)
    have GB : Hid (BlkL wd4 (wd3.heap.size) [.slice gR1 (gLp (rqO s0) (qfX s0)).length gc1, .slice gR2 (gLp (rqO s0) (qfY s0)).length gc2, .slice gR3 (gLp (rqO s0) (qfZ s0)).length gc3]) := Lib.hid (by rw [hw4]; exact blkL_at wd3 #[.slice gR1 (gLp (rqO s0) (qfX s0)).length gc1, .slice gR2 (gLp (rqO s0) (qfY s0)).length gc2, .slice gR3 (gLp (rqO s0) (qfZ s0)).length gc3] 39 rfl)
    clear b
    have WBy0 := fun o => ((WB_1.out.alloc o).2 0 _ rfl).1
    have WBy1 := fun o => ((WB_1.out.alloc o).2 1 _ rfl).1
    have WBy2 := fun o => ((WB_1.out.alloc o).2 2 _ rfl).1
    go_wp2_with fail
    rw [← hw4]
    clear hw4
    clear WBy0 WBy1 WBy2
    clear Xc_2 WB_1 Xg
    obtain ⟨WBx0, WBx1, WBx2⟩ := WB_2.out.three
    obtain ⟨GBx0, GBx1, GBx2⟩ := GB.out.three
    go_wp2_with fail
    refine (l_eqProfile _ _ _ _ _ _ _ _ _ _ _ _ (gLp (rqO s0) (qfX s0)) (gLp (rqO s0) (qfY s0)) (gLp (rqO s0) (qfZ s0)) _ Xg_1.out.pf Xc_3.out.pf HF.out).mono ?_
    rintro e wd5 ⟨rfl, b⟩
    have B5 : Hid (Below w.heap.size w wd5) := Lib.hid (below_of B4.out B4.out.size b)
    have Z5 : Hid (wd4.heap.size ≤ wd5.heap.size) := Lib.hid b.size
    have Xc_4 : Hid (OwnQ wd5 w.heap.size cR1 cR2 cR3 cg1 cg2 cg3 (gLp (rqO s0) (qfX s0)) (gLp (rqO s0) (qfY s0)) (gLp (rqO s0) (qfZ s0))) := Lib.hid (Xc_3.out.below b)
    have WB_3 : Hid (BlkL wd5 (wd1.heap.size) [.slice cR1 (gLp (rqO s0) (qfX s0)).length cc1, .slice cR2 (gLp (rqO s0) (qfY s0)).length cc2, .slice cR3 (gLp (rqO s0) (qfZ s0)).length cc3]) := Lib.hid (WB_2.out.below b)
    have Xg_2 : Hid (OwnQ wd5 wd2.heap.size gR1 gR2 gR3 gg1 gg2 gg3 (gLp (rqO s0) (qfX s0)) (gLp (rqO s0) (qfY s0)) (gLp (rqO s0) (qfZ s0))) := Lib.hid (Xg_1.out.below b)
    have GB_1 : Hid (BlkL wd5 (wd3.heap.size) [.slice gR1 (gLp (rqO s0) (qfX s0)).length gc1, .slice gR2 (gLp (rqO s0) (qfY s0)).length gc2, .slice gR3 (gLp (rqO s0) (qfZ s0)).length gc3]) := Lib.hid (GB.out.below b)
    clear WBx0 WBx1 WBx2 GBx0 GBx1 GBx2
    clear Xc_3 WB_2 Xg_1 GB
    clear b
    obtain ⟨WBx0, WBx1, WBx2⟩ := WB_3.out.three
    obtain ⟨GBx0, GBx1, GBx2⟩ := GB_1.out.three
    go_wp2_with fail
    refine (l_markProfile _ _ _ _ _ _ _ _ _ _ 1 (gLp (rqO s0) (qfX s0)) (gLp (rqO s0) (qfY s0)) (gLp (rqO s0) (qfZ s0)) _ (Xg_2.out) HF.out (by omega) _ rfl).mono ?_
    rintro e wd6 ⟨rfl, om, t⟩
    have B6 : Hid (Below w.heap.size w wd6) := Lib.hid (t.2.2.2 w B5.out (by intro b hh; have h1 := Xgbd.out.bd hh; have := Z1.out; have := Z2.out; have := Y2.out; have := Z3.out; have := Z4.out; have := Y4.out; have := Z5.out; omega))
    have Z6 : Hid (wd5.heap.size ≤ wd6.heap.size) := Lib.hid t.1
    have Xc_5 : Hid (OwnQ wd6 w.heap.size cR1 cR2 cR3 cg1 cg2 cg3 (gLp (rqO s0) (qfX s0)) (gLp (rqO s0) (qfY s0)) (gLp (rqO s0) (qfZ s0))) := Lib.hid (Xc_4.out.turnS t (by intro c hc hh; have h1 := Xgbd.out.bd hh; have h2 := Xcbd.out.bd hc; have := Z1.out; have := Z2.out; have := Y2.out; have := Z3.out; have := Z4.out; have := Y4.out; have := Z5.out; omega))
    have WB_4 : Hid (BlkL wd6 (wd1.heap.size) [.slice cR1 (gLp (rqO s0) (qfX s0)).length cc1, .slice cR2 (gLp (rqO s0) (qfY s0)).length cc2, .slice cR3 (gLp (rqO s0) (qfZ s0)).length cc3]) := Lib.hid (WB_3.out.turnS t (by intro hh; have h1 := Xgbd.out.bd hh; have := Z1.out; have := Z2.out; have := Y2.out; have := Z3.out; have := Z4.out; have := Y4.out; have := Z5.out; omega))
    have GB_2 : Hid (BlkL wd6 (wd3.heap.size) [.slice gR1 (gLp (rqO s0) (qfX s0)).length gc1, .slice gR2 (gLp (rqO s0) (qfY s0)).length gc2, .slice gR3 (gLp (rqO s0) (qfZ s0)).length gc3]) := Lib.hid (GB_1.out.turnS t (by intro hh; have h1 := Xgbd.out.bd hh; have := Z1.out; have := Z2.out; have := Y2.out; have := Z3.out; have := Z4.out; have := Y4.out; have := Z5.out; omega))
    have XM : Hid (OwnQ wd6 wd2.heap.size gR1 gR2 gR3 gg1 gg2 gg3 (marks 1 (gLp (rqO s0) (qfX s0)).length) (marks (1 + (gLp (rqO s0) (qfX s0)).length) (gLp (rqO s0) (qfY s0)).length) (marks (1 + (gLp (rqO s0) (qfX s0)).length + (gLp (rqO s0) (qfY s0)).length) (gLp (rqO s0) (qfZ s0)).length)) := Lib.hid (om)
    clear WBx0 WBx1 WBx2 GBx0 GBx1 GBx2
    clear Xc_4 WB_3 GB_1
    clear t om
    have hm : (0 : Int) ≤ ((1 : Nat) : Int) + ((gLp (rqO s0) (qfX s0)).length : Int) + ((gLp (rqO s0) (qfY s0)).length : Int) + ((gLp (rqO s0) (qfZ s0)).length : Int) := by omega
    obtain ⟨WBx0, WBx1, WBx2⟩ := WB_4.out.three
    obtain ⟨GBx0, GBx1, GBx2⟩ := GB_2.out.three
    go_wp2_with fail
    refine (l_heldProfile _ _ _ _ _ _ _ _ _ _ 1 _ _ _ _ (XM.out) (by have := HF.out; unfold Few at this; omega) (by omega) _ rfl).mono ?_
    rintro e wd7 ⟨rfl, b⟩
    have B7 : Hid (Below w.heap.size w wd7) := Lib.hid (below_of B6.out B6.out.size b)
    have Z7 : Hid (wd6.heap.size ≤ wd7.heap.size) := Lib.hid b.size
    have Xc_6 : Hid (OwnQ wd7 w.heap.size cR1 cR2 cR3 cg1 cg2 cg3 (gLp (rqO s0) (qfX s0)) (gLp (rqO s0) (qfY s0)) (gLp (rqO s0) (qfZ s0))) := Lib.hid (Xc_5.out.below b)
    have WB_5 : Hid (BlkL wd7 (wd1.heap.size) [.slice cR1 (gLp (rqO s0) (qfX s0)).length cc1, .slice cR2 (gLp (rqO s0) (qfY s0)).length cc2, .slice cR3 (gLp (rqO s0) (qfZ s0)).length cc3]) := Lib.hid (WB_4.out.below b)
    have GB_3 : Hid (BlkL wd7 (wd3.heap.size) [.slice gR1 (gLp (rqO s0) (qfX s0)).length gc1, .slice gR2 (gLp (rqO s0) (qfY s0)).length gc2, .slice gR3 (gLp (rqO s0) (qfZ s0)).length gc3]) := Lib.hid (GB_2.out.below b)
    have XM_1 : Hid (OwnQ wd7 wd2.heap.size gR1 gR2 gR3 gg1 gg2 gg3 (marks 1 (gLp (rqO s0) (qfX s0)).length) (marks (1 + (gLp (rqO s0) (qfX s0)).length) (gLp (rqO s0) (qfY s0)).length) (marks (1 + (gLp (rqO s0) (qfX s0)).length + (gLp (rqO s0) (qfY s0)).length) (gLp (rqO s0) (qfZ s0)).length)) := Lib.hid (XM.out.below b)
    clear WBx0 WBx1 WBx2 GBx0 GBx1 GBx2
    clear Xc_5 WB_4 GB_2 XM
    clear b
    obtain ⟨WBx0, WBx1, WBx2⟩ := WB_5.out.three
    obtain ⟨GBx0, GBx1, GBx2⟩ := GB_3.out.three
    go_wp2_with fail
    refine (i_ReadProfile s0 pv _ HZ0.out (HE.out.below B7.out) (HT.out.below B7.out) (HM0.out.below B7.out) (HV.out.below B7.out)).mono ?_
    rintro e wd8 ⟨hR1, hR2, hR3, hc1, hc2, hc3, hg1, hg2, hg3, rfl, ho, b⟩
    have B8 : Hid (Below w.heap.size w wd8) := Lib.hid (below_of B7.out B7.out.size b)
    have Z8 : Hid (wd7.heap.size ≤ wd8.heap.size) := Lib.hid b.size
    have Xc_7 : Hid (OwnQ wd8 w.heap.size cR1 cR2 cR3 cg1 cg2 cg3 (gLp (rqO s0) (qfX s0)) (gLp (rqO s0) (qfY s0)) (gLp (rqO s0) (qfZ s0))) := Lib.hid (Xc_6.out.below b)
    have WB_6 : Hid (BlkL wd8 (wd1.heap.size) [.slice cR1 (gLp (rqO s0) (qfX s0)).length cc1, .slice cR2 (gLp (rqO s0) (qfY s0)).length cc2, .slice cR3 (gLp (rqO s0) (qfZ s0)).length cc3]) := Lib.hid (WB_5.out.below b)
    have GB_4 : Hid (BlkL wd8 (wd3.heap.size) [.slice gR1 (gLp (rqO s0) (qfX s0)).length gc1, .slice gR2 (gLp (rqO s0) (qfY s0)).length gc2, .slice gR3 (gLp (rqO s0) (qfZ s0)).length gc3]) := Lib.hid (GB_3.out.below b)
    have XM_2 : Hid (OwnQ wd8 wd2.heap.size gR1 gR2 gR3 gg1 gg2 gg3 (marks 1 (gLp (rqO s0) (qfX s0)).length) (marks (1 + (gLp (rqO s0) (qfX s0)).length) (gLp (rqO s0) (qfY s0)).length) (marks (1 + (gLp (rqO s0) (qfX s0)).length + (gLp (rqO s0) (qfY s0)).length) (gLp (rqO s0) (qfZ s0)).length)) := Lib.hid (XM_1.out.below b)
    clear WBx0 WBx1 WBx2 GBx0 GBx1 GBx2
    clear Xc_6 WB_5 GB_3 XM_1
    have Xh : Hid (OwnQ wd8 wd7.heap.size hR1 hR2 hR3 hg1 hg2 hg3 (gLp (rqO s0) (qfX s0)) (gLp (rqO s0) (qfY s0)) (gLp (rqO s0) (qfZ s0))) := Lib.hid (ho)
    have Xhbd := Xh
    clear ho
    clear b
    obtain ⟨wd9, hw9⟩ : ∃ x, x = wd8.alloc (.cells #[.slice hR1 (gLp (rqO s0) (qfX s0)).length hc1, .slice hR2 (gLp (rqO s0) (qfY s0)).length hc2, .slice hR3 (gLp (rqO s0) (qfZ s0)).length hc3] 39) := ⟨_, rfl⟩
    have b : Below wd8.heap.size wd8 wd9 := by rw [hw9]; exact (Below.refl _ _).alloc (Nat.le_refl _) _
    have Y9 : Hid (wd8.heap.size + 1 ≤ wd9.heap.size) := Lib.hid (by rw [hw9]; simp)
    have B9 : Hid (Below w.heap.size w wd9) := Lib.hid (below_of B8.out B8.out.size b)
    have Z9 : Hid (wd8.heap.size ≤ wd9.heap.size) := Lib.hid b.size
    have Xc_8 : Hid (OwnQ wd9 w.heap.size cR1 cR2 cR3 cg1 cg2 cg3 (gLp (rqO s0) (qfX s0)) (gLp (rqO s0) (qfY s0)) (gLp (rqO s0) (qfZ s0))) := Lib.hid (Xc_7.out.below b)
    have WB_7 : Hid (BlkL wd9 (wd1.heap.size) [.slice cR1 (gLp (rqO s0) (qfX s0)).length cc1, .slice cR2 (gLp (rqO s0) (qfY s0)).length cc2, .slice cR3 (gLp (rqO s0) (qfZ s0)).length cc3]) := Lib.hid (WB_6.out.below b)
    have GB_5 : Hid (BlkL wd9 (wd3.heap.size) [.slice gR1 (gLp (rqO s0) (qfX s0)).length gc1, .slice gR2 (gLp (rqO s0) (qfY s0)).length gc2, .slice gR3 (gLp (rqO s0) (qfZ s0)).length gc3]) := Lib.hid (GB_4.out.below b)
    have XM_3 : Hid (OwnQ wd9 wd2.heap.size gR1 gR2 gR3 gg1 gg2 gg3 (marks 1 (gLp (rqO s0) (qfX s0)).length) (marks (1 + (gLp (rqO s0) (qfX s0)).length) (gLp (rqO s0) (qfY s0)).length) (marks (1 + (gLp (rqO s0) (qfX s0)).length + (gLp (rqO s0) (qfY s0)).length) (gLp (rqO s0) (qfZ s0)).length)) := Lib.hid (XM_2.out.below b)
    have Xh_1 : Hid (OwnQ wd9 wd7.heap.size hR1 hR2 hR3 hg1 hg2 hg3 (gLp (rqO s0) (qfX s0)) (gLp (rqO s0) (qfY s0)) (gLp (rqO s0) (qfZ s0))) := Lib.hid (Xh.out.below b)
    have HB : Hid (BlkL wd9 (wd8.heap.size) [.slice hR1 (gLp (rqO s0) (qfX s0)).length hc1, .slice hR2 (gLp (rqO s0) (qfY s0)).length hc2, .slice hR3 (gLp (rqO s0) (qfZ s0)).length hc3]) := Lib.hid (by rw [hw9]; exact blkL_at wd8 #[.slice hR1 (gLp (rqO s0) (qfX s0)).length hc1, .slice hR2 (gLp (rqO s0) (qfY s0)).length hc2, .slice hR3 (gLp (rqO s0) (qfZ s0)).length hc3] 39 rfl)
    clear b
    have WBy0 := fun o => ((WB_6.out.alloc o).2 0 _ rfl).1
    have WBy1 := fun o => ((WB_6.out.alloc o).2 1 _ rfl).1
    have WBy2 := fun o => ((WB_6.out.alloc o).2 2 _ rfl).1
    have GBy0 := fun o => ((GB_4.out.alloc o).2 0 _ rfl).1
    have GBy1 := fun o => ((GB_4.out.alloc o).2 1 _ rfl).1
    have GBy2 := fun o => ((GB_4.out.alloc o).2 2 _ rfl).1
    go_wp2_with fail
    rw [← hw9]
    clear hw9
    clear WBy0 WBy1 WBy2 GBy0 GBy1 GBy2
    clear Xc_7 WB_6 GB_4 XM_2 Xh
    obtain ⟨WBx0, WBx1, WBx2⟩ := WB_7.out.three
    obtain ⟨GBx0, GBx1, GBx2⟩ := GB_5.out.three
    obtain ⟨HBx0, HBx1, HBx2⟩ := HB.out.three
    go_wp2_with fail
    refine (l_eqProfile _ _ _ _ _ _ _ _ _ _ _ _ (gLp (rqO s0) (qfX s0)) (gLp (rqO s0) (qfY s0)) (gLp (rqO s0) (qfZ s0)) _ Xh_1.out.pf Xc_8.out.pf HF.out).mono ?_
    rintro e wd10 ⟨rfl, b⟩
    have B10 : Hid (Below w.heap.size w wd10) := Lib.hid (below_of B9.out B9.out.size b)
    have Z10 : Hid (wd9.heap.size ≤ wd10.heap.size) := Lib.hid b.size
    have Xc_9 : Hid (OwnQ wd10 w.heap.size cR1 cR2 cR3 cg1 cg2 cg3 (gLp (rqO s0) (qfX s0)) (gLp (rqO s0) (qfY s0)) (gLp (rqO s0) (qfZ s0))) := Lib.hid (Xc_8.out.below b)
    have WB_8 : Hid (BlkL wd10 (wd1.heap.size) [.slice cR1 (gLp (rqO s0) (qfX s0)).length cc1, .slice cR2 (gLp (rqO s0) (qfY s0)).length cc2, .slice cR3 (gLp (rqO s0) (qfZ s0)).length cc3]) := Lib.hid (WB_7.out.below b)
    have GB_6 : Hid (BlkL wd10 (wd3.heap.size) [.slice gR1 (gLp (rqO s0) (qfX s0)).length gc1, .slice gR2 (gLp (rqO s0) (qfY s0)).length gc2, .slice gR3 (gLp (rqO s0) (qfZ s0)).length gc3]) := Lib.hid (GB_5.out.below b)
    have XM_4 : Hid (OwnQ wd10 wd2.heap.size gR1 gR2 gR3 gg1 gg2 gg3 (marks 1 (gLp (rqO s0) (qfX s0)).length) (marks (1 + (gLp (rqO s0) (qfX s0)).length) (gLp (rqO s0) (qfY s0)).length) (marks (1 + (gLp (rqO s0) (qfX s0)).length + (gLp (rqO s0) (qfY s0)).length) (gLp (rqO s0) (qfZ s0)).length)) := Lib.hid (XM_3.out.below b)
    have Xh_2 : Hid (OwnQ wd10 wd7.heap.size hR1 hR2 hR3 hg1 hg2 hg3 (gLp (rqO s0) (qfX s0)) (gLp (rqO s0) (qfY s0)) (gLp (rqO s0) (qfZ s0))) := Lib.hid (Xh_1.out.below b)
    have HB_1 : Hid (BlkL wd10 (wd8.heap.size) [.slice hR1 (gLp (rqO s0) (qfX s0)).length hc1, .slice hR2 (gLp (rqO s0) (qfY s0)).length hc2, .slice hR3 (gLp (rqO s0) (qfZ s0)).length hc3]) := Lib.hid (HB.out.below b)
    clear WBx0 WBx1 WBx2 GBx0 GBx1 GBx2 HBx0 HBx1 HBx2
    clear Xc_8 WB_7 GB_5 XM_3 Xh_1 HB
    clear b
    obtain ⟨WBx0, WBx1, WBx2⟩ := WB_8.out.three
    obtain ⟨GBx0, GBx1, GBx2⟩ := GB_6.out.three
    obtain ⟨HBx0, HBx1, HBx2⟩ := HB_1.out.three
    go_wp2_with fail
    refine (l_heldProfile _ _ _ _ _ _ _ _ _ _ 1 _ _ _ _ (XM_4.out) (by have := HF.out; unfold Few at this; omega) (by omega) _ rfl).mono ?_
    rintro e wd11 ⟨rfl, b⟩
    have B11 : Hid (Below w.heap.size w wd11) := Lib.hid (below_of B10.out B10.out.size b)
    have Z11 : Hid (wd10.heap.size ≤ wd11.heap.size) := Lib.hid b.size
    have Xc_10 : Hid (OwnQ wd11 w.heap.size cR1 cR2 cR3 cg1 cg2 cg3 (gLp (rqO s0) (qfX s0)) (gLp (rqO s0) (qfY s0)) (gLp (rqO s0) (qfZ s0))) := Lib.hid (Xc_9.out.below b)
    have WB_9 : Hid (BlkL wd11 (wd1.heap.size) [.slice cR1 (gLp (rqO s0) (qfX s0)).length cc1, .slice cR2 (gLp (rqO s0) (qfY s0)).length cc2, .slice cR3 (gLp (rqO s0) (qfZ s0)).length cc3]) := Lib.hid (WB_8.out.below b)
    have GB_7 : Hid (BlkL wd11 (wd3.heap.size) [.slice gR1 (gLp (rqO s0) (qfX s0)).length gc1, .slice gR2 (gLp (rqO s0) (qfY s0)).length gc2, .slice gR3 (gLp (rqO s0) (qfZ s0)).length gc3]) := Lib.hid (GB_6.out.below b)
    have XM_5 : Hid (OwnQ wd11 wd2.heap.size gR1 gR2 gR3 gg1 gg2 gg3 (marks 1 (gLp (rqO s0) (qfX s0)).length) (marks (1 + (gLp (rqO s0) (qfX s0)).length) (gLp (rqO s0) (qfY s0)).length) (marks (1 + (gLp (rqO s0) (qfX s0)).length + (gLp (rqO s0) (qfY s0)).length) (gLp (rqO s0) (qfZ s0)).length)) := Lib.hid (XM_4.out.below b)
    have Xh_3 : Hid (OwnQ wd11 wd7.heap.size hR1 hR2 hR3 hg1 hg2 hg3 (gLp (rqO s0) (qfX s0)) (gLp (rqO s0) (qfY s0)) (gLp (rqO s0) (qfZ s0))) := Lib.hid (Xh_2.out.below b)
    have HB_2 : Hid (BlkL wd11 (wd8.heap.size) [.slice hR1 (gLp (rqO s0) (qfX s0)).length hc1, .slice hR2 (gLp (rqO s0) (qfY s0)).length hc2, .slice hR3 (gLp (rqO s0) (qfZ s0)).length hc3]) := Lib.hid (HB_1.out.below b)
    clear WBx0 WBx1 WBx2 GBx0 GBx1 GBx2 HBx0 HBx1 HBx2
    clear Xc_9 WB_8 GB_6 XM_4 Xh_2 HB_1
    clear b
    obtain ⟨WBx0, WBx1, WBx2⟩ := WB_9.out.three
    obtain ⟨GBx0, GBx1, GBx2⟩ := GB_7.out.three
    obtain ⟨HBx0, HBx1, HBx2⟩ := HB_2.out.three
    go_wp2
    go_ret
    exact ⟨rfl, B11.out⟩
  · have hbi0 : (1048576 : Int) < (s0.size : Int) := by omega
    go_enter Tryz.func5, Tryz.ntmps5
    go_wp2
    go_ret
    exact ⟨rfl, Below.refl _ _⟩
end Go.Proofs.YtknabmknboffgaaGreatDoor
