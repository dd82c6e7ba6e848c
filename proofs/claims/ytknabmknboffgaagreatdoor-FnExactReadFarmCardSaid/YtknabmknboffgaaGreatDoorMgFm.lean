/- A farm out of a text, put together No statement is proved here. -/
import Derived.Test.YtknabmknboffgaaGreatDoorApG
import Derived.Test.YtknabmknboffgaaGreatDoorMgFr
import Derived.Test.YtknabmknboffgaaGreatDoorPcs
import Derived.Test.YtknabmknboffgaaGreatDoorPrt
import Derived.Test.YtknabmknboffgaaGreatDoorStC
import Derived.Test.YtknabmknboffgaaGreatDoorInv7
import Derived.Test.YtknabmknboffgaaGreatDoorRdB
import Derived.Test.YtknabmknboffgaaGreatDoorNumS
import Derived.Test.YtknabmknboffgaaGreatDoorCutS
import Derived.Test.YtknabmknboffgaaGreatDoorInv4
import Derived.Test.YtknabmknboffgaaGreatDoorMarkR
namespace Go.Proofs.YtknabmknboffgaaGreatDoor
open Go Go.RowKit
def fmX (s : ByteArray) : List Nat := nmL (pcs 59 s 0)
def fmY (s : ByteArray) : List Nat := nmL (pcs 59 s 1)
def fmN (s : ByteArray) (k : Nat) : Nat := (nmL (pcs 59 s 2)).getD k 0
def fmO (s : ByteArray) : Bool := decide ((cutS 59 s).length = 3) && (nmO (pcs 59 s 0) && (nmO (pcs 59 s 1) && nmN (pcs 59 s 2) 3))
theorem fmO_iff {s : ByteArray} : fmO s = true ↔ ((cutS 59 s).length = 3 ∧ nmO (pcs 59 s 0) = true ∧ nmO (pcs 59 s 1) = true ∧ nmN (pcs 59 s 2) 3 = true) := by
  unfold fmO; rw [Bool.and_eq_true, Bool.and_eq_true, Bool.and_eq_true, decide_eq_true_eq]
theorem fmO_no {s : ByteArray} (h : ¬ ((cutS 59 s).length = 3 ∧ nmO (pcs 59 s 0) = true ∧ nmO (pcs 59 s 1) = true ∧ nmN (pcs 59 s 2) 3 = true)) : fmO s = false := by
  cases e : fmO s
  · rfl
  · exact absurd (fmO_iff.1 e) h
def rfO (s : ByteArray) : Bool := fmO s && frmV (fmX s) (fmY s) (fmN s 0) (fmN s 1) (fmN s 2)
theorem fm_few (s : ByteArray) : FewS (fmX s) (fmY s) := by
  have h1 := nm_256 (pcs 59 s 0)
  have h2 := nm_256 (pcs 59 s 1)
  unfold FewS fmX fmY
  omega
theorem fm_fewG (s : ByteArray) : FewS (gL (rfO s) (fmX s)) (gL (rfO s) (fmY s)) := by
  cases rfO s
  · simp [gL, FewS]
  · exact fm_few s
end Go.Proofs.YtknabmknboffgaaGreatDoor
namespace Go.Proofs.YtknabmknboffgaaGreatDoor
open Go Go.RowKit
/-- numbers in a block of their own -/
def Nb (W : World) (lo g : Nat) (l : List Nat) : Prop := lo ≤ g ∧ g < W.heap.size ∧ ∀ k, k < l.length → W.cell? ⟨g, k, none⟩ = some (.float .f32 (l.getD k 0))
theorem Nb.below {W W' : World} {lo g : Nat} {l : List Nat} (h : Nb W lo g l) (hb : Below W.heap.size W W') : Nb W' lo g l :=
  ⟨h.1, Nat.lt_of_lt_of_le h.2.1 hb.size, fun k hk => by rw [hb.cell (p := ⟨g, k, none⟩) h.2.1]; exact h.2.2 k hk⟩
theorem Nb.turn {W W' : World} {lo g RB : Nat} {l : List Nat} (h : Nb W lo g l) (ht : Turn W W' (fun b => b = RB)) (hr : RB < lo) : Nb W' lo g l :=
  ⟨h.1, Nat.lt_of_lt_of_le h.2.1 ht.1, fun k hk => by rw [ht.2.1 ⟨g, k, none⟩ h.2.1 (by show ¬ g = RB; have := h.1; omega)]; exact h.2.2 k hk⟩
theorem OwnO.nb {w : World} {B0 b : Nat} {A : Option Addr} {xs : List Nat} (h : OwnO w B0 A b xs) (hpos : 1 ≤ xs.length) : A = some ⟨b, 0, none⟩ ∧ Nb w B0 b xs := by
  rcases h with h | ⟨h1, h2, h3⟩
  · rw [h] at hpos; exact absurd hpos (by simp)
  · refine ⟨h1, h2, ?_⟩
    have hf := h3.fl
    rcases hf with hf | ⟨b', o', e, hlt, hc⟩
    · rw [hf] at hpos; exact absurd hpos (by simp)
    · simp only [Option.some.injEq, Addr.mk.injEq] at e
      obtain ⟨rfl, rfl, -⟩ := e
      exact ⟨hlt, fun k hk => by have := hc k hk; rwa [Nat.zero_add] at this⟩
theorem i_numbersIn_nb (s : ByteArray) (n : Nat) (w : World) (hs : s.size ≤ 1048576) (hE : EV w) (hT : T64 w) (hM : ML w) (h1 : 1 ≤ n) (h : nmN s n = true) :
    Calls Tryz.prog 61 #[.string s, .int .i64 n] w fun e w' => ∃ c g, e = .returned (.slice (some ⟨g, 0, none⟩) n c) ∧ Nb w' w.heap.size g (nmL s) ∧ Below w.heap.size w w' := by
  obtain ⟨ho, hl⟩ := nmN_iff.1 h
  refine (i_numbersIn_yes s n w hs hE hT hM ho hl).mono ?_
  rintro e w' ⟨R1, c1, g1, rfl, h2, hb⟩
  obtain ⟨rfl, h3⟩ := h2.nb (by omega)
  exact ⟨c1, g1, rfl, h3, hb⟩
end Go.Proofs.YtknabmknboffgaaGreatDoor
namespace Go.Proofs.YtknabmknboffgaaGreatDoor
open Go Go.RowKit
/-- what comes of a text: the thing, or what is given up with -/
def FmP (s : ByteArray) (pv : Value) (lo : Nat) (e : Ending) (w' : World) : Prop :=
  (fmO s = true ∧ ∃ (X Y : Option Addr) (cx cy gx gy : Nat), e = .returned (.agg #[.slice X (fmX s).length cx, .slice Y (fmY s).length cy, .float .f32 (fmN s 0), .float .f32 (fmN s 1), .float .f32 (fmN s 2)]) ∧ OwnR2 w' lo X Y gx gy (fmX s) (fmY s)) ∨ (fmO s = false ∧ e = .panicked (chn pv))
def FmA (lo : Nat) (fx : List Nat) (fy : List Nat) (r0 r1 r2 : Nat) (W : World) (v : Value) : Prop := ∃ (X Y : Option Addr) (cx cy gx gy : Nat), v = .agg #[.slice X fx.length cx, .slice Y fy.length cy, .float .f32 r0, .float .f32 r1, .float .f32 r2] ∧ OwnR2 W lo X Y gx gy fx fy
def FmF (RB lo : Nat) (fx : List Nat) (fy : List Nat) (r0 r1 r2 : Nat) (W : World) : Prop := ∃ (X Y : Option Addr) (cx cy gx gy : Nat), BlkL W RB [.slice X fx.length cx, .slice Y fy.length cy, .float .f32 r0, .float .f32 r1, .float .f32 r2] ∧ OwnR2 W lo X Y gx gy fx fy
theorem FmA.turn {lo RB : Nat} {fx : List Nat} {fy : List Nat} {r0 r1 r2 : Nat} {W W' : World} {v : Value} (h : FmA lo fx fy r0 r1 r2 W v) (ht : Turn W W' (fun b => b = RB)) (hb : RB < lo) : FmA lo fx fy r0 r1 r2 W' v := by
  obtain ⟨X, Y, cx, cy, gx, gy, rfl, h⟩ := h
  exact ⟨X, Y, cx, cy, gx, gy, rfl, h.turnV ht hb⟩
theorem FmF.below (RB lo : Nat) (fx : List Nat) (fy : List Nat) (r0 r1 r2 : Nat) : ∀ wa wb : World, Below wa.heap.size wa wb → FmF RB lo fx fy r0 r1 r2 wa → FmF RB lo fx fy r0 r1 r2 wb := by
  rintro wa wb hb ⟨X, Y, cx, cy, gx, gy, h1, h2⟩
  exact ⟨X, Y, cx, cy, gx, gy, h1.below hb, h2.belowV hb⟩
set_option maxHeartbeats 8000000 in
set_option maxRecDepth 100000 in
theorem i_farmIn_len (s : ByteArray) (pv : Value) (w : World) (hs : s.size ≤ 1048576) (hM : ML w) (hV : EMv pv w) (h : (cutS 59 s).length ≠ 3) :
    Calls Tryz.prog 34 #[.string s] w fun e w' => FmP s pv w.heap.size e w' ∧ Below w.heap.size w w' := by
  obtain ⟨w0, hw0⟩ : ∃ z, z = w.alloc (.cells #[.slice none 0 0, .slice none 0 0, .float .f32 0, .float .f32 0, .float .f32 0] 33) := ⟨_, rfl⟩
  have b0 : Below w.heap.size w w0 := by rw [hw0]; exact (Below.refl _ _).alloc (Nat.le_refl _) _
  have HZ0 : Hid (w0.heap.size = w.heap.size + 1) := Lib.hid (by rw [hw0]; simp)
  have K0 : Hid (BlkL w0 w.heap.size [.slice none 0 0, .slice none 0 0, .float .f32 0, .float .f32 0, .float .f32 0]) := Lib.hid (by rw [hw0]; exact blkL_at w #[.slice none 0 0, .slice none 0 0, .float .f32 0, .float .f32 0, .float .f32 0] _ rfl)
  have B0 := Lib.hid b0
  have HCP := Lib.hid (i_partsIn_no 59 3 s pv w0 hs (hM.below b0) (hV.below b0) (by decide) (by decide) h)
  have HG : Hid (∀ w', FmP s pv w.heap.size (.panicked (chn pv)) w') := Lib.hid (fun _ => .inr ⟨fmO_no (fun e => h e.1), rfl⟩)
  clear hs hM hV h b0 HZ0 K0
  go_enter Tryz.func34, Tryz.ntmps34
  go_upto_region 1 with fail
  rw [← hw0]
  clear hw0
  go_wp2_with fail
  refine HCP.out.mono ?_
  rintro e w1 ⟨rfl, b1⟩
  go_wp2
  exact ⟨rfl, HG.out _, below_of B0.out B0.out.size b1⟩
set_option maxHeartbeats 8000000 in
set_option maxRecDepth 100000 in
theorem i_farmIn_num (s : ByteArray) (pv : Value) (w : World) (hs : s.size ≤ 1048576) (hE : EV w) (hT : T64 w) (hM : ML w) (hV : EMv pv w) (hl : (cutS 59 s).length = 3) (hn : nmN (pcs 59 s 2) 3 = false) :
    Calls Tryz.prog 34 #[.string s] w fun e w' => FmP s pv w.heap.size e w' ∧ Below w.heap.size w w' := by
  obtain ⟨w0, hw0⟩ : ∃ z, z = w.alloc (.cells #[.slice none 0 0, .slice none 0 0, .float .f32 0, .float .f32 0, .float .f32 0] 33) := ⟨_, rfl⟩
  have b0 : Below w.heap.size w w0 := by rw [hw0]; exact (Below.refl _ _).alloc (Nat.le_refl _) _
  have HZ0 : Hid (w0.heap.size = w.heap.size + 1) := Lib.hid (by rw [hw0]; simp)
  have K0 : Hid (BlkL w0 w.heap.size [.slice none 0 0, .slice none 0 0, .float .f32 0, .float .f32 0, .float .f32 0]) := Lib.hid (by rw [hw0]; exact blkL_at w #[.slice none 0 0, .slice none 0 0, .float .f32 0, .float .f32 0, .float .f32 0] _ rfl)
  have B0 := Lib.hid b0
  have HCP := Lib.hid (i_partsIn_yes 59 3 s w0 hs (hM.below b0) (by decide) (by decide) hl)
  have HPS : Hid ((cutS 59 s)[0]? = some (pcs 59 s 0) ∧ (cutS 59 s)[1]? = some (pcs 59 s 1) ∧ (cutS 59 s)[2]? = some (pcs 59 s 2)) := Lib.hid ⟨pcs_at hl (by decide), pcs_at hl (by decide), pcs_at hl (by decide)⟩
  have HV : Hid (∀ W, Below w.heap.size w W → EMv pv W) := Lib.hid (fun W hb => hV.below hb)
  have HCN : Hid (∀ W, Below w.heap.size w W → Calls Tryz.prog 61 #[.string (pcs 59 s 2), .int .i64 3] W fun e w' => e = .panicked (chn pv) ∧ Below W.heap.size W w') := Lib.hid (fun W hb => i_numbersIn_no (pcs 59 s 2) 3 pv W (Nat.le_trans (pcs_size _ _ _) hs) (hE.below hb) (hT.below hb) (hM.below hb) (hV.below hb) (nmN_no hn))
  have HG : Hid (∀ w', FmP s pv w.heap.size (.panicked (chn pv)) w') := Lib.hid (fun _ => .inr ⟨fmO_no (fun e => by rw [e.2.2.2] at hn; cases hn), rfl⟩)
  clear hs hE hT hM hV hl hn b0 HV
  generalize pcs 59 s 0 = a0 at *
  generalize pcs 59 s 1 = a1 at *
  generalize pcs 59 s 2 = a2 at *
  go_enter Tryz.func34, Tryz.ntmps34
  go_upto_region 1 with fail
  rw [← hw0]
  clear hw0
  go_wp2_with fail
  refine HCP.out.mono ?_
  rintro e w1 ⟨N, rfl, hc, hlt, b1⟩
  have HB1 := Lib.hid (below_of B0.out B0.out.size b1)
  have HS1 := Lib.hid b1.size
  have K1 := Lib.hid (K0.out.below b1)
  obtain ⟨q, hq⟩ : ∃ q, q = w0.heap.size := ⟨_, rfl⟩
  rw [← hq] at hc hlt ⊢
  have HQ := Lib.hid hq
  have HP1 : Hid (∀ W, Below w1.heap.size w1 W → W.cell? ⟨q, 0, none⟩ = some (.string a0) ∧ W.cell? ⟨q, 1, none⟩ = some (.string a1) ∧ W.cell? ⟨q, 2, none⟩ = some (.string a2)) := Lib.hid (fun W hb => ⟨(hb.cell (p := ⟨q, 0, none⟩) hlt).trans (hc 0 _ HPS.out.1), (hb.cell (p := ⟨q, 1, none⟩) hlt).trans (hc 1 _ HPS.out.2.1), (hb.cell (p := ⟨q, 2, none⟩) hlt).trans (hc 2 _ HPS.out.2.2)⟩)
  have HQL := Lib.hid hlt
  clear hc hlt b1 HCP HPS B0 K0 hq
  obtain ⟨m0, m1, m2⟩ := HP1.out _ (Below.refl _ _)
  go_wp2_with fail
  refine (HCN.out _ HB1.out).mono ?_
  rintro e w2 ⟨rfl, b2⟩
  go_wp2
  exact ⟨rfl, HG.out _, below_of HB1.out HB1.out.size b2⟩
set_option maxHeartbeats 8000000 in
set_option maxRecDepth 100000 in
theorem i_farmIn_main (s : ByteArray) (pv : Value) (w : World) (hs : s.size ≤ 1048576) (hE : EV w) (hT : T64 w) (hM : ML w) (hV : EMv pv w) (hl : (cutS 59 s).length = 3) (hn : nmN (pcs 59 s 2) 3 = true) :
    Calls Tryz.prog 34 #[.string s] w fun e w' => FmP s pv w.heap.size e w' ∧ Below w.heap.size w w' := by
  obtain ⟨w0, hw0⟩ : ∃ z, z = w.alloc (.cells #[.slice none 0 0, .slice none 0 0, .float .f32 0, .float .f32 0, .float .f32 0] 33) := ⟨_, rfl⟩
  have b0 : Below w.heap.size w w0 := by rw [hw0]; exact (Below.refl _ _).alloc (Nat.le_refl _) _
  have HZ0 : Hid (w0.heap.size = w.heap.size + 1) := Lib.hid (by rw [hw0]; simp)
  have K0 : Hid (BlkL w0 w.heap.size [.slice none 0 0, .slice none 0 0, .float .f32 0, .float .f32 0, .float .f32 0]) := Lib.hid (by rw [hw0]; exact blkL_at w #[.slice none 0 0, .slice none 0 0, .float .f32 0, .float .f32 0, .float .f32 0] _ rfl)
  have B0 := Lib.hid b0
  have HCP := Lib.hid (i_partsIn_yes 59 3 s w0 hs (hM.below b0) (by decide) (by decide) hl)
  have HPS : Hid ((cutS 59 s)[0]? = some (pcs 59 s 0) ∧ (cutS 59 s)[1]? = some (pcs 59 s 1) ∧ (cutS 59 s)[2]? = some (pcs 59 s 2)) := Lib.hid ⟨pcs_at hl (by decide), pcs_at hl (by decide), pcs_at hl (by decide)⟩
  have HV : Hid (∀ W, Below w.heap.size w W → EMv pv W) := Lib.hid (fun W hb => hV.below hb)
  have HC0 : Hid (∀ W, Below w.heap.size w W → Calls Tryz.prog 70 #[.string (pcs 59 s 0)] W fun e w' => ∃ R1 c1 g1, e = .returned (.tuple #[.slice R1 (nmL (pcs 59 s 0)).length c1, .bool (nmO (pcs 59 s 0))]) ∧ OwnO w' W.heap.size R1 g1 (nmL (pcs 59 s 0)) ∧ Below W.heap.size W w') := Lib.hid (fun W hb => i_ReadNumbers (pcs 59 s 0) W (Nat.le_trans (pcs_size _ _ _) hs) (hE.below hb) (hT.below hb) (hM.below hb))
  have HC1 : Hid (∀ W, Below w.heap.size w W → Calls Tryz.prog 70 #[.string (pcs 59 s 1)] W fun e w' => ∃ R1 c1 g1, e = .returned (.tuple #[.slice R1 (nmL (pcs 59 s 1)).length c1, .bool (nmO (pcs 59 s 1))]) ∧ OwnO w' W.heap.size R1 g1 (nmL (pcs 59 s 1)) ∧ Below W.heap.size W w') := Lib.hid (fun W hb => i_ReadNumbers (pcs 59 s 1) W (Nat.le_trans (pcs_size _ _ _) hs) (hE.below hb) (hT.below hb) (hM.below hb))
  have HCN : Hid (∀ W, Below w.heap.size w W → Calls Tryz.prog 61 #[.string (pcs 59 s 2), .int .i64 3] W fun e w' => ∃ c g, e = .returned (.slice (some ⟨g, 0, none⟩) 3 c) ∧ Nb w' W.heap.size g (nmL (pcs 59 s 2)) ∧ Below W.heap.size W w') := Lib.hid (fun W hb => i_numbersIn_nb (pcs 59 s 2) 3 W (Nat.le_trans (pcs_size _ _ _) hs) (hE.below hb) (hT.below hb) (hM.below hb) (by decide) hn)
  have HLN : Hid ((nmL (pcs 59 s 2)).length = 3) := Lib.hid (nmN_iff.1 hn).2
  have HF : Hid (∀ w' (X Y : Option Addr) (cx cy gx gy : Nat), nmO (pcs 59 s 0) = true → nmO (pcs 59 s 1) = true → OwnR2 w' w.heap.size X Y gx gy (fmX s) (fmY s) → FmP s pv w.heap.size (.returned (.agg #[.slice X (fmX s).length cx, .slice Y (fmY s).length cy, .float .f32 (fmN s 0), .float .f32 (fmN s 1), .float .f32 (fmN s 2)])) w') := Lib.hid (fun w' X Y cx cy gx gy h0 h1 ho => .inl ⟨fmO_iff.2 ⟨hl, h0, h1, hn⟩, X, Y, cx, cy, gx, gy, rfl, ho⟩)
  have HG : Hid (∀ w', (nmO (pcs 59 s 0) = false ∨ nmO (pcs 59 s 1) = false) → FmP s pv w.heap.size (.panicked (chn pv)) w') := Lib.hid (fun w' h => .inr ⟨fmO_no (fun e => by rcases h with h | h <;> simp [h] at e), rfl⟩)
  clear hs hE hT hM hV hl hn b0
  unfold fmX fmY fmN at HF
  generalize pcs 59 s 0 = a0 at *
  generalize pcs 59 s 1 = a1 at *
  generalize pcs 59 s 2 = a2 at *
  generalize nmO a0 = b0 at *
  generalize nmL a0 = fx at *
  generalize nmO a1 = b1 at *
  generalize nmL a1 = fy at *
  obtain ⟨r0, hr0⟩ : ∃ x, x = (nmL a2).getD 0 0 := ⟨_, rfl⟩
  obtain ⟨r1, hr1⟩ : ∃ x, x = (nmL a2).getD 1 0 := ⟨_, rfl⟩
  obtain ⟨r2, hr2⟩ : ∃ x, x = (nmL a2).getD 2 0 := ⟨_, rfl⟩
  rw [← hr0, ← hr1, ← hr2] at HF
  have HXS : Hid (r0 = (nmL a2).getD 0 0 ∧ r1 = (nmL a2).getD 1 0 ∧ r2 = (nmL a2).getD 2 0) := Lib.hid ⟨hr0, hr1, hr2⟩
  clear hr0 hr1 hr2
  go_enter Tryz.func34, Tryz.ntmps34
  go_upto_region 1 with fail
  rw [← hw0]
  clear hw0
  go_wp2_with fail
  refine HCP.out.mono ?_
  rintro e w1 ⟨N, rfl, hc, hlt, b1⟩
  have HB1 := Lib.hid (below_of B0.out B0.out.size b1)
  have HS1 := Lib.hid b1.size
  have K1 := Lib.hid (K0.out.below b1)
  obtain ⟨q, hq⟩ : ∃ q, q = w0.heap.size := ⟨_, rfl⟩
  rw [← hq] at hc hlt ⊢
  have HQ := Lib.hid hq
  have HP1 : Hid (∀ W, Below w1.heap.size w1 W → W.cell? ⟨q, 0, none⟩ = some (.string a0) ∧ W.cell? ⟨q, 1, none⟩ = some (.string a1) ∧ W.cell? ⟨q, 2, none⟩ = some (.string a2)) := Lib.hid (fun W hb => ⟨(hb.cell (p := ⟨q, 0, none⟩) hlt).trans (hc 0 _ HPS.out.1), (hb.cell (p := ⟨q, 1, none⟩) hlt).trans (hc 1 _ HPS.out.2.1), (hb.cell (p := ⟨q, 2, none⟩) hlt).trans (hc 2 _ HPS.out.2.2)⟩)
  have HQL := Lib.hid hlt
  clear hc hlt b1 HCP HPS B0 K0 hq
  obtain ⟨m0, m1, m2⟩ := HP1.out _ (Below.refl _ _)
  go_wp2_with fail
  refine (HCN.out _ HB1.out).mono ?_
  rintro e w2 ⟨c4, g4, rfl, ho4, b2⟩
  have HB2 := Lib.hid (below_of HB1.out HB1.out.size b2)
  have HS2 : Hid (w0.heap.size ≤ w2.heap.size) := Lib.hid (Nat.le_trans HS1.out b2.size)
  have K2 : Hid (BlkL w2 w.heap.size [.slice none 0 0, .slice none 0 0, .float .f32 0, .float .f32 0, .float .f32 0]) := Lib.hid (K1.out.below b2)
  have HN4 : Hid (Nb w2 w0.heap.size g4 (nmL a2)) := Lib.hid ⟨Nat.le_trans HS1.out ho4.1, ho4.2⟩
  have HP2 : Hid (w2.cell? ⟨q, 0, none⟩ = some (.string a0) ∧ w2.cell? ⟨q, 1, none⟩ = some (.string a1) ∧ w2.cell? ⟨q, 2, none⟩ = some (.string a2)) := Lib.hid (HP1.out _ b2)
  have HQ2 : Hid (q < w2.heap.size) := Lib.hid (Nat.lt_of_lt_of_le HQL.out b2.size)
  clear ho4 b2 m0 m1 m2 HB1 HS1 K1 HP1 HQL HCN
  have HPC : Hid (∀ W, Turn w2 W (fun b => b = w.heap.size) → W.cell? ⟨q, 0, none⟩ = some (.string a0) ∧ W.cell? ⟨q, 1, none⟩ = some (.string a1) ∧ W.cell? ⟨g4, 0, none⟩ = some (.float .f32 r0) ∧ W.cell? ⟨g4, 1, none⟩ = some (.float .f32 r1) ∧ W.cell? ⟨g4, 2, none⟩ = some (.float .f32 r2)) := Lib.hid (fun W ht => by
    have h3 := HN4.out.turn ht (by have := HZ0.out; omega)
    exact ⟨by rw [ht.2.1 ⟨q, 0, none⟩ HQ2.out (by show ¬ q = w.heap.size; have := HZ0.out; have := HQ.out; omega)]; exact HP2.out.1, by rw [ht.2.1 ⟨q, 1, none⟩ HQ2.out (by show ¬ q = w.heap.size; have := HZ0.out; have := HQ.out; omega)]; exact HP2.out.2.1, by rw [HXS.out.1]; exact h3.2.2 0 (by rw [HLN.out]; decide), by rw [HXS.out.2.1]; exact h3.2.2 1 (by rw [HLN.out]; decide), by rw [HXS.out.2.2]; exact h3.2.2 2 (by rw [HLN.out]; decide)⟩)
  clear HP2 HQ2 HQ HN4 HXS HLN
  go_wp2_with fail
  have hFin := FmF.below w.heap.size w0.heap.size fx fy r0 r1 r2
  refine wp_region_inv7 (fun iq wv v => match iq with
    | 0 => v = .slice (some ⟨q, 0, none⟩) 3 N
    | 1 => v = .pointer (some ⟨q, 0, none⟩)
    | 2 => v = .string a0
    | 3 => NT w0.heap.size fx b0 wv v
    | 4 => NS w0.heap.size fx wv v
    | 5 => v = .bool b0
    | 6 => (b0 = true ∧ NS w0.heap.size fx wv v)
    | 7 => v = .slice (some ⟨q, 0, none⟩) 3 N
    | 8 => v = .pointer (some ⟨q, 1, none⟩)
    | 9 => v = .string a1
    | 10 => NT w0.heap.size fy b1 wv v
    | 11 => NS w0.heap.size fy wv v
    | 12 => v = .bool b1
    | 13 => (b1 = true ∧ NS w0.heap.size fy wv v)
    | 14 => v = .slice (some ⟨g4, 0, none⟩) 3 c4
    | 15 => v = .pointer (some ⟨g4, 0, none⟩)
    | 16 => v = .float .f32 r0
    | 17 => v = .slice (some ⟨g4, 0, none⟩) 3 c4
    | 18 => v = .pointer (some ⟨g4, 1, none⟩)
    | 19 => v = .float .f32 r1
    | 20 => v = .slice (some ⟨g4, 0, none⟩) 3 c4
    | 21 => v = .pointer (some ⟨g4, 2, none⟩)
    | 22 => v = .float .f32 r2
    | 23 => FmA w0.heap.size fx fy r0 r1 r2 wv v
    | 24 => True
    | _ => False) (fun listed aa ww => StC w2 w.heap.size 5 24 (FmF w.heap.size w0.heap.size fx fy r0 r1 r2) listed ww ∧ ApG [(14, 0), (15, 0), (17, 0), (21, 1), (22, 1), (24, 1)] aa ww) (fun wa wb => Turn wa wb (fun b => b = w.heap.size)) ?hmono (by kernel_rfl) (by kernel_rfl) ⟨StC.start K2.out rfl, ApG.start (by rfl)⟩ ?hop ?hend
  case hmono =>
    intro i wa wb v hR hV
    rcases i with _ | _ | _ | _ | _ | _ | _ | _ | _ | _ | _ | _ | _ | _ | _ | _ | _ | _ | _ | _ | _ | _ | _ | _ | _ | i
    · exact hV
    · exact hV
    · exact hV
    · exact hV.turn hR (by have := HZ0.out; omega)
    · exact hV.turn hR (by have := HZ0.out; omega)
    · exact hV
    · exact ⟨hV.1, hV.2.turn hR (by have := HZ0.out; omega)⟩
    · exact hV
    · exact hV
    · exact hV
    · exact hV.turn hR (by have := HZ0.out; omega)
    · exact hV.turn hR (by have := HZ0.out; omega)
    · exact hV
    · exact ⟨hV.1, hV.2.turn hR (by have := HZ0.out; omega)⟩
    · exact hV
    · exact hV
    · exact hV
    · exact hV
    · exact hV
    · exact hV
    · exact hV
    · exact hV
    · exact hV
    · exact hV.turn hR (by have := HZ0.out; omega)
    · exact hV
    · exact hV
  case hop =>
    intro q o hq listed act w3 hI hCA hnot hcl hall
    obtain ⟨hC, hA⟩ := hCA
    have hlen : listed.size = 25 := hI.len
    have hdf := hI.defers
    have hbw := hC.1.2.2.2 w HB2.out (fun b hb => by have hb : b = w.heap.size := hb; omega)
    have hlo : w0.heap.size ≤ w3.heap.size := Nat.le_trans HS2.out hC.1.1
    obtain ⟨m0, m1, n0, n1, n2⟩ := HPC.out _ hC.1
    rcases q with _ | _ | _ | _ | _ | _ | _ | _ | _ | _ | _ | _ | _ | _ | _ | _ | _ | _ | _ | _ | _ | _ | _ | _ | _ | q
    · simp at hq; subst hq
      have g3 : act.tmps[3]?.getD undef = .slice (some ⟨q, 0, none⟩) 3 N := hI.kept 3 (by kernel_rfl)
      have hA2 := fun v => ApG.other (k := 11) hA (by decide) v
      clear hI hall hnot hcl
      refine .inl ⟨wanted_none rfl, ?_⟩
      unfold Oper.wp
      go_simp
      all_goals exact ⟨_, rfl, Turn.refl _ _, rfl, StC.step (k := 0) hC (Below.refl _ _) hFin (by decide) (by rw [hlen]; decide), hA2 _⟩
    · simp at hq; subst hq
      have g11 : act.tmps[11]?.getD undef = .slice (some ⟨q, 0, none⟩) 3 N := hI.has 0 11 rfl (hall ⟨0, .data⟩ (by simp) rfl)
      have hA2 := fun v => ApG.other (k := 12) hA (by decide) v
      clear hI hall hnot hcl
      refine .inl ⟨wanted_none rfl, ?_⟩
      unfold Oper.wp
      go_simp
      all_goals exact ⟨_, rfl, Turn.refl _ _, rfl, StC.step (k := 1) hC (Below.refl _ _) hFin (by decide) (by rw [hlen]; decide), hA2 _⟩
    · simp at hq; subst hq
      have g12 : act.tmps[12]?.getD undef = .pointer (some ⟨q, 0, none⟩) := hI.has 1 12 rfl (hall ⟨1, .data⟩ (by simp) rfl)
      have hA2 := fun v => ApG.other (k := 13) hA (by decide) v
      clear hI hall hnot hcl
      refine .inl ⟨wanted_none rfl, ?_⟩
      unfold Oper.wp
      go_simp
      all_goals exact ⟨_, rfl, Turn.refl _ _, rfl, StC.step (k := 2) hC (Below.refl _ _) hFin (by decide) (by rw [hlen]; decide), hA2 _⟩
    · simp at hq; subst hq
      have g13 : act.tmps[13]?.getD undef = .string a0 := hI.has 2 13 rfl (hall ⟨2, .data⟩ (by simp) rfl)
      clear hI hall hnot hcl
      refine .inl ⟨wanted_none rfl, ?_⟩
      unfold Oper.wp
      go_simp
      refine (HC0.out _ hbw).mono ?_
      rintro e w4 ⟨A1, c1, g1, rfl, ho, b4⟩
      exact ⟨_, rfl, Turn.of_below b4 _, ⟨A1, c1, g1, rfl, ho.baseV hlo⟩, StC.step (k := 3) hC b4 hFin (by decide) (by rw [hlen]; decide), ApG.fresh (k := 14) hA (by decide) b4.size (fun g hg => ho.blk hg)⟩
    · simp at hq; subst hq
      have G14 := hI.has 3 14 rfl (hall ⟨3, .data⟩ (by simp) rfl)
      clear hI hall hnot hcl
      refine .inl ⟨wanted_none rfl, ?_⟩
      unfold Oper.wp
      go_simp
      obtain ⟨A1, c1, g1, eg, ho⟩ := G14
      rw [eg]
      go_simp
      exact ⟨_, rfl, Turn.refl _ _, ⟨A1, c1, g1, rfl, ho⟩, StC.step (k := 4) hC (Below.refl _ _) hFin (by decide) (by rw [hlen]; decide), ApG.copy (k := 15) (i := 14) (grp := 0) hA (by decide) (by decide) (by decide) (fun g hg => by rw [Array.getD_eq_getD_getElem?, eg]; exact hg)⟩
    · simp at hq; subst hq
      have G14 := hI.has 3 14 rfl (hall ⟨3, .data⟩ (by simp) rfl)
      have hA2 := fun v => ApG.other (k := 16) hA (by decide) v
      clear hI hall hnot hcl
      refine .inl ⟨wanted_none rfl, ?_⟩
      unfold Oper.wp
      go_simp
      obtain ⟨A1, c1, g1, eg, ho⟩ := G14
      rw [eg]
      go_simp
      exact ⟨_, rfl, Turn.refl _ _, rfl, StC.step (k := 5) hC (Below.refl _ _) hFin (by decide) (by rw [hlen]; decide), hA2 _⟩
    · simp at hq; subst hq
      have G15 := hI.has 4 15 rfl (hall ⟨4, .data⟩ (by simp) rfl)
      have g16 : act.tmps[16]?.getD undef = .bool b0 := hI.has 5 16 rfl (hall ⟨5, .data⟩ (by simp) rfl)
      clear hI hall hnot hcl
      refine .inl ⟨wanted_none rfl, ?_⟩
      unfold Oper.wp
      go_simp
      obtain ⟨A1, c1, g1, eg, ho⟩ := G15
      rw [eg]
      go_simp
      rcases Bool.eq_false_or_eq_true b0 with hb | hb
      · rw [hb]
        refine (i_must_yes A1 _ c1 _).mono ?_
        rintro e w4 ⟨rfl, hw⟩
        obtain rfl := hw.symm
        exact ⟨_, rfl, Turn.refl _ _, ⟨by first | rfl | exact hb, A1, c1, g1, rfl, ho⟩, StC.step (k := 6) hC (Below.refl _ _) hFin (by decide) (by rw [hlen]; decide), ApG.copy (k := 17) (i := 15) (grp := 0) hA (by decide) (by decide) (by decide) (fun g hg => by rw [Array.getD_eq_getD_getElem?, eg]; exact hg)⟩
      · rw [hb]
        refine (i_must_no A1 _ c1 pv _ (HV.out _ hbw)).mono ?_
        rintro e w4 ⟨rfl, hw⟩
        obtain rfl := hw.symm
        have hpan : bodyPost Tryz.prog Tryz.f34 (fun e w' => FmP s pv w.heap.size e w' ∧ Below w.heap.size w w') (.panic (chn pv)) act _ := ⟨hdf, HG.out _ (.inl hb), hbw⟩
        exact hpan
    · simp at hq; subst hq
      have g3 : act.tmps[3]?.getD undef = .slice (some ⟨q, 0, none⟩) 3 N := hI.kept 3 (by kernel_rfl)
      have hA2 := fun v => ApG.other (k := 18) hA (by decide) v
      clear hI hall hnot hcl
      refine .inl ⟨wanted_none rfl, ?_⟩
      unfold Oper.wp
      go_simp
      all_goals exact ⟨_, rfl, Turn.refl _ _, rfl, StC.step (k := 7) hC (Below.refl _ _) hFin (by decide) (by rw [hlen]; decide), hA2 _⟩
    · simp at hq; subst hq
      have g18 : act.tmps[18]?.getD undef = .slice (some ⟨q, 0, none⟩) 3 N := hI.has 7 18 rfl (hall ⟨7, .data⟩ (by simp) rfl)
      have hA2 := fun v => ApG.other (k := 19) hA (by decide) v
      clear hI hall hnot hcl
      refine .inl ⟨wanted_none rfl, ?_⟩
      unfold Oper.wp
      go_simp
      all_goals exact ⟨_, rfl, Turn.refl _ _, rfl, StC.step (k := 8) hC (Below.refl _ _) hFin (by decide) (by rw [hlen]; decide), hA2 _⟩
    · simp at hq; subst hq
      have g19 : act.tmps[19]?.getD undef = .pointer (some ⟨q, 1, none⟩) := hI.has 8 19 rfl (hall ⟨8, .data⟩ (by simp) rfl)
      have hA2 := fun v => ApG.other (k := 20) hA (by decide) v
      clear hI hall hnot hcl
      refine .inl ⟨wanted_none rfl, ?_⟩
      unfold Oper.wp
      go_simp
      all_goals exact ⟨_, rfl, Turn.refl _ _, rfl, StC.step (k := 9) hC (Below.refl _ _) hFin (by decide) (by rw [hlen]; decide), hA2 _⟩
    · simp at hq; subst hq
      have g20 : act.tmps[20]?.getD undef = .string a1 := hI.has 9 20 rfl (hall ⟨9, .data⟩ (by simp) rfl)
      clear hI hall hnot hcl
      refine .inl ⟨wanted_none rfl, ?_⟩
      unfold Oper.wp
      go_simp
      refine (HC1.out _ hbw).mono ?_
      rintro e w4 ⟨A1, c1, g1, rfl, ho, b4⟩
      exact ⟨_, rfl, Turn.of_below b4 _, ⟨A1, c1, g1, rfl, ho.baseV hlo⟩, StC.step (k := 10) hC b4 hFin (by decide) (by rw [hlen]; decide), ApG.fresh (k := 21) hA (by decide) b4.size (fun g hg => ho.blk hg)⟩
    · simp at hq; subst hq
      have G21 := hI.has 10 21 rfl (hall ⟨10, .data⟩ (by simp) rfl)
      clear hI hall hnot hcl
      refine .inl ⟨wanted_none rfl, ?_⟩
      unfold Oper.wp
      go_simp
      obtain ⟨A1, c1, g1, eg, ho⟩ := G21
      rw [eg]
      go_simp
      exact ⟨_, rfl, Turn.refl _ _, ⟨A1, c1, g1, rfl, ho⟩, StC.step (k := 11) hC (Below.refl _ _) hFin (by decide) (by rw [hlen]; decide), ApG.copy (k := 22) (i := 21) (grp := 1) hA (by decide) (by decide) (by decide) (fun g hg => by rw [Array.getD_eq_getD_getElem?, eg]; exact hg)⟩
    · simp at hq; subst hq
      have G21 := hI.has 10 21 rfl (hall ⟨10, .data⟩ (by simp) rfl)
      have hA2 := fun v => ApG.other (k := 23) hA (by decide) v
      clear hI hall hnot hcl
      refine .inl ⟨wanted_none rfl, ?_⟩
      unfold Oper.wp
      go_simp
      obtain ⟨A1, c1, g1, eg, ho⟩ := G21
      rw [eg]
      go_simp
      exact ⟨_, rfl, Turn.refl _ _, rfl, StC.step (k := 12) hC (Below.refl _ _) hFin (by decide) (by rw [hlen]; decide), hA2 _⟩
    · simp at hq; subst hq
      have G22 := hI.has 11 22 rfl (hall ⟨11, .data⟩ (by simp) rfl)
      have g23 : act.tmps[23]?.getD undef = .bool b1 := hI.has 12 23 rfl (hall ⟨12, .data⟩ (by simp) rfl)
      clear hI hall hnot hcl
      refine .inl ⟨wanted_none rfl, ?_⟩
      unfold Oper.wp
      go_simp
      obtain ⟨A1, c1, g1, eg, ho⟩ := G22
      rw [eg]
      go_simp
      rcases Bool.eq_false_or_eq_true b1 with hb | hb
      · rw [hb]
        refine (i_must_yes A1 _ c1 _).mono ?_
        rintro e w4 ⟨rfl, hw⟩
        obtain rfl := hw.symm
        exact ⟨_, rfl, Turn.refl _ _, ⟨by first | rfl | exact hb, A1, c1, g1, rfl, ho⟩, StC.step (k := 13) hC (Below.refl _ _) hFin (by decide) (by rw [hlen]; decide), ApG.copy (k := 24) (i := 22) (grp := 1) hA (by decide) (by decide) (by decide) (fun g hg => by rw [Array.getD_eq_getD_getElem?, eg]; exact hg)⟩
      · rw [hb]
        refine (i_must_no A1 _ c1 pv _ (HV.out _ hbw)).mono ?_
        rintro e w4 ⟨rfl, hw⟩
        obtain rfl := hw.symm
        have hpan : bodyPost Tryz.prog Tryz.f34 (fun e w' => FmP s pv w.heap.size e w' ∧ Below w.heap.size w w') (.panic (chn pv)) act _ := ⟨hdf, HG.out _ (.inr hb), hbw⟩
        exact hpan
    · simp at hq; subst hq
      have g4 : act.tmps[4]?.getD undef = .slice (some ⟨g4, 0, none⟩) 3 c4 := hI.kept 4 (by kernel_rfl)
      have hA2 := fun v => ApG.other (k := 25) hA (by decide) v
      clear hI hall hnot hcl
      refine .inl ⟨wanted_none rfl, ?_⟩
      unfold Oper.wp
      go_simp
      all_goals exact ⟨_, rfl, Turn.refl _ _, rfl, StC.step (k := 14) hC (Below.refl _ _) hFin (by decide) (by rw [hlen]; decide), hA2 _⟩
    · simp at hq; subst hq
      have g25 : act.tmps[25]?.getD undef = .slice (some ⟨g4, 0, none⟩) 3 c4 := hI.has 14 25 rfl (hall ⟨14, .data⟩ (by simp) rfl)
      have hA2 := fun v => ApG.other (k := 26) hA (by decide) v
      clear hI hall hnot hcl
      refine .inl ⟨wanted_none rfl, ?_⟩
      unfold Oper.wp
      go_simp
      all_goals exact ⟨_, rfl, Turn.refl _ _, rfl, StC.step (k := 15) hC (Below.refl _ _) hFin (by decide) (by rw [hlen]; decide), hA2 _⟩
    · simp at hq; subst hq
      have g26 : act.tmps[26]?.getD undef = .pointer (some ⟨g4, 0, none⟩) := hI.has 15 26 rfl (hall ⟨15, .data⟩ (by simp) rfl)
      have hA2 := fun v => ApG.other (k := 27) hA (by decide) v
      clear hI hall hnot hcl
      refine .inl ⟨wanted_none rfl, ?_⟩
      unfold Oper.wp
      go_simp
      all_goals exact ⟨_, rfl, Turn.refl _ _, rfl, StC.step (k := 16) hC (Below.refl _ _) hFin (by decide) (by rw [hlen]; decide), hA2 _⟩
    · simp at hq; subst hq
      have g4 : act.tmps[4]?.getD undef = .slice (some ⟨g4, 0, none⟩) 3 c4 := hI.kept 4 (by kernel_rfl)
      have hA2 := fun v => ApG.other (k := 28) hA (by decide) v
      clear hI hall hnot hcl
      refine .inl ⟨wanted_none rfl, ?_⟩
      unfold Oper.wp
      go_simp
      all_goals exact ⟨_, rfl, Turn.refl _ _, rfl, StC.step (k := 17) hC (Below.refl _ _) hFin (by decide) (by rw [hlen]; decide), hA2 _⟩
    · simp at hq; subst hq
      have g28 : act.tmps[28]?.getD undef = .slice (some ⟨g4, 0, none⟩) 3 c4 := hI.has 17 28 rfl (hall ⟨17, .data⟩ (by simp) rfl)
      have hA2 := fun v => ApG.other (k := 29) hA (by decide) v
      clear hI hall hnot hcl
      refine .inl ⟨wanted_none rfl, ?_⟩
      unfold Oper.wp
      go_simp
      all_goals exact ⟨_, rfl, Turn.refl _ _, rfl, StC.step (k := 18) hC (Below.refl _ _) hFin (by decide) (by rw [hlen]; decide), hA2 _⟩
    · simp at hq; subst hq
      have g29 : act.tmps[29]?.getD undef = .pointer (some ⟨g4, 1, none⟩) := hI.has 18 29 rfl (hall ⟨18, .data⟩ (by simp) rfl)
      have hA2 := fun v => ApG.other (k := 30) hA (by decide) v
      clear hI hall hnot hcl
      refine .inl ⟨wanted_none rfl, ?_⟩
      unfold Oper.wp
      go_simp
      all_goals exact ⟨_, rfl, Turn.refl _ _, rfl, StC.step (k := 19) hC (Below.refl _ _) hFin (by decide) (by rw [hlen]; decide), hA2 _⟩
    · simp at hq; subst hq
      have g4 : act.tmps[4]?.getD undef = .slice (some ⟨g4, 0, none⟩) 3 c4 := hI.kept 4 (by kernel_rfl)
      have hA2 := fun v => ApG.other (k := 31) hA (by decide) v
      clear hI hall hnot hcl
      refine .inl ⟨wanted_none rfl, ?_⟩
      unfold Oper.wp
      go_simp
      all_goals exact ⟨_, rfl, Turn.refl _ _, rfl, StC.step (k := 20) hC (Below.refl _ _) hFin (by decide) (by rw [hlen]; decide), hA2 _⟩
    · simp at hq; subst hq
      have g31 : act.tmps[31]?.getD undef = .slice (some ⟨g4, 0, none⟩) 3 c4 := hI.has 20 31 rfl (hall ⟨20, .data⟩ (by simp) rfl)
      have hA2 := fun v => ApG.other (k := 32) hA (by decide) v
      clear hI hall hnot hcl
      refine .inl ⟨wanted_none rfl, ?_⟩
      unfold Oper.wp
      go_simp
      all_goals exact ⟨_, rfl, Turn.refl _ _, rfl, StC.step (k := 21) hC (Below.refl _ _) hFin (by decide) (by rw [hlen]; decide), hA2 _⟩
    · simp at hq; subst hq
      have g32 : act.tmps[32]?.getD undef = .pointer (some ⟨g4, 2, none⟩) := hI.has 21 32 rfl (hall ⟨21, .data⟩ (by simp) rfl)
      have hA2 := fun v => ApG.other (k := 33) hA (by decide) v
      clear hI hall hnot hcl
      refine .inl ⟨wanted_none rfl, ?_⟩
      unfold Oper.wp
      go_simp
      all_goals exact ⟨_, rfl, Turn.refl _ _, rfl, StC.step (k := 22) hC (Below.refl _ _) hFin (by decide) (by rw [hlen]; decide), hA2 _⟩
    · simp at hq; subst hq
      have G17 := hI.has 6 17 rfl (hall ⟨6, .data⟩ (by simp) rfl)
      have G24 := hI.has 13 24 rfl (hall ⟨13, .data⟩ (by simp) rfl)
      have g27 : act.tmps[27]?.getD undef = .float .f32 r0 := hI.has 16 27 rfl (hall ⟨16, .data⟩ (by simp) rfl)
      have g30 : act.tmps[30]?.getD undef = .float .f32 r1 := hI.has 19 30 rfl (hall ⟨19, .data⟩ (by simp) rfl)
      have g33 : act.tmps[33]?.getD undef = .float .f32 r2 := hI.has 22 33 rfl (hall ⟨22, .data⟩ (by simp) rfl)
      have hA2 := fun v => ApG.other (k := 34) hA (by decide) v
      clear hI hall hnot hcl
      refine .inl ⟨wanted_none rfl, ?_⟩
      unfold Oper.wp
      go_simp
      obtain ⟨-, X, cx, gx0, e0, o0⟩ := G17
      obtain ⟨-, Y, cy, gy0, e1, o1⟩ := G24
      have ne01 := hA.ne (i := 17) (j := 24) (gi := 0) (gj := 1) (by decide) (by decide) (by decide) e0 e1
      obtain ⟨gx, gy, hr⟩ := OwnR2.ofB o0 o1 ne01
      rw [e0, e1]
      go_simp
      exact ⟨_, rfl, Turn.refl _ _, ⟨X, Y, cx, cy, gx, gy, rfl, hr⟩, StC.step (k := 23) hC (Below.refl _ _) hFin (by decide) (by rw [hlen]; decide), hA2 _⟩
    · simp at hq; subst hq
      have g2 : act.tmps[2]?.getD undef = .pointer (some ⟨w.heap.size, 0, none⟩) := hI.kept 2 (by kernel_rfl)
      have G34 := hI.has 23 34 rfl (hall ⟨23, .data⟩ (by simp) rfl)
      have hA2 := fun v => ApG.skip hA v
      clear hI hall hnot hcl
      refine .inl ⟨wanted_none rfl, ?_⟩
      unfold Oper.wp
      go_simp
      obtain ⟨X, Y, cx, cy, gx, gy, eg, hg⟩ := G34
      rw [eg]
      obtain ⟨vs, hvs, hvl⟩ := hC.2.1
      match vs, hvs, hvl with
      | [u0, u1, u2, u3, u4], hvs, _ =>
      have p0 := (hvs.2 0 _ rfl).1
      have f0 := (hvs.2 0 _ rfl).2
      have p1 := (hvs.2 1 _ rfl).1
      have f1 := (hvs.2 1 _ rfl).2
      have p2 := (hvs.2 2 _ rfl).1
      have f2 := (hvs.2 2 _ rfl).2
      have p3 := (hvs.2 3 _ rfl).1
      have f3 := (hvs.2 3 _ rfl).2
      have p4 := (hvs.2 4 _ rfl).1
      have f4 := (hvs.2 4 _ rfl).2
      go_simp
      have hf := (((((hvs.set (i := 0) (by simp) (.slice X fx.length cx)).set (i := 1) (by simp) (.slice Y fy.length cy)).set (i := 2) (by simp) (.float .f32 r0)).set (i := 3) (by simp) (.float .f32 r1)).set (i := 4) (by simp) (.float .f32 r2))
      have ht2 := (((((Turn.set w3 (B := w.heap.size) ⟨w.heap.size, 0, none⟩ rfl (.slice X fx.length cx)).trans (Turn.set _ (B := w.heap.size) ⟨w.heap.size, 1, none⟩ rfl (.slice Y fy.length cy))).trans (Turn.set _ (B := w.heap.size) ⟨w.heap.size, 2, none⟩ rfl (.float .f32 r0))).trans (Turn.set _ (B := w.heap.size) ⟨w.heap.size, 3, none⟩ rfl (.float .f32 r1))).trans (Turn.set _ (B := w.heap.size) ⟨w.heap.size, 4, none⟩ rfl (.float .f32 r2)))
      have hn := (((((hg.setV (p := ⟨w.heap.size, 0, none⟩) (by show w.heap.size < _; have := HZ0.out; omega) (.slice X fx.length cx)).setV (p := ⟨w.heap.size, 1, none⟩) (by show w.heap.size < _; have := HZ0.out; omega) (.slice Y fy.length cy)).setV (p := ⟨w.heap.size, 2, none⟩) (by show w.heap.size < _; have := HZ0.out; omega) (.float .f32 r0)).setV (p := ⟨w.heap.size, 3, none⟩) (by show w.heap.size < _; have := HZ0.out; omega) (.float .f32 r1)).setV (p := ⟨w.heap.size, 4, none⟩) (by show w.heap.size < _; have := HZ0.out; omega) (.float .f32 r2))
      have hst := StC.store (st := 24) hC ht2 hf rfl ⟨X, Y, cx, cy, gx, gy, hf, hn⟩
      have hap := (hA2 undef).grow ht2.1
      first | exact ⟨ht2, trivial, hst, hap⟩ | exact ⟨ht2, hst, hap⟩
    · simp at hq
  case hend =>
    intro listed act w3 hI hCA hall
    obtain ⟨hC, hA⟩ := hCA
    have hlen : listed.size = 25 := hI.len
    have hdf := hI.defers
    have hbw := hC.1.2.2.2 w HB2.out (fun b hb => by have hb : b = w.heap.size := hb; omega)
    have hlo : w0.heap.size ≤ w3.heap.size := Nat.le_trans HS2.out hC.1.1
    obtain ⟨m0, m1, n0, n1, n2⟩ := HPC.out _ hC.1
    obtain ⟨X, Y, cx, cy, gx, gy, hf, hown⟩ := hC.2.2 (hall 24 (by decide))
    have hb0 := (hI.has 6 17 rfl (hall 6 (by decide))).1
    have hb1 := (hI.has 13 24 rfl (hall 13 (by decide))).1
    have g2 : act.tmps[2]?.getD undef = .pointer (some ⟨w.heap.size, 0, none⟩) := hI.kept 2 (by kernel_rfl)
    have hd := hI.defers
    clear hI hall hFin hC hA
    have k0 := (hf.2 0 _ rfl).1
    have k1 := (hf.2 1 _ rfl).1
    have k2 := (hf.2 2 _ rfl).1
    have k3 := (hf.2 3 _ rfl).1
    have k4 := (hf.2 4 _ rfl).1
    go_wp2
    refine bodyPost_ret (v := .agg #[.slice X fx.length cx, .slice Y fy.length cy, .float .f32 r0, .float .f32 r1, .float .f32 r2]) (by simp [results, Tryz.results34, g2, k0, k1, k2, k3, k4, go_sem]) (by first | rfl | exact hd) ?_
    exact ⟨HF.out _ X Y cx cy gx gy hb0 hb1 (hown.baseV (by have := HZ0.out; omega)), hbw⟩
theorem i_farmIn (s : ByteArray) (pv : Value) (w : World) (hs : s.size ≤ 1048576) (hE : EV w) (hT : T64 w) (hM : ML w) (hV : EMv pv w) :
    Calls Tryz.prog 34 #[.string s] w fun e w' => FmP s pv w.heap.size e w' ∧ Below w.heap.size w w' := by
  by_cases hl : (cutS 59 s).length = 3
  · cases hn : nmN (pcs 59 s 2) 3
    · exact i_farmIn_num s pv w hs hE hT hM hV hl hn
    · exact i_farmIn_main s pv w hs hE hT hM hV hl hn
  · exact i_farmIn_len s pv w hs hM hV hl
theorem i_farmIn_ok (s : ByteArray) (pv : Value) (w : World) (hs : s.size ≤ 1048576) (hE : EV w) (hT : T64 w) (hM : ML w) (hV : EMv pv w) (h : fmO s = true) :
    Calls Tryz.prog 34 #[.string s] w fun e w' => ∃ (X Y : Option Addr) (cx cy gx gy : Nat), e = .returned (.agg #[.slice X (fmX s).length cx, .slice Y (fmY s).length cy, .float .f32 (fmN s 0), .float .f32 (fmN s 1), .float .f32 (fmN s 2)]) ∧ OwnR2 w' w.heap.size X Y gx gy (fmX s) (fmY s) ∧ Below w.heap.size w w' := by
  refine (i_farmIn s pv w hs hE hT hM hV).mono ?_
  rintro e w' ⟨h1 | h1, hb⟩
  · obtain ⟨-, X, Y, cx, cy, gx, gy, he, ho⟩ := h1
    exact ⟨X, Y, cx, cy, gx, gy, he, ho, hb⟩
  · rw [h1.1] at h; cases h
theorem i_farmIn_no (s : ByteArray) (pv : Value) (w : World) (hs : s.size ≤ 1048576) (hE : EV w) (hT : T64 w) (hM : ML w) (hV : EMv pv w) (h : fmO s = false) :
    Calls Tryz.prog 34 #[.string s] w fun e w' => e = .panicked (chn pv) ∧ Below w.heap.size w w' := by
  refine (i_farmIn s pv w hs hE hT hM hV).mono ?_
  rintro e w' ⟨h1 | h1, hb⟩
  · rw [h1.1] at h; cases h
  · exact ⟨h1.2, hb⟩
end Go.Proofs.YtknabmknboffgaaGreatDoor
namespace Go.Proofs.YtknabmknboffgaaGreatDoor
open Go Go.RowKit
/-- what is handed back -/
def FmV (lo : Nat) (fx : List Nat) (fy : List Nat) (r0 r1 r2 : Nat) (b : Bool) (e : Ending) (w' : World) : Prop := ∃ (X Y : Option Addr) (cx cy gx gy : Nat), e = .returned (.tuple #[.agg #[.slice X fx.length cx, .slice Y fy.length cy, .float .f32 r0, .float .f32 r1, .float .f32 r2], .bool b]) ∧ OwnR2 w' lo X Y gx gy fx fy
set_option maxHeartbeats 4000000 in
theorem i_rdFarm1_yes (B1 B2 B3 : Nat) (s : ByteArray) (pv : Value) (W w : World) (hs : s.size ≤ 1048576) (hE : EV w) (hT : T64 w) (hM : ML w) (hV : EMv pv w) (h : fmO s = true)
    (l1 : BlkL w B1 [.func (.func 34) #[] #[]]) (l2 : BlkL w B2 [.string s]) (l3 : BlkL w B3 [.slice none 0 0, .slice none 0 0, .float .f32 0, .float .f32 0, .float .f32 0]) (hW : Below W.heap.size W w) (hB : W.heap.size ≤ B3) :
    Calls Tryz.prog 65 #[.pointer (some ⟨B1, 0, none⟩), .pointer (some ⟨B2, 0, none⟩), .pointer (some ⟨B3, 0, none⟩)] w fun e w' => e = .returned (.tuple #[]) ∧ FmF B3 w.heap.size (fmX s) (fmY s) (fmN s 0) (fmN s 1) (fmN s 2) w' ∧ (∀ B vs, B < w.heap.size → B ≠ B3 → BlkL w B vs → BlkL w' B vs) ∧ Below W.heap.size W w' := by
  have HC := Lib.hid (i_farmIn_ok s pv w hs hE hT hM hV h)
  have m1 := (l1.2 0 _ rfl).1
  have m2 := (l2.2 0 _ rfl).1
  have L3 := Lib.hid l3
  have HW := Lib.hid hW
  have HB := Lib.hid hB
  have HLT := Lib.hid l3.1
  clear hs hE hT hM hV h l1 l2 l3 hW hB
  generalize fmX s = fx at HC ⊢
  generalize fmY s = fy at HC ⊢
  generalize fmN s 0 = r0 at HC ⊢
  generalize fmN s 1 = r1 at HC ⊢
  generalize fmN s 2 = r2 at HC ⊢
  go_enter Tryz.func65, Tryz.ntmps65
  go_wp2_with fail
  refine HC.out.mono ?_
  rintro e w1 ⟨X, Y, cx, cy, gx, gy, rfl, ho, b1⟩
  have HO := Lib.hid ho
  have B1' := Lib.hid b1
  have L4 := Lib.hid (L3.out.below b1)
  clear b1 ho m1 m2
  obtain ⟨⟨k0, f0⟩, ⟨k1, f1⟩, ⟨k2, f2⟩, ⟨k3, f3⟩, ⟨k4, f4⟩⟩ : (_ ∧ _) ∧ (_ ∧ _) ∧ (_ ∧ _) ∧ (_ ∧ _) ∧ (_ ∧ _) := ⟨L4.out.2 0 _ rfl, L4.out.2 1 _ rfl, L4.out.2 2 _ rfl, L4.out.2 3 _ rfl, L4.out.2 4 _ rfl⟩
  go_wp2
  refine bodyPost_end (v := .tuple #[]) (by simp [results, Tryz.results65, go_sem]) (by simp) ⟨rfl, ?_, ?_, ?_⟩
  · exact ⟨X, Y, cx, cy, gx, gy, (((((L4.out.set (i := 0) (by simp) (.slice X fx.length cx)).set (i := 1) (by simp) (.slice Y fy.length cy)).set (i := 2) (by simp) (.float .f32 r0)).set (i := 3) (by simp) (.float .f32 r1)).set (i := 4) (by simp) (.float .f32 r2)), (((((HO.out.setV (p := ⟨B3, 0, none⟩) HLT.out (.slice X fx.length cx)).setV (p := ⟨B3, 1, none⟩) HLT.out (.slice Y fy.length cy)).setV (p := ⟨B3, 2, none⟩) HLT.out (.float .f32 r0)).setV (p := ⟨B3, 3, none⟩) HLT.out (.float .f32 r1)).setV (p := ⟨B3, 4, none⟩) HLT.out (.float .f32 r2))⟩
  · intro B vs hB hne hv
    have h1 := hv.below B1'.out
    exact (((((h1.setCell (p := ⟨B3, 0, none⟩) (Ne.symm hne) _).setCell (p := ⟨B3, 1, none⟩) (Ne.symm hne) _).setCell (p := ⟨B3, 2, none⟩) (Ne.symm hne) _).setCell (p := ⟨B3, 3, none⟩) (Ne.symm hne) _).setCell (p := ⟨B3, 4, none⟩) (Ne.symm hne) _)
  · exact ((((((below_of HW.out HW.out.size B1'.out).setCell (p := ⟨B3, 0, none⟩) HB.out _).setCell (p := ⟨B3, 1, none⟩) HB.out _).setCell (p := ⟨B3, 2, none⟩) HB.out _).setCell (p := ⟨B3, 3, none⟩) HB.out _).setCell (p := ⟨B3, 4, none⟩) HB.out _)
theorem i_rdFarm1_no (B1 B2 B3 : Nat) (s : ByteArray) (pv : Value) (w : World) (hs : s.size ≤ 1048576) (hE : EV w) (hT : T64 w) (hM : ML w) (hV : EMv pv w) (h : fmO s = false)
    (l1 : BlkL w B1 [.func (.func 34) #[] #[]]) (l2 : BlkL w B2 [.string s]) :
    Calls Tryz.prog 65 #[.pointer (some ⟨B1, 0, none⟩), .pointer (some ⟨B2, 0, none⟩), .pointer (some ⟨B3, 0, none⟩)] w fun e w' => e = .panicked (chn pv) ∧ Below w.heap.size w w' := by
  have HC := Lib.hid (i_farmIn_no s pv w hs hE hT hM hV h)
  have m1 := (l1.2 0 _ rfl).1
  have m2 := (l2.2 0 _ rfl).1
  clear hs hE hT hM hV h l1 l2
  go_enter Tryz.func65, Tryz.ntmps65
  go_wp2_with fail
  refine HC.out.mono ?_
  rintro e w1 ⟨rfl, b1⟩
  go_wp2
  exact ⟨rfl, rfl, b1⟩
set_option maxHeartbeats 4000000 in
theorem i_attFarm_yes (B1 B2 B3 : Nat) (s : ByteArray) (pv : Value) (W w : World) (hs : s.size ≤ 1048576) (hE : EV w) (hT : T64 w) (hM : ML w) (hV : EMv pv w) (h : fmO s = true)
    (l1 : BlkL w B1 [.func (.func 34) #[] #[]]) (l2 : BlkL w B2 [.string s]) (l3 : BlkL w B3 [.slice none 0 0, .slice none 0 0, .float .f32 0, .float .f32 0, .float .f32 0]) (hW : Below W.heap.size W w) (hB : W.heap.size ≤ B3) :
    Calls Tryz.prog 53 #[.func (.func 65) #[] #[.pointer (some ⟨B1, 0, none⟩), .pointer (some ⟨B2, 0, none⟩), .pointer (some ⟨B3, 0, none⟩)]] w fun e w' => e = .returned .nilIface ∧ FmF B3 w.heap.size (fmX s) (fmY s) (fmN s 0) (fmN s 1) (fmN s 2) w' ∧ (∀ B vs, B < w.heap.size → B ≠ B3 → BlkL w B vs → BlkL w' B vs) ∧ Below W.heap.size W w' := by
  have hmf : ∀ (fn : Fn) (first cap : Array Value) (w : World), (Instr.makeFunc fn first cap).run Tryz.prog w = .ok (.func fn first cap) w := fun _ _ _ _ => rfl
  have b0 : Below w.heap.size w (w.alloc (.cells #[.nilIface] 79)) := (Below.refl _ _).alloc (Nat.le_refl _) _
  have HB0 := Lib.hid b0
  have K0 : Hid (BlkL (w.alloc (.cells #[.nilIface] 79)) w.heap.size [.nilIface]) := Lib.hid (blkL_at w #[.nilIface] _ rfl)
  have hlt : B3 < w.heap.size := l3.1
  have HC := Lib.hid (i_rdFarm1_yes B1 B2 B3 s pv W _ hs (hE.below b0) (hT.below b0) (hM.below b0) (hV.below b0) h (l1.below b0) (l2.below b0) (l3.below b0) (below_of hW hW.size b0) hB)
  have LT := Lib.hid hlt
  have HW := Lib.hid hW.size
  clear hs hE hT hM hV h l1 l2 l3 hW hB hlt b0
  generalize fmX s = fx at HC ⊢
  generalize fmY s = fy at HC ⊢
  generalize fmN s 0 = r0 at HC ⊢
  generalize fmN s 1 = r1 at HC ⊢
  generalize fmN s 2 = r2 at HC ⊢
  go_enter_defers Tryz.func53, Tryz.ntmps53
  go_wp2_with fail
  refine HC.out.mono ?_
  rintro e w1 ⟨rfl, hx, hk, hb⟩
  obtain ⟨X, Y, cx, cy, gx, gy, hx, ho⟩ := hx
  have K1 := Lib.hid (hk w.heap.size _ (by simp) (Nat.ne_of_gt LT.out) K0.out)
  have X1 := Lib.hid hx
  have HO := Lib.hid ho
  have KK := Lib.hid hk
  have BB := Lib.hid hb
  clear hx ho hk hb HC
  obtain ⟨k, f⟩ := K1.out.2 0 _ rfl
  go_wp2
  refine leaves_cons (f := 88) (args := #[.pointer (some ⟨w.heap.size, 0, none⟩)]) (by simp) (by simp [go_sem]) ?_
  refine (att_idle ⟨w.heap.size, 0, none⟩ _).mono ?_
  rintro e u' w'' ⟨rfl, rfl, rfl⟩
  have kc : (w1.setCell ⟨w.heap.size, 0, none⟩ .nilIface).cell? ⟨w.heap.size, 0, none⟩ = some .nilIface := World.cell?_setCell_same _ _ _ k
  simp [Leaves, settle, results, Tryz.results53, go_sem, kc]
  exact ⟨⟨X, Y, cx, cy, gx, gy, X1.out.setCell (Nat.ne_of_gt LT.out) _, (HO.out.setV (p := ⟨w.heap.size, 0, none⟩) (by simp) _).baseV (by simp)⟩, fun B vs hB hne hv => (KK.out B vs (by simp; omega) hne (hv.below HB0.out)).setCell (Nat.ne_of_gt hB) _, BB.out.setCell HW.out _⟩
theorem i_attFarm_no (B1 B2 B3 : Nat) (s : ByteArray) (pv : Value) (w : World) (hs : s.size ≤ 1048576) (hE : EV w) (hT : T64 w) (hM : ML w) (hV : EMv pv w) (h : fmO s = false)
    (l1 : BlkL w B1 [.func (.func 34) #[] #[]]) (l2 : BlkL w B2 [.string s]) :
    Calls Tryz.prog 53 #[.func (.func 65) #[] #[.pointer (some ⟨B1, 0, none⟩), .pointer (some ⟨B2, 0, none⟩), .pointer (some ⟨B3, 0, none⟩)]] w fun e w' => e = .returned (.iface 179 pv) ∧ Below w.heap.size w w' := by
  have hmf : ∀ (fn : Fn) (first cap : Array Value) (w : World), (Instr.makeFunc fn first cap).run Tryz.prog w = .ok (.func fn first cap) w := fun _ _ _ _ => rfl
  have b0 : Below w.heap.size w (w.alloc (.cells #[.nilIface] 79)) := (Below.refl _ _).alloc (Nat.le_refl _) _
  have HB0 := Lib.hid b0
  have K0 : Hid (BlkL (w.alloc (.cells #[.nilIface] 79)) w.heap.size [.nilIface]) := Lib.hid (blkL_at w #[.nilIface] _ rfl)
  have HC := Lib.hid (i_rdFarm1_no B1 B2 B3 s pv _ hs (hE.below b0) (hT.below b0) (hM.below b0) (hV.below b0) h (l1.below b0) (l2.below b0))
  clear hs hE hT hM hV h l1 l2 b0
  go_enter_defers Tryz.func53, Tryz.ntmps53
  go_wp2_with fail
  refine HC.out.mono ?_
  rintro e w1 ⟨rfl, hb⟩
  have K1 := Lib.hid (K0.out.below hb)
  have BB := Lib.hid hb
  clear hb HC
  obtain ⟨k, f⟩ := K1.out.2 0 _ rfl
  go_wp2
  refine leaves_cons (f := 88) (args := #[.pointer (some ⟨w.heap.size, 0, none⟩)]) (by simp) (by simp [go_sem]) ?_
  refine (att_panic ⟨w.heap.size, 0, none⟩ pv [] _ k f).mono ?_
  rintro e u' w'' ⟨rfl, rfl, rfl⟩
  have kc : (w1.setCell ⟨w.heap.size, 0, none⟩ (.iface 179 pv)).cell? ⟨w.heap.size, 0, none⟩ = some (.iface 179 pv) := World.cell?_setCell_same _ _ _ k
  simp [Leaves, settle, results, Tryz.results53, go_sem, kc]
  exact (below_of HB0.out HB0.out.size BB.out).setCell (Nat.le_refl _) _
end Go.Proofs.YtknabmknboffgaaGreatDoor
namespace Go.Proofs.YtknabmknboffgaaGreatDoor
open Go Go.RowKit
set_option maxHeartbeats 8000000 in
theorem i_rvFarm_yes (s : ByteArray) (pv : Value) (w : World) (hs : s.size ≤ 1048576) (hE : EV w) (hT : T64 w) (hM : ML w) (hV : EMv pv w) (h : fmO s = true) (hv : frmV (fmX s) (fmY s) (fmN s 0) (fmN s 1) (fmN s 2) = true) :
    Calls Tryz.prog 32 #[.string s, .func (.func 33) #[] #[], .func (.func 34) #[] #[]] w fun e w' => FmV w.heap.size (fmX s) (fmY s) (fmN s 0) (fmN s 1) (fmN s 2) true e w' ∧ Below w.heap.size w w' := by
  have hmf : ∀ (fn : Fn) (first cap : Array Value) (w : World), (Instr.makeFunc fn first cap).run Tryz.prog w = .ok (.func fn first cap) w := fun _ _ _ _ => rfl
  obtain ⟨w5, h5⟩ : ∃ z, z = (((((w.alloc (.cells #[.string s] 9)).alloc (.cells #[.func (.func 34) #[] #[]] 59)).alloc (.cells #[.slice none 0 0, .slice none 0 0, .float .f32 0, .float .f32 0, .float .f32 0] 33)).alloc (.cells #[.slice none 0 0, .slice none 0 0, .float .f32 0, .float .f32 0, .float .f32 0] 33)).alloc (.cells #[.slice none 0 0, .slice none 0 0, .float .f32 0, .float .f32 0, .float .f32 0] 33)) := ⟨_, rfl⟩
  obtain ⟨k0, k1, k2, k3, k4, b5⟩ := five w (.string s) (.func (.func 34) #[] #[]) #[.slice none 0 0, .slice none 0 0, .float .f32 0, .float .f32 0, .float .f32 0] #[.slice none 0 0, .slice none 0 0, .float .f32 0, .float .f32 0, .float .f32 0] #[.slice none 0 0, .slice none 0 0, .float .f32 0, .float .f32 0, .float .f32 0] 9 59 33 33 33
  rw [← h5] at k0 k1 k2 k3 k4 b5
  have HC := Lib.hid (i_attFarm_yes (w.heap.size + 1) w.heap.size (w.heap.size + 4) s pv w w5 hs (hE.below b5) (hT.below b5) (hM.below b5) (hV.below b5) h k1 k0 k4 b5 (by omega))
  have HFW : Hid (FewS (fmX s) (fmY s)) := Lib.hid (fm_few s)
  have K2 := Lib.hid k2
  have K3 := Lib.hid k3
  have K4 := Lib.hid k4.1
  clear hs hE hT hM hV h k0 k1 k2 k3 k4 b5
  generalize fmX s = fx at HC hv HFW ⊢
  generalize fmY s = fy at HC hv HFW ⊢
  generalize fmN s 0 = r0 at HC hv HFW ⊢
  generalize fmN s 1 = r1 at HC hv HFW ⊢
  generalize fmN s 2 = r2 at HC hv HFW ⊢
  have HV := Lib.hid hv
  clear hv
  go_enter Tryz.func32, Tryz.ntmps32
  go_upto_region 2 with fail
  rw [← h5]
  clear h5
  go_wp2_with fail
  refine HC.out.mono ?_
  rintro e w6 ⟨rfl, hx, hk, hb⟩
  obtain ⟨X, Y, cx, cy, gx, gy, hx, ho⟩ := hx
  have X1 := Lib.hid hx
  have HO := Lib.hid ho
  have L2 := Lib.hid (hk _ _ (by have := K4.out; omega) (by omega) K2.out)
  have L3 := Lib.hid (hk _ _ (by have := K4.out; omega) (by omega) K3.out)
  have BB := Lib.hid hb
  clear hx ho hk hb HC K2 K3
  obtain ⟨u0, u1, u2, u3, u4⟩ : _ ∧ _ ∧ _ ∧ _ ∧ _ := ⟨(X1.out.2 0 _ rfl).1, (X1.out.2 1 _ rfl).1, (X1.out.2 2 _ rfl).1, (X1.out.2 3 _ rfl).1, (X1.out.2 4 _ rfl).1⟩
  go_wp2_with fail
  refine (i_ValidFarm X Y cx cy fx fy r0 r1 r2 _ ⟨HO.out.1.fl, HO.out.2.1.fl⟩ HFW.out).mono ?_
  rintro e w7 ⟨rfl, b7⟩
  rw [HV.out]
  clear u0 u1 u2 u3 u4
  have X2 := Lib.hid (X1.out.below b7)
  have HO := Lib.hid (HO.out.belowV b7)
  have M2 := Lib.hid (L2.out.below b7)
  have M3 := Lib.hid (L3.out.below b7)
  have BC := Lib.hid (below_of BB.out BB.out.size b7)
  clear b7 X1 L2 L3 BB HV HFW
  obtain ⟨⟨f0, g0⟩, ⟨f1, g1⟩, ⟨f2, g2⟩, ⟨f3, g3⟩, ⟨f4, g4⟩⟩ : (_ ∧ _) ∧ (_ ∧ _) ∧ (_ ∧ _) ∧ (_ ∧ _) ∧ (_ ∧ _) := ⟨M2.out.2 0 _ rfl, M2.out.2 1 _ rfl, M2.out.2 2 _ rfl, M2.out.2 3 _ rfl, M2.out.2 4 _ rfl⟩
  obtain ⟨u0, u1, u2, u3, u4⟩ : _ ∧ _ ∧ _ ∧ _ ∧ _ := ⟨(X2.out.2 0 _ rfl).1, (X2.out.2 1 _ rfl).1, (X2.out.2 2 _ rfl).1, (X2.out.2 3 _ rfl).1, (X2.out.2 4 _ rfl).1⟩
  go_wp2
  have R := Lib.hid ((((((BC.out.setCell (p := ⟨w.heap.size + 2, 0, none⟩) (by simp) (.slice X fx.length cx)).setCell (p := ⟨w.heap.size + 2, 1, none⟩) (by simp) (.slice Y fy.length cy)).setCell (p := ⟨w.heap.size + 2, 2, none⟩) (by simp) (.float .f32 r0)).setCell (p := ⟨w.heap.size + 2, 3, none⟩) (by simp) (.float .f32 r1)).setCell (p := ⟨w.heap.size + 2, 4, none⟩) (by simp) (.float .f32 r2)))
  have Q := Lib.hid ((((((M2.out.set (i := 0) (by simp) (.slice X fx.length cx)).set (i := 1) (by simp) (.slice Y fy.length cy)).set (i := 2) (by simp) (.float .f32 r0)).set (i := 3) (by simp) (.float .f32 r1)).set (i := 4) (by simp) (.float .f32 r2)))
  obtain ⟨c0, c1, c2, c3, c4⟩ : _ ∧ _ ∧ _ ∧ _ ∧ _ := ⟨(Q.out.2 0 _ rfl).1, (Q.out.2 1 _ rfl).1, (Q.out.2 2 _ rfl).1, (Q.out.2 3 _ rfl).1, (Q.out.2 4 _ rfl).1⟩
  have HR := Lib.hid (((((((HO.out.setV (p := ⟨w.heap.size + 2, 0, none⟩) (by show w.heap.size + 2 < _; have := K4.out; omega) (.slice X fx.length cx)).setV (p := ⟨w.heap.size + 2, 1, none⟩) (by show w.heap.size + 2 < _; have := K4.out; omega) (.slice Y fy.length cy)).setV (p := ⟨w.heap.size + 2, 2, none⟩) (by show w.heap.size + 2 < _; have := K4.out; omega) (.float .f32 r0)).setV (p := ⟨w.heap.size + 2, 3, none⟩) (by show w.heap.size + 2 < _; have := K4.out; omega) (.float .f32 r1)).setV (p := ⟨w.heap.size + 2, 4, none⟩) (by show w.heap.size + 2 < _; have := K4.out; omega) (.float .f32 r2))).baseV (B := w.heap.size) (by have := K4.out; omega))
  refine bodyPost_ret (v := .tuple #[.agg #[.slice X fx.length cx, .slice Y fy.length cy, .float .f32 r0, .float .f32 r1, .float .f32 r2], .bool true]) ?_ rfl ⟨⟨X, Y, cx, cy, gx, gy, rfl, HR.out⟩, R.out⟩
  simp [results, Tryz.results32, go_sem, c0, c1, c2, c3, c4]
set_option maxHeartbeats 8000000 in
theorem i_rvFarm_inv (s : ByteArray) (pv : Value) (w : World) (hs : s.size ≤ 1048576) (hE : EV w) (hT : T64 w) (hM : ML w) (hV : EMv pv w) (h : fmO s = true) (hv : frmV (fmX s) (fmY s) (fmN s 0) (fmN s 1) (fmN s 2) = false) :
    Calls Tryz.prog 32 #[.string s, .func (.func 33) #[] #[], .func (.func 34) #[] #[]] w fun e w' => e = .returned (.tuple #[.agg #[.slice none 0 0, .slice none 0 0, .float .f32 0, .float .f32 0, .float .f32 0], .bool false]) ∧ Below w.heap.size w w' := by
  have hmf : ∀ (fn : Fn) (first cap : Array Value) (w : World), (Instr.makeFunc fn first cap).run Tryz.prog w = .ok (.func fn first cap) w := fun _ _ _ _ => rfl
  obtain ⟨w5, h5⟩ : ∃ z, z = (((((w.alloc (.cells #[.string s] 9)).alloc (.cells #[.func (.func 34) #[] #[]] 59)).alloc (.cells #[.slice none 0 0, .slice none 0 0, .float .f32 0, .float .f32 0, .float .f32 0] 33)).alloc (.cells #[.slice none 0 0, .slice none 0 0, .float .f32 0, .float .f32 0, .float .f32 0] 33)).alloc (.cells #[.slice none 0 0, .slice none 0 0, .float .f32 0, .float .f32 0, .float .f32 0] 33)) := ⟨_, rfl⟩
  obtain ⟨k0, k1, k2, k3, k4, b5⟩ := five w (.string s) (.func (.func 34) #[] #[]) #[.slice none 0 0, .slice none 0 0, .float .f32 0, .float .f32 0, .float .f32 0] #[.slice none 0 0, .slice none 0 0, .float .f32 0, .float .f32 0, .float .f32 0] #[.slice none 0 0, .slice none 0 0, .float .f32 0, .float .f32 0, .float .f32 0] 9 59 33 33 33
  rw [← h5] at k0 k1 k2 k3 k4 b5
  have HC := Lib.hid (i_attFarm_yes (w.heap.size + 1) w.heap.size (w.heap.size + 4) s pv w w5 hs (hE.below b5) (hT.below b5) (hM.below b5) (hV.below b5) h k1 k0 k4 b5 (by omega))
  have HFW : Hid (FewS (fmX s) (fmY s)) := Lib.hid (fm_few s)
  have K2 := Lib.hid k2
  have K3 := Lib.hid k3
  have K4 := Lib.hid k4.1
  clear hs hE hT hM hV h k0 k1 k2 k3 k4 b5
  generalize fmX s = fx at HC hv HFW ⊢
  generalize fmY s = fy at HC hv HFW ⊢
  generalize fmN s 0 = r0 at HC hv HFW ⊢
  generalize fmN s 1 = r1 at HC hv HFW ⊢
  generalize fmN s 2 = r2 at HC hv HFW ⊢
  have HV := Lib.hid hv
  clear hv
  go_enter Tryz.func32, Tryz.ntmps32
  go_upto_region 2 with fail
  rw [← h5]
  clear h5
  go_wp2_with fail
  refine HC.out.mono ?_
  rintro e w6 ⟨rfl, hx, hk, hb⟩
  obtain ⟨X, Y, cx, cy, gx, gy, hx, ho⟩ := hx
  have X1 := Lib.hid hx
  have HO := Lib.hid ho
  have L2 := Lib.hid (hk _ _ (by have := K4.out; omega) (by omega) K2.out)
  have L3 := Lib.hid (hk _ _ (by have := K4.out; omega) (by omega) K3.out)
  have BB := Lib.hid hb
  clear hx ho hk hb HC K2 K3
  obtain ⟨u0, u1, u2, u3, u4⟩ : _ ∧ _ ∧ _ ∧ _ ∧ _ := ⟨(X1.out.2 0 _ rfl).1, (X1.out.2 1 _ rfl).1, (X1.out.2 2 _ rfl).1, (X1.out.2 3 _ rfl).1, (X1.out.2 4 _ rfl).1⟩
  go_wp2_with fail
  refine (i_ValidFarm X Y cx cy fx fy r0 r1 r2 _ ⟨HO.out.1.fl, HO.out.2.1.fl⟩ HFW.out).mono ?_
  rintro e w7 ⟨rfl, b7⟩
  rw [HV.out]
  clear u0 u1 u2 u3 u4
  have X2 := Lib.hid (X1.out.below b7)
  have HO := Lib.hid (HO.out.belowV b7)
  have M2 := Lib.hid (L2.out.below b7)
  have M3 := Lib.hid (L3.out.below b7)
  have BC := Lib.hid (below_of BB.out BB.out.size b7)
  clear b7 X1 L2 L3 BB HV HFW
  obtain ⟨⟨f0, g0⟩, ⟨f1, g1⟩, ⟨f2, g2⟩, ⟨f3, g3⟩, ⟨f4, g4⟩⟩ : (_ ∧ _) ∧ (_ ∧ _) ∧ (_ ∧ _) ∧ (_ ∧ _) ∧ (_ ∧ _) := ⟨M2.out.2 0 _ rfl, M2.out.2 1 _ rfl, M2.out.2 2 _ rfl, M2.out.2 3 _ rfl, M2.out.2 4 _ rfl⟩
  obtain ⟨u0, u1, u2, u3, u4⟩ : _ ∧ _ ∧ _ ∧ _ ∧ _ := ⟨(M3.out.2 0 _ rfl).1, (M3.out.2 1 _ rfl).1, (M3.out.2 2 _ rfl).1, (M3.out.2 3 _ rfl).1, (M3.out.2 4 _ rfl).1⟩
  go_wp2
  have R := Lib.hid ((((((BC.out.setCell (p := ⟨w.heap.size + 2, 0, none⟩) (by simp) (.slice none 0 0)).setCell (p := ⟨w.heap.size + 2, 1, none⟩) (by simp) (.slice none 0 0)).setCell (p := ⟨w.heap.size + 2, 2, none⟩) (by simp) (.float .f32 0)).setCell (p := ⟨w.heap.size + 2, 3, none⟩) (by simp) (.float .f32 0)).setCell (p := ⟨w.heap.size + 2, 4, none⟩) (by simp) (.float .f32 0)))
  have Q := Lib.hid ((((((M2.out.set (i := 0) (by simp) (.slice none 0 0)).set (i := 1) (by simp) (.slice none 0 0)).set (i := 2) (by simp) (.float .f32 0)).set (i := 3) (by simp) (.float .f32 0)).set (i := 4) (by simp) (.float .f32 0)))
  obtain ⟨c0, c1, c2, c3, c4⟩ : _ ∧ _ ∧ _ ∧ _ ∧ _ := ⟨(Q.out.2 0 _ rfl).1, (Q.out.2 1 _ rfl).1, (Q.out.2 2 _ rfl).1, (Q.out.2 3 _ rfl).1, (Q.out.2 4 _ rfl).1⟩
  refine bodyPost_ret (v := .tuple #[.agg #[.slice none 0 0, .slice none 0 0, .float .f32 0, .float .f32 0, .float .f32 0], .bool false]) ?_ rfl ⟨rfl, R.out⟩
  simp [results, Tryz.results32, go_sem, c0, c1, c2, c3, c4]
set_option maxHeartbeats 8000000 in
theorem i_rvFarm_no (s : ByteArray) (pv : Value) (w : World) (hs : s.size ≤ 1048576) (hE : EV w) (hT : T64 w) (hM : ML w) (hV : EMv pv w) (h : fmO s = false) :
    Calls Tryz.prog 32 #[.string s, .func (.func 33) #[] #[], .func (.func 34) #[] #[]] w fun e w' => e = .returned (.tuple #[.agg #[.slice none 0 0, .slice none 0 0, .float .f32 0, .float .f32 0, .float .f32 0], .bool false]) ∧ Below w.heap.size w w' := by
  have hmf : ∀ (fn : Fn) (first cap : Array Value) (w : World), (Instr.makeFunc fn first cap).run Tryz.prog w = .ok (.func fn first cap) w := fun _ _ _ _ => rfl
  obtain ⟨w5, h5⟩ : ∃ z, z = (((((w.alloc (.cells #[.string s] 9)).alloc (.cells #[.func (.func 34) #[] #[]] 59)).alloc (.cells #[.slice none 0 0, .slice none 0 0, .float .f32 0, .float .f32 0, .float .f32 0] 33)).alloc (.cells #[.slice none 0 0, .slice none 0 0, .float .f32 0, .float .f32 0, .float .f32 0] 33)).alloc (.cells #[.slice none 0 0, .slice none 0 0, .float .f32 0, .float .f32 0, .float .f32 0] 33)) := ⟨_, rfl⟩
  obtain ⟨k0, k1, k2, k3, k4, b5⟩ := five w (.string s) (.func (.func 34) #[] #[]) #[.slice none 0 0, .slice none 0 0, .float .f32 0, .float .f32 0, .float .f32 0] #[.slice none 0 0, .slice none 0 0, .float .f32 0, .float .f32 0, .float .f32 0] #[.slice none 0 0, .slice none 0 0, .float .f32 0, .float .f32 0, .float .f32 0] 9 59 33 33 33
  rw [← h5] at k0 k1 k2 k3 k4 b5
  have HC := Lib.hid (i_attFarm_no (w.heap.size + 1) w.heap.size (w.heap.size + 4) s pv w5 hs (hE.below b5) (hT.below b5) (hM.below b5) (hV.below b5) h k1 k0)
  have K2 := Lib.hid k2
  have K3 := Lib.hid k3
  have B5 := Lib.hid b5
  clear hs hE hT hM hV h k0 k1 k2 k3 k4 b5
  go_enter Tryz.func32, Tryz.ntmps32
  go_upto_region 2 with fail
  rw [← h5]
  clear h5
  go_wp2_with fail
  refine HC.out.mono ?_
  rintro e w7 ⟨rfl, b7⟩
  have M2 := Lib.hid (K2.out.below b7)
  have M3 := Lib.hid (K3.out.below b7)
  have BC := Lib.hid (below_of B5.out B5.out.size b7)
  clear b7 HC K2 K3 B5
  obtain ⟨⟨f0, g0⟩, ⟨f1, g1⟩, ⟨f2, g2⟩, ⟨f3, g3⟩, ⟨f4, g4⟩⟩ : (_ ∧ _) ∧ (_ ∧ _) ∧ (_ ∧ _) ∧ (_ ∧ _) ∧ (_ ∧ _) := ⟨M2.out.2 0 _ rfl, M2.out.2 1 _ rfl, M2.out.2 2 _ rfl, M2.out.2 3 _ rfl, M2.out.2 4 _ rfl⟩
  obtain ⟨u0, u1, u2, u3, u4⟩ : _ ∧ _ ∧ _ ∧ _ ∧ _ := ⟨(M3.out.2 0 _ rfl).1, (M3.out.2 1 _ rfl).1, (M3.out.2 2 _ rfl).1, (M3.out.2 3 _ rfl).1, (M3.out.2 4 _ rfl).1⟩
  go_wp2
  have R := Lib.hid ((((((BC.out.setCell (p := ⟨w.heap.size + 2, 0, none⟩) (by simp) (.slice none 0 0)).setCell (p := ⟨w.heap.size + 2, 1, none⟩) (by simp) (.slice none 0 0)).setCell (p := ⟨w.heap.size + 2, 2, none⟩) (by simp) (.float .f32 0)).setCell (p := ⟨w.heap.size + 2, 3, none⟩) (by simp) (.float .f32 0)).setCell (p := ⟨w.heap.size + 2, 4, none⟩) (by simp) (.float .f32 0)))
  have Q := Lib.hid ((((((M2.out.set (i := 0) (by simp) (.slice none 0 0)).set (i := 1) (by simp) (.slice none 0 0)).set (i := 2) (by simp) (.float .f32 0)).set (i := 3) (by simp) (.float .f32 0)).set (i := 4) (by simp) (.float .f32 0)))
  obtain ⟨c0, c1, c2, c3, c4⟩ : _ ∧ _ ∧ _ ∧ _ ∧ _ := ⟨(Q.out.2 0 _ rfl).1, (Q.out.2 1 _ rfl).1, (Q.out.2 2 _ rfl).1, (Q.out.2 3 _ rfl).1, (Q.out.2 4 _ rfl).1⟩
  refine bodyPost_ret (v := .tuple #[.agg #[.slice none 0 0, .slice none 0 0, .float .f32 0, .float .f32 0, .float .f32 0], .bool false]) ?_ rfl ⟨rfl, R.out⟩
  simp [results, Tryz.results32, go_sem, c0, c1, c2, c3, c4]
theorem FmV.zero (s : ByteArray) (lo : Nat) (w' : World) (hr : rfO s = false) : FmV lo (gL (rfO s) (fmX s)) (gL (rfO s) (fmY s)) (gF (rfO s) (fmN s 0)) (gF (rfO s) (fmN s 1)) (gF (rfO s) (fmN s 2)) (rfO s) (.returned (.tuple #[.agg #[.slice none 0 0, .slice none 0 0, .float .f32 0, .float .f32 0, .float .f32 0], .bool false])) w' := by
  rw [hr]
  exact ⟨none, none, 0, 0, 0, 1, rfl, .inl rfl, .inl rfl, by decide⟩
theorem FmV.full (s : ByteArray) (lo : Nat) (e : Ending) (w' : World) (hr : rfO s = true) (h : FmV lo (fmX s) (fmY s) (fmN s 0) (fmN s 1) (fmN s 2) true e w') : FmV lo (gL (rfO s) (fmX s)) (gL (rfO s) (fmY s)) (gF (rfO s) (fmN s 0)) (gF (rfO s) (fmN s 1)) (gF (rfO s) (fmN s 2)) (rfO s) e w' := by
  rw [hr]
  exact h
theorem i_rvFarm (s : ByteArray) (pv : Value) (w : World) (hs : s.size ≤ 1048576) (hE : EV w) (hT : T64 w) (hM : ML w) (hV : EMv pv w) :
    Calls Tryz.prog 32 #[.string s, .func (.func 33) #[] #[], .func (.func 34) #[] #[]] w fun e w' => FmV w.heap.size (gL (rfO s) (fmX s)) (gL (rfO s) (fmY s)) (gF (rfO s) (fmN s 0)) (gF (rfO s) (fmN s 1)) (gF (rfO s) (fmN s 2)) (rfO s) e w' ∧ Below w.heap.size w w' := by
  cases h : fmO s
  · have hr : rfO s = false := by unfold rfO; rw [h]; rfl
    refine (i_rvFarm_no s pv w hs hE hT hM hV h).mono ?_
    rintro e w' ⟨rfl, hb⟩
    exact ⟨FmV.zero s _ _ hr, hb⟩
  · cases hv : frmV (fmX s) (fmY s) (fmN s 0) (fmN s 1) (fmN s 2)
    · have hr : rfO s = false := by unfold rfO; rw [h, hv]; rfl
      refine (i_rvFarm_inv s pv w hs hE hT hM hV h hv).mono ?_
      rintro e w' ⟨rfl, hb⟩
      exact ⟨FmV.zero s _ _ hr, hb⟩
    · have hr : rfO s = true := by unfold rfO; rw [h, hv]; rfl
      refine (i_rvFarm_yes s pv w hs hE hT hM hV h hv).mono ?_
      rintro e w' ⟨he, hb⟩
      exact ⟨FmV.full s _ _ _ hr he, hb⟩
set_option maxHeartbeats 8000000 in
theorem i_ReadFarmV (s : ByteArray) (pv : Value) (w : World) (hs : s.size ≤ 1048576) (hE : EV w) (hT : T64 w) (hM : ML w) (hV : EMv pv w) :
    Calls Tryz.prog 11 #[.string s] w fun e w' => FmV w.heap.size (gL (rfO s) (fmX s)) (gL (rfO s) (fmY s)) (gF (rfO s) (fmN s 0)) (gF (rfO s) (fmN s 1)) (gF (rfO s) (fmN s 2)) (rfO s) e w' ∧ Below w.heap.size w w' := by
  obtain ⟨w0, hw0⟩ : ∃ z, z = w.alloc (.cells #[.slice none 0 0, .slice none 0 0, .float .f32 0, .float .f32 0, .float .f32 0] 33) := ⟨_, rfl⟩
  have b0 : Below w.heap.size w w0 := by rw [hw0]; exact (Below.refl _ _).alloc (Nat.le_refl _) _
  have HZ0 : Hid (w0.heap.size = w.heap.size + 1) := Lib.hid (by rw [hw0]; simp)
  have K0 : Hid (BlkL w0 w.heap.size [.slice none 0 0, .slice none 0 0, .float .f32 0, .float .f32 0, .float .f32 0]) := Lib.hid (by rw [hw0]; exact blkL_at w #[.slice none 0 0, .slice none 0 0, .float .f32 0, .float .f32 0, .float .f32 0] _ rfl)
  have HC := Lib.hid (i_rvFarm s pv w0 hs (hE.below b0) (hT.below b0) (hM.below b0) (hV.below b0))
  have B0 := Lib.hid b0
  clear hs hE hT hM hV b0
  generalize gL (rfO s) (fmX s) = fx at HC ⊢
  generalize gL (rfO s) (fmY s) = fy at HC ⊢
  generalize gF (rfO s) (fmN s 0) = r0 at HC ⊢
  generalize gF (rfO s) (fmN s 1) = r1 at HC ⊢
  generalize gF (rfO s) (fmN s 2) = r2 at HC ⊢
  generalize rfO s = bb at HC ⊢
  go_enter Tryz.func11, Tryz.ntmps11
  go_upto_region 1 with fail
  rw [← hw0]
  clear hw0
  go_wp2_with fail
  refine HC.out.mono ?_
  rintro e w1 ⟨hx, b1⟩
  obtain ⟨X, Y, cx, cy, gx, gy, rfl, ho⟩ := hx
  have K1 := Lib.hid (K0.out.below b1)
  have BB := Lib.hid (below_of B0.out B0.out.size b1)
  have HO := Lib.hid ho
  clear b1 ho K0 B0 HC
  obtain ⟨⟨f0, g0⟩, ⟨f1, g1⟩, ⟨f2, g2⟩, ⟨f3, g3⟩, ⟨f4, g4⟩⟩ : (_ ∧ _) ∧ (_ ∧ _) ∧ (_ ∧ _) ∧ (_ ∧ _) ∧ (_ ∧ _) := ⟨K1.out.2 0 _ rfl, K1.out.2 1 _ rfl, K1.out.2 2 _ rfl, K1.out.2 3 _ rfl, K1.out.2 4 _ rfl⟩
  go_wp2
  have R := Lib.hid ((((((BB.out.setCell (p := ⟨w.heap.size, 0, none⟩) (by simp) (.slice X fx.length cx)).setCell (p := ⟨w.heap.size, 1, none⟩) (by simp) (.slice Y fy.length cy)).setCell (p := ⟨w.heap.size, 2, none⟩) (by simp) (.float .f32 r0)).setCell (p := ⟨w.heap.size, 3, none⟩) (by simp) (.float .f32 r1)).setCell (p := ⟨w.heap.size, 4, none⟩) (by simp) (.float .f32 r2)))
  have Q := Lib.hid ((((((K1.out.set (i := 0) (by simp) (.slice X fx.length cx)).set (i := 1) (by simp) (.slice Y fy.length cy)).set (i := 2) (by simp) (.float .f32 r0)).set (i := 3) (by simp) (.float .f32 r1)).set (i := 4) (by simp) (.float .f32 r2)))
  have HR := Lib.hid (((((((HO.out.setV (p := ⟨w.heap.size, 0, none⟩) (by show w.heap.size < _; have := HZ0.out; omega) (.slice X fx.length cx)).setV (p := ⟨w.heap.size, 1, none⟩) (by show w.heap.size < _; have := HZ0.out; omega) (.slice Y fy.length cy)).setV (p := ⟨w.heap.size, 2, none⟩) (by show w.heap.size < _; have := HZ0.out; omega) (.float .f32 r0)).setV (p := ⟨w.heap.size, 3, none⟩) (by show w.heap.size < _; have := HZ0.out; omega) (.float .f32 r1)).setV (p := ⟨w.heap.size, 4, none⟩) (by show w.heap.size < _; have := HZ0.out; omega) (.float .f32 r2))).baseV (B := w.heap.size) (by have := HZ0.out; omega))
  obtain ⟨c0, c1, c2, c3, c4⟩ : _ ∧ _ ∧ _ ∧ _ ∧ _ := ⟨(Q.out.2 0 _ rfl).1, (Q.out.2 1 _ rfl).1, (Q.out.2 2 _ rfl).1, (Q.out.2 3 _ rfl).1, (Q.out.2 4 _ rfl).1⟩
  refine bodyPost_ret (v := .tuple #[.agg #[.slice X fx.length cx, .slice Y fy.length cy, .float .f32 r0, .float .f32 r1, .float .f32 r2], .bool bb]) ?_ rfl ⟨⟨X, Y, cx, cy, gx, gy, rfl, HR.out⟩, R.out⟩
  simp [results, Tryz.results11, go_sem, c0, c1, c2, c3, c4]
theorem i_ReadFarm (s : ByteArray) (pv : Value) (w : World) (hs : s.size ≤ 1048576) (hE : EV w) (hT : T64 w) (hM : ML w) (hV : EMv pv w) :
    Calls Tryz.prog 11 #[.string s] w fun e w' => ∃ (R1 R2 : Option Addr) (c1 c2 g1 g2 : Nat), e = .returned (.tuple #[.agg #[.slice R1 (gL (rfO s) (fmX s)).length c1, .slice R2 (gL (rfO s) (fmY s)).length c2, .float .f32 (gF (rfO s) (fmN s 0)), .float .f32 (gF (rfO s) (fmN s 1)), .float .f32 (gF (rfO s) (fmN s 2))], .bool (rfO s)]) ∧ OwnR2 w' w.heap.size R1 R2 g1 g2 (gL (rfO s) (fmX s)) (gL (rfO s) (fmY s)) ∧ Below w.heap.size w w' := by
  refine (i_ReadFarmV s pv w hs hE hT hM hV).mono ?_
  rintro e w' ⟨hx, hb⟩
  obtain ⟨X, Y, cx, cy, gx, gy, he, ho⟩ := hx
  exact ⟨X, Y, cx, cy, gx, gy, he, ho, hb⟩
end Go.Proofs.YtknabmknboffgaaGreatDoor
namespace Go.Proofs.YtknabmknboffgaaGreatDoor
open Go Go.RowKit
set_option maxHeartbeats 8000000 in
set_option maxRecDepth 100000 in
theorem s_l08ReadFarm_cut (s : ByteArray) (w : World) (hs : s.size ≤ 1048576) (hl : (cutS 59 s).length ≠ 3) :
    Calls Tryz.prog 31 #[.string s] w fun e w' => e = .returned (.tuple #[.agg #[.slice none 0 0, .slice none 0 0, .float .f32 0, .float .f32 0, .float .f32 0], .bool false]) ∧ Below w.heap.size w w' := by
  obtain ⟨w0, hw0⟩ : ∃ z, z = w.alloc (.cells #[.slice none 0 0, .slice none 0 0, .float .f32 0, .float .f32 0, .float .f32 0] 33) := ⟨_, rfl⟩
  have b0 : Below w.heap.size w w0 := by rw [hw0]; exact (Below.refl _ _).alloc (Nat.le_refl _) _
  have HZ0 : Hid (w0.heap.size = w.heap.size + 1) := Lib.hid (by rw [hw0]; simp)
  have K0 : Hid (BlkL w0 w.heap.size [.slice none 0 0, .slice none 0 0, .float .f32 0, .float .f32 0, .float .f32 0]) := Lib.hid (by rw [hw0]; exact blkL_at w #[.slice none 0 0, .slice none 0 0, .float .f32 0, .float .f32 0, .float .f32 0] _ rfl)
  have B0 := Lib.hid b0
  have HC : Hid (Calls Tryz.prog 49 #[.string s, .int .u8 59] w0 fun e w' => ∃ v, e = .returned v ∧ GrS w' w0.heap.size v (cutS 59 s) ∧ Below w0.heap.size w0 w') := Lib.hid (s_l01Cut 59 s w0 hs)
  clear b0
  have heq : (((cutS 59 s).length : Int) == 3) = false := beq_eq_false_iff_ne.2 (by omega)
  go_enter Tryz.func31, Tryz.ntmps31
  go_upto_region 1 with fail
  rw [← hw0]
  clear hw0
  go_wp2_with fail
  refine HC.out.mono ?_
  rintro e w1 ⟨v, rfl, hg, b1⟩
  obtain ⟨pb, pc, rfl, hlo, hlt1, -, -, hcell⟩ := hg.own (by intro e; have := cutS_pos 59 s; rw [e] at this; simp at this)
  have K1 := Lib.hid (K0.out.below b1)
  have BB := Lib.hid (below_of B0.out B0.out.size b1)
  have HS1 := Lib.hid b1.size
  clear hg hcell b1 HC B0 K0 hlt1 hlo hs hl HS1
  generalize (cutS 59 s).length = pl at *
  obtain ⟨⟨f0, g0⟩, ⟨f1, g1⟩, ⟨f2, g2⟩, ⟨f3, g3⟩, ⟨f4, g4⟩⟩ : (_ ∧ _) ∧ (_ ∧ _) ∧ (_ ∧ _) ∧ (_ ∧ _) ∧ (_ ∧ _) := ⟨K1.out.2 0 _ rfl, K1.out.2 1 _ rfl, K1.out.2 2 _ rfl, K1.out.2 3 _ rfl, K1.out.2 4 _ rfl⟩
  go_wp2
  have R := Lib.hid ((((((BB.out.setCell (p := ⟨w.heap.size, 0, none⟩) (by simp) (.slice none 0 0)).setCell (p := ⟨w.heap.size, 1, none⟩) (by simp) (.slice none 0 0)).setCell (p := ⟨w.heap.size, 2, none⟩) (by simp) (.float .f32 0)).setCell (p := ⟨w.heap.size, 3, none⟩) (by simp) (.float .f32 0)).setCell (p := ⟨w.heap.size, 4, none⟩) (by simp) (.float .f32 0)))
  have Q := Lib.hid ((((((K1.out.set (i := 0) (by simp) (.slice none 0 0)).set (i := 1) (by simp) (.slice none 0 0)).set (i := 2) (by simp) (.float .f32 0)).set (i := 3) (by simp) (.float .f32 0)).set (i := 4) (by simp) (.float .f32 0)))
  obtain ⟨c0, c1, c2, c3, c4⟩ : _ ∧ _ ∧ _ ∧ _ ∧ _ := ⟨(Q.out.2 0 _ rfl).1, (Q.out.2 1 _ rfl).1, (Q.out.2 2 _ rfl).1, (Q.out.2 3 _ rfl).1, (Q.out.2 4 _ rfl).1⟩
  refine bodyPost_ret (v := .tuple #[.agg #[.slice none 0 0, .slice none 0 0, .float .f32 0, .float .f32 0, .float .f32 0], .bool false]) ?_ rfl ⟨rfl, R.out⟩
  simp [results, Tryz.results31, go_sem, c0, c1, c2, c3, c4]
set_option maxHeartbeats 8000000 in
set_option maxRecDepth 100000 in
theorem s_l08ReadFarm_one (s : ByteArray) (w : World) (hs : s.size ≤ 1048576) (hl : (cutS 59 s).length = 3) (ho0 : nmO (pcs 59 s 0) = false) :
    Calls Tryz.prog 31 #[.string s] w fun e w' => e = .returned (.tuple #[.agg #[.slice none 0 0, .slice none 0 0, .float .f32 0, .float .f32 0, .float .f32 0], .bool false]) ∧ Below w.heap.size w w' := by
  obtain ⟨w0, hw0⟩ : ∃ z, z = w.alloc (.cells #[.slice none 0 0, .slice none 0 0, .float .f32 0, .float .f32 0, .float .f32 0] 33) := ⟨_, rfl⟩
  have b0 : Below w.heap.size w w0 := by rw [hw0]; exact (Below.refl _ _).alloc (Nat.le_refl _) _
  have HZ0 : Hid (w0.heap.size = w.heap.size + 1) := Lib.hid (by rw [hw0]; simp)
  have K0 : Hid (BlkL w0 w.heap.size [.slice none 0 0, .slice none 0 0, .float .f32 0, .float .f32 0, .float .f32 0]) := Lib.hid (by rw [hw0]; exact blkL_at w #[.slice none 0 0, .slice none 0 0, .float .f32 0, .float .f32 0, .float .f32 0] _ rfl)
  have B0 := Lib.hid b0
  have HC : Hid (Calls Tryz.prog 49 #[.string s, .int .u8 59] w0 fun e w' => ∃ v, e = .returned v ∧ GrS w' w0.heap.size v (cutS 59 s) ∧ Below w0.heap.size w0 w') := Lib.hid (s_l01Cut 59 s w0 hs)
  clear b0
  have HPS : Hid ((cutS 59 s)[0]? = some (pcs 59 s 0) ∧ (cutS 59 s)[1]? = some (pcs 59 s 1) ∧ (cutS 59 s)[2]? = some (pcs 59 s 2)) := Lib.hid ⟨pcs_at hl (by decide), pcs_at hl (by decide), pcs_at hl (by decide)⟩
  have HL3 := Lib.hid hl
  have HR0 : Hid (∀ W, Calls Tryz.prog 50 #[.string (pcs 59 s 0)] W fun e w' => ∃ R1 c1 g1, e = .returned (.tuple #[.slice R1 (nmL (pcs 59 s 0)).length c1, .bool false]) ∧ OwnO w' W.heap.size R1 g1 (nmL (pcs 59 s 0)) ∧ Below W.heap.size W w') := Lib.hid (fun W => by have h := s_l01NRead (pcs 59 s 0) W (Nat.le_trans (pcs_size _ _ _) hs); rw [ho0] at h; exact h)
  have HR1 : Hid (∀ W, Calls Tryz.prog 50 #[.string (pcs 59 s 1)] W fun e w' => ∃ R1 c1 g1, e = .returned (.tuple #[.slice R1 (nmL (pcs 59 s 1)).length c1, .bool (nmO (pcs 59 s 1))]) ∧ OwnO w' W.heap.size R1 g1 (nmL (pcs 59 s 1)) ∧ Below W.heap.size W w') := Lib.hid (fun W => by have h := s_l01NRead (pcs 59 s 1) W (Nat.le_trans (pcs_size _ _ _) hs); exact h)
  have HR2 : Hid (∀ W, Calls Tryz.prog 50 #[.string (pcs 59 s 2)] W fun e w' => ∃ R1 c1 g1, e = .returned (.tuple #[.slice R1 (nmL (pcs 59 s 2)).length c1, .bool (nmO (pcs 59 s 2))]) ∧ OwnO w' W.heap.size R1 g1 (nmL (pcs 59 s 2)) ∧ Below W.heap.size W w') := Lib.hid (fun W => by have h := s_l01NRead (pcs 59 s 2) W (Nat.le_trans (pcs_size _ _ _) hs); exact h)
  clear hs hl ho0
  generalize pcs 59 s 0 = a0 at *
  generalize pcs 59 s 1 = a1 at *
  generalize pcs 59 s 2 = a2 at *
  go_enter Tryz.func31, Tryz.ntmps31
  go_upto_region 1 with fail
  rw [← hw0]
  clear hw0
  go_wp2_with fail
  refine HC.out.mono ?_
  rintro e w1 ⟨v, rfl, hg, b1⟩
  obtain ⟨pb, pc, rfl, hlo, hlt1, -, -, hcell⟩ := hg.own (by intro e; have := cutS_pos 59 s; rw [e] at this; simp at this)
  have K1 := Lib.hid (K0.out.below b1)
  have BB := Lib.hid (below_of B0.out B0.out.size b1)
  have HS1 := Lib.hid b1.size
  have HP : Hid (∀ W, Below w1.heap.size w1 W → W.cell? ⟨pb, 0, none⟩ = some (.string a0) ∧ W.cell? ⟨pb, 1, none⟩ = some (.string a1) ∧ W.cell? ⟨pb, 2, none⟩ = some (.string a2)) := Lib.hid (fun W hb => ⟨(hb.cell (p := ⟨pb, 0, none⟩) hlt1).trans (hcell 0 _ HPS.out.1), (hb.cell (p := ⟨pb, 1, none⟩) hlt1).trans (hcell 1 _ HPS.out.2.1), (hb.cell (p := ⟨pb, 2, none⟩) hlt1).trans (hcell 2 _ HPS.out.2.2)⟩)
  rw [HL3.out]
  clear hg hcell b1 HC B0 K0 HPS hlt1 hlo HL3
  obtain ⟨m0, m1, m2⟩ := HP.out _ (Below.refl _ _)
  go_wp2_with fail
  refine (HR0.out _).mono ?_
  rintro e w2 ⟨RA, cA, gA, rfl, hoA, b2⟩
  have B2 := Lib.hid b2
  have OA2 := Lib.hid hoA
  clear hoA b2 m0 m1 m2 HR0
  obtain ⟨m0, m1, m2⟩ := HP.out _ B2.out
  go_wp2_with fail
  refine (HR1.out _).mono ?_
  rintro e w3 ⟨RB, cB, gB, rfl, hoB, b3⟩
  have B3 := Lib.hid (below_of B2.out B2.out.size b3)
  have C3 := Lib.hid b3
  have OB3 := Lib.hid hoB
  clear hoB b3 m0 m1 m2 HR1
  obtain ⟨m0, m1, m2⟩ := HP.out _ B3.out
  go_wp2_with fail
  refine (HR2.out _).mono ?_
  rintro e w4 ⟨RC, cC, gC, rfl, hoC, b4⟩
  have C4 := Lib.hid b4
  have OC4 := Lib.hid hoC
  have B4 := Lib.hid (below_of B3.out B3.out.size b4)
  have K4 := Lib.hid (K1.out.below B4.out)
  have BC := Lib.hid (below_of BB.out BB.out.size B4.out)
  clear hoC b4 m0 m1 m2 HR2 HP K1 BB B4
  clear OA2 OB3 OC4 B2 B3 C3 C4 HS1
  obtain ⟨⟨f0, g0⟩, ⟨f1, g1⟩, ⟨f2, g2⟩, ⟨f3, g3⟩, ⟨f4, g4⟩⟩ : (_ ∧ _) ∧ (_ ∧ _) ∧ (_ ∧ _) ∧ (_ ∧ _) ∧ (_ ∧ _) := ⟨K4.out.2 0 _ rfl, K4.out.2 1 _ rfl, K4.out.2 2 _ rfl, K4.out.2 3 _ rfl, K4.out.2 4 _ rfl⟩
  go_wp2
  have R := Lib.hid ((((((BC.out.setCell (p := ⟨w.heap.size, 0, none⟩) (by simp) (.slice none 0 0)).setCell (p := ⟨w.heap.size, 1, none⟩) (by simp) (.slice none 0 0)).setCell (p := ⟨w.heap.size, 2, none⟩) (by simp) (.float .f32 0)).setCell (p := ⟨w.heap.size, 3, none⟩) (by simp) (.float .f32 0)).setCell (p := ⟨w.heap.size, 4, none⟩) (by simp) (.float .f32 0)))
  have Q := Lib.hid ((((((K4.out.set (i := 0) (by simp) (.slice none 0 0)).set (i := 1) (by simp) (.slice none 0 0)).set (i := 2) (by simp) (.float .f32 0)).set (i := 3) (by simp) (.float .f32 0)).set (i := 4) (by simp) (.float .f32 0)))
  obtain ⟨c0, c1, c2, c3, c4⟩ : _ ∧ _ ∧ _ ∧ _ ∧ _ := ⟨(Q.out.2 0 _ rfl).1, (Q.out.2 1 _ rfl).1, (Q.out.2 2 _ rfl).1, (Q.out.2 3 _ rfl).1, (Q.out.2 4 _ rfl).1⟩
  refine bodyPost_ret (v := .tuple #[.agg #[.slice none 0 0, .slice none 0 0, .float .f32 0, .float .f32 0, .float .f32 0], .bool false]) ?_ rfl ⟨rfl, R.out⟩
  simp [results, Tryz.results31, go_sem, c0, c1, c2, c3, c4]
set_option maxHeartbeats 8000000 in
set_option maxRecDepth 100000 in
theorem s_l08ReadFarm_two (s : ByteArray) (w : World) (hs : s.size ≤ 1048576) (hl : (cutS 59 s).length = 3) (ho0 : nmO (pcs 59 s 0) = true) (ho1 : nmO (pcs 59 s 1) = false) :
    Calls Tryz.prog 31 #[.string s] w fun e w' => e = .returned (.tuple #[.agg #[.slice none 0 0, .slice none 0 0, .float .f32 0, .float .f32 0, .float .f32 0], .bool false]) ∧ Below w.heap.size w w' := by
  obtain ⟨w0, hw0⟩ : ∃ z, z = w.alloc (.cells #[.slice none 0 0, .slice none 0 0, .float .f32 0, .float .f32 0, .float .f32 0] 33) := ⟨_, rfl⟩
  have b0 : Below w.heap.size w w0 := by rw [hw0]; exact (Below.refl _ _).alloc (Nat.le_refl _) _
  have HZ0 : Hid (w0.heap.size = w.heap.size + 1) := Lib.hid (by rw [hw0]; simp)
  have K0 : Hid (BlkL w0 w.heap.size [.slice none 0 0, .slice none 0 0, .float .f32 0, .float .f32 0, .float .f32 0]) := Lib.hid (by rw [hw0]; exact blkL_at w #[.slice none 0 0, .slice none 0 0, .float .f32 0, .float .f32 0, .float .f32 0] _ rfl)
  have B0 := Lib.hid b0
  have HC : Hid (Calls Tryz.prog 49 #[.string s, .int .u8 59] w0 fun e w' => ∃ v, e = .returned v ∧ GrS w' w0.heap.size v (cutS 59 s) ∧ Below w0.heap.size w0 w') := Lib.hid (s_l01Cut 59 s w0 hs)
  clear b0
  have HPS : Hid ((cutS 59 s)[0]? = some (pcs 59 s 0) ∧ (cutS 59 s)[1]? = some (pcs 59 s 1) ∧ (cutS 59 s)[2]? = some (pcs 59 s 2)) := Lib.hid ⟨pcs_at hl (by decide), pcs_at hl (by decide), pcs_at hl (by decide)⟩
  have HL3 := Lib.hid hl
  have HR0 : Hid (∀ W, Calls Tryz.prog 50 #[.string (pcs 59 s 0)] W fun e w' => ∃ R1 c1 g1, e = .returned (.tuple #[.slice R1 (nmL (pcs 59 s 0)).length c1, .bool true]) ∧ OwnO w' W.heap.size R1 g1 (nmL (pcs 59 s 0)) ∧ Below W.heap.size W w') := Lib.hid (fun W => by have h := s_l01NRead (pcs 59 s 0) W (Nat.le_trans (pcs_size _ _ _) hs); rw [ho0] at h; exact h)
  have HR1 : Hid (∀ W, Calls Tryz.prog 50 #[.string (pcs 59 s 1)] W fun e w' => ∃ R1 c1 g1, e = .returned (.tuple #[.slice R1 (nmL (pcs 59 s 1)).length c1, .bool false]) ∧ OwnO w' W.heap.size R1 g1 (nmL (pcs 59 s 1)) ∧ Below W.heap.size W w') := Lib.hid (fun W => by have h := s_l01NRead (pcs 59 s 1) W (Nat.le_trans (pcs_size _ _ _) hs); rw [ho1] at h; exact h)
  have HR2 : Hid (∀ W, Calls Tryz.prog 50 #[.string (pcs 59 s 2)] W fun e w' => ∃ R1 c1 g1, e = .returned (.tuple #[.slice R1 (nmL (pcs 59 s 2)).length c1, .bool (nmO (pcs 59 s 2))]) ∧ OwnO w' W.heap.size R1 g1 (nmL (pcs 59 s 2)) ∧ Below W.heap.size W w') := Lib.hid (fun W => by have h := s_l01NRead (pcs 59 s 2) W (Nat.le_trans (pcs_size _ _ _) hs); exact h)
  clear hs hl ho0 ho1
  generalize pcs 59 s 0 = a0 at *
  generalize pcs 59 s 1 = a1 at *
  generalize pcs 59 s 2 = a2 at *
  go_enter Tryz.func31, Tryz.ntmps31
  go_upto_region 1 with fail
  rw [← hw0]
  clear hw0
  go_wp2_with fail
  refine HC.out.mono ?_
  rintro e w1 ⟨v, rfl, hg, b1⟩
  obtain ⟨pb, pc, rfl, hlo, hlt1, -, -, hcell⟩ := hg.own (by intro e; have := cutS_pos 59 s; rw [e] at this; simp at this)
  have K1 := Lib.hid (K0.out.below b1)
  have BB := Lib.hid (below_of B0.out B0.out.size b1)
  have HS1 := Lib.hid b1.size
  have HP : Hid (∀ W, Below w1.heap.size w1 W → W.cell? ⟨pb, 0, none⟩ = some (.string a0) ∧ W.cell? ⟨pb, 1, none⟩ = some (.string a1) ∧ W.cell? ⟨pb, 2, none⟩ = some (.string a2)) := Lib.hid (fun W hb => ⟨(hb.cell (p := ⟨pb, 0, none⟩) hlt1).trans (hcell 0 _ HPS.out.1), (hb.cell (p := ⟨pb, 1, none⟩) hlt1).trans (hcell 1 _ HPS.out.2.1), (hb.cell (p := ⟨pb, 2, none⟩) hlt1).trans (hcell 2 _ HPS.out.2.2)⟩)
  rw [HL3.out]
  clear hg hcell b1 HC B0 K0 HPS hlt1 hlo HL3
  obtain ⟨m0, m1, m2⟩ := HP.out _ (Below.refl _ _)
  go_wp2_with fail
  refine (HR0.out _).mono ?_
  rintro e w2 ⟨RA, cA, gA, rfl, hoA, b2⟩
  have B2 := Lib.hid b2
  have OA2 := Lib.hid hoA
  clear hoA b2 m0 m1 m2 HR0
  obtain ⟨m0, m1, m2⟩ := HP.out _ B2.out
  go_wp2_with fail
  refine (HR1.out _).mono ?_
  rintro e w3 ⟨RB, cB, gB, rfl, hoB, b3⟩
  have B3 := Lib.hid (below_of B2.out B2.out.size b3)
  have C3 := Lib.hid b3
  have OB3 := Lib.hid hoB
  clear hoB b3 m0 m1 m2 HR1
  obtain ⟨m0, m1, m2⟩ := HP.out _ B3.out
  go_wp2_with fail
  refine (HR2.out _).mono ?_
  rintro e w4 ⟨RC, cC, gC, rfl, hoC, b4⟩
  have C4 := Lib.hid b4
  have OC4 := Lib.hid hoC
  have B4 := Lib.hid (below_of B3.out B3.out.size b4)
  have K4 := Lib.hid (K1.out.below B4.out)
  have BC := Lib.hid (below_of BB.out BB.out.size B4.out)
  clear hoC b4 m0 m1 m2 HR2 HP K1 BB B4
  clear OA2 OB3 OC4 B2 B3 C3 C4 HS1
  obtain ⟨⟨f0, g0⟩, ⟨f1, g1⟩, ⟨f2, g2⟩, ⟨f3, g3⟩, ⟨f4, g4⟩⟩ : (_ ∧ _) ∧ (_ ∧ _) ∧ (_ ∧ _) ∧ (_ ∧ _) ∧ (_ ∧ _) := ⟨K4.out.2 0 _ rfl, K4.out.2 1 _ rfl, K4.out.2 2 _ rfl, K4.out.2 3 _ rfl, K4.out.2 4 _ rfl⟩
  go_wp2
  have R := Lib.hid ((((((BC.out.setCell (p := ⟨w.heap.size, 0, none⟩) (by simp) (.slice none 0 0)).setCell (p := ⟨w.heap.size, 1, none⟩) (by simp) (.slice none 0 0)).setCell (p := ⟨w.heap.size, 2, none⟩) (by simp) (.float .f32 0)).setCell (p := ⟨w.heap.size, 3, none⟩) (by simp) (.float .f32 0)).setCell (p := ⟨w.heap.size, 4, none⟩) (by simp) (.float .f32 0)))
  have Q := Lib.hid ((((((K4.out.set (i := 0) (by simp) (.slice none 0 0)).set (i := 1) (by simp) (.slice none 0 0)).set (i := 2) (by simp) (.float .f32 0)).set (i := 3) (by simp) (.float .f32 0)).set (i := 4) (by simp) (.float .f32 0)))
  obtain ⟨c0, c1, c2, c3, c4⟩ : _ ∧ _ ∧ _ ∧ _ ∧ _ := ⟨(Q.out.2 0 _ rfl).1, (Q.out.2 1 _ rfl).1, (Q.out.2 2 _ rfl).1, (Q.out.2 3 _ rfl).1, (Q.out.2 4 _ rfl).1⟩
  refine bodyPost_ret (v := .tuple #[.agg #[.slice none 0 0, .slice none 0 0, .float .f32 0, .float .f32 0, .float .f32 0], .bool false]) ?_ rfl ⟨rfl, R.out⟩
  simp [results, Tryz.results31, go_sem, c0, c1, c2, c3, c4]
set_option maxHeartbeats 8000000 in
set_option maxRecDepth 100000 in
theorem s_l08ReadFarm_three (s : ByteArray) (w : World) (hs : s.size ≤ 1048576) (hl : (cutS 59 s).length = 3) (ho0 : nmO (pcs 59 s 0) = true) (ho1 : nmO (pcs 59 s 1) = true) (ho2 : nmO (pcs 59 s 2) = false) :
    Calls Tryz.prog 31 #[.string s] w fun e w' => e = .returned (.tuple #[.agg #[.slice none 0 0, .slice none 0 0, .float .f32 0, .float .f32 0, .float .f32 0], .bool false]) ∧ Below w.heap.size w w' := by
  obtain ⟨w0, hw0⟩ : ∃ z, z = w.alloc (.cells #[.slice none 0 0, .slice none 0 0, .float .f32 0, .float .f32 0, .float .f32 0] 33) := ⟨_, rfl⟩
  have b0 : Below w.heap.size w w0 := by rw [hw0]; exact (Below.refl _ _).alloc (Nat.le_refl _) _
  have HZ0 : Hid (w0.heap.size = w.heap.size + 1) := Lib.hid (by rw [hw0]; simp)
  have K0 : Hid (BlkL w0 w.heap.size [.slice none 0 0, .slice none 0 0, .float .f32 0, .float .f32 0, .float .f32 0]) := Lib.hid (by rw [hw0]; exact blkL_at w #[.slice none 0 0, .slice none 0 0, .float .f32 0, .float .f32 0, .float .f32 0] _ rfl)
  have B0 := Lib.hid b0
  have HC : Hid (Calls Tryz.prog 49 #[.string s, .int .u8 59] w0 fun e w' => ∃ v, e = .returned v ∧ GrS w' w0.heap.size v (cutS 59 s) ∧ Below w0.heap.size w0 w') := Lib.hid (s_l01Cut 59 s w0 hs)
  clear b0
  have HPS : Hid ((cutS 59 s)[0]? = some (pcs 59 s 0) ∧ (cutS 59 s)[1]? = some (pcs 59 s 1) ∧ (cutS 59 s)[2]? = some (pcs 59 s 2)) := Lib.hid ⟨pcs_at hl (by decide), pcs_at hl (by decide), pcs_at hl (by decide)⟩
  have HL3 := Lib.hid hl
  have HR0 : Hid (∀ W, Calls Tryz.prog 50 #[.string (pcs 59 s 0)] W fun e w' => ∃ R1 c1 g1, e = .returned (.tuple #[.slice R1 (nmL (pcs 59 s 0)).length c1, .bool true]) ∧ OwnO w' W.heap.size R1 g1 (nmL (pcs 59 s 0)) ∧ Below W.heap.size W w') := Lib.hid (fun W => by have h := s_l01NRead (pcs 59 s 0) W (Nat.le_trans (pcs_size _ _ _) hs); rw [ho0] at h; exact h)
  have HR1 : Hid (∀ W, Calls Tryz.prog 50 #[.string (pcs 59 s 1)] W fun e w' => ∃ R1 c1 g1, e = .returned (.tuple #[.slice R1 (nmL (pcs 59 s 1)).length c1, .bool true]) ∧ OwnO w' W.heap.size R1 g1 (nmL (pcs 59 s 1)) ∧ Below W.heap.size W w') := Lib.hid (fun W => by have h := s_l01NRead (pcs 59 s 1) W (Nat.le_trans (pcs_size _ _ _) hs); rw [ho1] at h; exact h)
  have HR2 : Hid (∀ W, Calls Tryz.prog 50 #[.string (pcs 59 s 2)] W fun e w' => ∃ R1 c1 g1, e = .returned (.tuple #[.slice R1 (nmL (pcs 59 s 2)).length c1, .bool false]) ∧ OwnO w' W.heap.size R1 g1 (nmL (pcs 59 s 2)) ∧ Below W.heap.size W w') := Lib.hid (fun W => by have h := s_l01NRead (pcs 59 s 2) W (Nat.le_trans (pcs_size _ _ _) hs); rw [ho2] at h; exact h)
  clear hs hl ho0 ho1 ho2
  generalize pcs 59 s 0 = a0 at *
  generalize pcs 59 s 1 = a1 at *
  generalize pcs 59 s 2 = a2 at *
  go_enter Tryz.func31, Tryz.ntmps31
  go_upto_region 1 with fail
  rw [← hw0]
  clear hw0
  go_wp2_with fail
  refine HC.out.mono ?_
  rintro e w1 ⟨v, rfl, hg, b1⟩
  obtain ⟨pb, pc, rfl, hlo, hlt1, -, -, hcell⟩ := hg.own (by intro e; have := cutS_pos 59 s; rw [e] at this; simp at this)
  have K1 := Lib.hid (K0.out.below b1)
  have BB := Lib.hid (below_of B0.out B0.out.size b1)
  have HS1 := Lib.hid b1.size
  have HP : Hid (∀ W, Below w1.heap.size w1 W → W.cell? ⟨pb, 0, none⟩ = some (.string a0) ∧ W.cell? ⟨pb, 1, none⟩ = some (.string a1) ∧ W.cell? ⟨pb, 2, none⟩ = some (.string a2)) := Lib.hid (fun W hb => ⟨(hb.cell (p := ⟨pb, 0, none⟩) hlt1).trans (hcell 0 _ HPS.out.1), (hb.cell (p := ⟨pb, 1, none⟩) hlt1).trans (hcell 1 _ HPS.out.2.1), (hb.cell (p := ⟨pb, 2, none⟩) hlt1).trans (hcell 2 _ HPS.out.2.2)⟩)
  rw [HL3.out]
  clear hg hcell b1 HC B0 K0 HPS hlt1 hlo HL3
  obtain ⟨m0, m1, m2⟩ := HP.out _ (Below.refl _ _)
  go_wp2_with fail
  refine (HR0.out _).mono ?_
  rintro e w2 ⟨RA, cA, gA, rfl, hoA, b2⟩
  have B2 := Lib.hid b2
  have OA2 := Lib.hid hoA
  clear hoA b2 m0 m1 m2 HR0
  obtain ⟨m0, m1, m2⟩ := HP.out _ B2.out
  go_wp2_with fail
  refine (HR1.out _).mono ?_
  rintro e w3 ⟨RB, cB, gB, rfl, hoB, b3⟩
  have B3 := Lib.hid (below_of B2.out B2.out.size b3)
  have C3 := Lib.hid b3
  have OB3 := Lib.hid hoB
  clear hoB b3 m0 m1 m2 HR1
  obtain ⟨m0, m1, m2⟩ := HP.out _ B3.out
  go_wp2_with fail
  refine (HR2.out _).mono ?_
  rintro e w4 ⟨RC, cC, gC, rfl, hoC, b4⟩
  have C4 := Lib.hid b4
  have OC4 := Lib.hid hoC
  have B4 := Lib.hid (below_of B3.out B3.out.size b4)
  have K4 := Lib.hid (K1.out.below B4.out)
  have BC := Lib.hid (below_of BB.out BB.out.size B4.out)
  clear hoC b4 m0 m1 m2 HR2 HP K1 BB B4
  clear OA2 OB3 OC4 B2 B3 C3 C4 HS1
  obtain ⟨⟨f0, g0⟩, ⟨f1, g1⟩, ⟨f2, g2⟩, ⟨f3, g3⟩, ⟨f4, g4⟩⟩ : (_ ∧ _) ∧ (_ ∧ _) ∧ (_ ∧ _) ∧ (_ ∧ _) ∧ (_ ∧ _) := ⟨K4.out.2 0 _ rfl, K4.out.2 1 _ rfl, K4.out.2 2 _ rfl, K4.out.2 3 _ rfl, K4.out.2 4 _ rfl⟩
  go_wp2
  have R := Lib.hid ((((((BC.out.setCell (p := ⟨w.heap.size, 0, none⟩) (by simp) (.slice none 0 0)).setCell (p := ⟨w.heap.size, 1, none⟩) (by simp) (.slice none 0 0)).setCell (p := ⟨w.heap.size, 2, none⟩) (by simp) (.float .f32 0)).setCell (p := ⟨w.heap.size, 3, none⟩) (by simp) (.float .f32 0)).setCell (p := ⟨w.heap.size, 4, none⟩) (by simp) (.float .f32 0)))
  have Q := Lib.hid ((((((K4.out.set (i := 0) (by simp) (.slice none 0 0)).set (i := 1) (by simp) (.slice none 0 0)).set (i := 2) (by simp) (.float .f32 0)).set (i := 3) (by simp) (.float .f32 0)).set (i := 4) (by simp) (.float .f32 0)))
  obtain ⟨c0, c1, c2, c3, c4⟩ : _ ∧ _ ∧ _ ∧ _ ∧ _ := ⟨(Q.out.2 0 _ rfl).1, (Q.out.2 1 _ rfl).1, (Q.out.2 2 _ rfl).1, (Q.out.2 3 _ rfl).1, (Q.out.2 4 _ rfl).1⟩
  refine bodyPost_ret (v := .tuple #[.agg #[.slice none 0 0, .slice none 0 0, .float .f32 0, .float .f32 0, .float .f32 0], .bool false]) ?_ rfl ⟨rfl, R.out⟩
  simp [results, Tryz.results31, go_sem, c0, c1, c2, c3, c4]
set_option maxHeartbeats 8000000 in
set_option maxRecDepth 100000 in
theorem s_l08ReadFarm_ln (s : ByteArray) (w : World) (hs : s.size ≤ 1048576) (hl : (cutS 59 s).length = 3) (ho0 : nmO (pcs 59 s 0) = true) (ho1 : nmO (pcs 59 s 1) = true) (ho2 : nmO (pcs 59 s 2) = true) (hl2 : (nmL (pcs 59 s 2)).length ≠ 3) :
    Calls Tryz.prog 31 #[.string s] w fun e w' => e = .returned (.tuple #[.agg #[.slice none 0 0, .slice none 0 0, .float .f32 0, .float .f32 0, .float .f32 0], .bool false]) ∧ Below w.heap.size w w' := by
  obtain ⟨w0, hw0⟩ : ∃ z, z = w.alloc (.cells #[.slice none 0 0, .slice none 0 0, .float .f32 0, .float .f32 0, .float .f32 0] 33) := ⟨_, rfl⟩
  have b0 : Below w.heap.size w w0 := by rw [hw0]; exact (Below.refl _ _).alloc (Nat.le_refl _) _
  have HZ0 : Hid (w0.heap.size = w.heap.size + 1) := Lib.hid (by rw [hw0]; simp)
  have K0 : Hid (BlkL w0 w.heap.size [.slice none 0 0, .slice none 0 0, .float .f32 0, .float .f32 0, .float .f32 0]) := Lib.hid (by rw [hw0]; exact blkL_at w #[.slice none 0 0, .slice none 0 0, .float .f32 0, .float .f32 0, .float .f32 0] _ rfl)
  have B0 := Lib.hid b0
  have HC : Hid (Calls Tryz.prog 49 #[.string s, .int .u8 59] w0 fun e w' => ∃ v, e = .returned v ∧ GrS w' w0.heap.size v (cutS 59 s) ∧ Below w0.heap.size w0 w') := Lib.hid (s_l01Cut 59 s w0 hs)
  clear b0
  have HPS : Hid ((cutS 59 s)[0]? = some (pcs 59 s 0) ∧ (cutS 59 s)[1]? = some (pcs 59 s 1) ∧ (cutS 59 s)[2]? = some (pcs 59 s 2)) := Lib.hid ⟨pcs_at hl (by decide), pcs_at hl (by decide), pcs_at hl (by decide)⟩
  have HL3 := Lib.hid hl
  have HR0 : Hid (∀ W, Calls Tryz.prog 50 #[.string (pcs 59 s 0)] W fun e w' => ∃ R1 c1 g1, e = .returned (.tuple #[.slice R1 (nmL (pcs 59 s 0)).length c1, .bool true]) ∧ OwnO w' W.heap.size R1 g1 (nmL (pcs 59 s 0)) ∧ Below W.heap.size W w') := Lib.hid (fun W => by have h := s_l01NRead (pcs 59 s 0) W (Nat.le_trans (pcs_size _ _ _) hs); rw [ho0] at h; exact h)
  have HR1 : Hid (∀ W, Calls Tryz.prog 50 #[.string (pcs 59 s 1)] W fun e w' => ∃ R1 c1 g1, e = .returned (.tuple #[.slice R1 (nmL (pcs 59 s 1)).length c1, .bool true]) ∧ OwnO w' W.heap.size R1 g1 (nmL (pcs 59 s 1)) ∧ Below W.heap.size W w') := Lib.hid (fun W => by have h := s_l01NRead (pcs 59 s 1) W (Nat.le_trans (pcs_size _ _ _) hs); rw [ho1] at h; exact h)
  have HR2 : Hid (∀ W, Calls Tryz.prog 50 #[.string (pcs 59 s 2)] W fun e w' => ∃ R1 c1 g1, e = .returned (.tuple #[.slice R1 (nmL (pcs 59 s 2)).length c1, .bool true]) ∧ OwnO w' W.heap.size R1 g1 (nmL (pcs 59 s 2)) ∧ Below W.heap.size W w') := Lib.hid (fun W => by have h := s_l01NRead (pcs 59 s 2) W (Nat.le_trans (pcs_size _ _ _) hs); rw [ho2] at h; exact h)
  have heq : (((nmL (pcs 59 s 2)).length : Int) == 3) = false := beq_eq_false_iff_ne.2 (by omega)
  clear hs hl ho0 ho1 ho2 hl2
  generalize pcs 59 s 0 = a0 at *
  generalize pcs 59 s 1 = a1 at *
  generalize pcs 59 s 2 = a2 at *
  go_enter Tryz.func31, Tryz.ntmps31
  go_upto_region 1 with fail
  rw [← hw0]
  clear hw0
  go_wp2_with fail
  refine HC.out.mono ?_
  rintro e w1 ⟨v, rfl, hg, b1⟩
  obtain ⟨pb, pc, rfl, hlo, hlt1, -, -, hcell⟩ := hg.own (by intro e; have := cutS_pos 59 s; rw [e] at this; simp at this)
  have K1 := Lib.hid (K0.out.below b1)
  have BB := Lib.hid (below_of B0.out B0.out.size b1)
  have HS1 := Lib.hid b1.size
  have HP : Hid (∀ W, Below w1.heap.size w1 W → W.cell? ⟨pb, 0, none⟩ = some (.string a0) ∧ W.cell? ⟨pb, 1, none⟩ = some (.string a1) ∧ W.cell? ⟨pb, 2, none⟩ = some (.string a2)) := Lib.hid (fun W hb => ⟨(hb.cell (p := ⟨pb, 0, none⟩) hlt1).trans (hcell 0 _ HPS.out.1), (hb.cell (p := ⟨pb, 1, none⟩) hlt1).trans (hcell 1 _ HPS.out.2.1), (hb.cell (p := ⟨pb, 2, none⟩) hlt1).trans (hcell 2 _ HPS.out.2.2)⟩)
  rw [HL3.out]
  clear hg hcell b1 HC B0 K0 HPS hlt1 hlo HL3
  obtain ⟨m0, m1, m2⟩ := HP.out _ (Below.refl _ _)
  go_wp2_with fail
  refine (HR0.out _).mono ?_
  rintro e w2 ⟨RA, cA, gA, rfl, hoA, b2⟩
  have B2 := Lib.hid b2
  have OA2 := Lib.hid hoA
  clear hoA b2 m0 m1 m2 HR0
  obtain ⟨m0, m1, m2⟩ := HP.out _ B2.out
  go_wp2_with fail
  refine (HR1.out _).mono ?_
  rintro e w3 ⟨RB, cB, gB, rfl, hoB, b3⟩
  have B3 := Lib.hid (below_of B2.out B2.out.size b3)
  have C3 := Lib.hid b3
  have OB3 := Lib.hid hoB
  clear hoB b3 m0 m1 m2 HR1
  obtain ⟨m0, m1, m2⟩ := HP.out _ B3.out
  go_wp2_with fail
  refine (HR2.out _).mono ?_
  rintro e w4 ⟨RC, cC, gC, rfl, hoC, b4⟩
  have C4 := Lib.hid b4
  have OC4 := Lib.hid hoC
  have B4 := Lib.hid (below_of B3.out B3.out.size b4)
  have K4 := Lib.hid (K1.out.below B4.out)
  have BC := Lib.hid (below_of BB.out BB.out.size B4.out)
  clear hoC b4 m0 m1 m2 HR2 HP K1 BB B4
  clear OA2 OB3 OC4 B2 B3 C3 C4 HS1
  obtain ⟨⟨f0, g0⟩, ⟨f1, g1⟩, ⟨f2, g2⟩, ⟨f3, g3⟩, ⟨f4, g4⟩⟩ : (_ ∧ _) ∧ (_ ∧ _) ∧ (_ ∧ _) ∧ (_ ∧ _) ∧ (_ ∧ _) := ⟨K4.out.2 0 _ rfl, K4.out.2 1 _ rfl, K4.out.2 2 _ rfl, K4.out.2 3 _ rfl, K4.out.2 4 _ rfl⟩
  go_wp2
  have R := Lib.hid ((((((BC.out.setCell (p := ⟨w.heap.size, 0, none⟩) (by simp) (.slice none 0 0)).setCell (p := ⟨w.heap.size, 1, none⟩) (by simp) (.slice none 0 0)).setCell (p := ⟨w.heap.size, 2, none⟩) (by simp) (.float .f32 0)).setCell (p := ⟨w.heap.size, 3, none⟩) (by simp) (.float .f32 0)).setCell (p := ⟨w.heap.size, 4, none⟩) (by simp) (.float .f32 0)))
  have Q := Lib.hid ((((((K4.out.set (i := 0) (by simp) (.slice none 0 0)).set (i := 1) (by simp) (.slice none 0 0)).set (i := 2) (by simp) (.float .f32 0)).set (i := 3) (by simp) (.float .f32 0)).set (i := 4) (by simp) (.float .f32 0)))
  obtain ⟨c0, c1, c2, c3, c4⟩ : _ ∧ _ ∧ _ ∧ _ ∧ _ := ⟨(Q.out.2 0 _ rfl).1, (Q.out.2 1 _ rfl).1, (Q.out.2 2 _ rfl).1, (Q.out.2 3 _ rfl).1, (Q.out.2 4 _ rfl).1⟩
  refine bodyPost_ret (v := .tuple #[.agg #[.slice none 0 0, .slice none 0 0, .float .f32 0, .float .f32 0, .float .f32 0], .bool false]) ?_ rfl ⟨rfl, R.out⟩
  simp [results, Tryz.results31, go_sem, c0, c1, c2, c3, c4]
set_option maxHeartbeats 8000000 in
set_option maxRecDepth 100000 in
theorem s_l08ReadFarm_yes (s : ByteArray) (w : World) (hs : s.size ≤ 1048576) (hl : (cutS 59 s).length = 3) (ho0 : nmO (pcs 59 s 0) = true) (ho1 : nmO (pcs 59 s 1) = true) (ho2 : nmO (pcs 59 s 2) = true) (hl2 : (nmL (pcs 59 s 2)).length = 3) (hv : frmV (fmX s) (fmY s) (fmN s 0) (fmN s 1) (fmN s 2) = true) :
    Calls Tryz.prog 31 #[.string s] w fun e w' => FmV w.heap.size (fmX s) (fmY s) (fmN s 0) (fmN s 1) (fmN s 2) true e w' ∧ Below w.heap.size w w' := by
  obtain ⟨w0, hw0⟩ : ∃ z, z = w.alloc (.cells #[.slice none 0 0, .slice none 0 0, .float .f32 0, .float .f32 0, .float .f32 0] 33) := ⟨_, rfl⟩
  have b0 : Below w.heap.size w w0 := by rw [hw0]; exact (Below.refl _ _).alloc (Nat.le_refl _) _
  have HZ0 : Hid (w0.heap.size = w.heap.size + 1) := Lib.hid (by rw [hw0]; simp)
  have K0 : Hid (BlkL w0 w.heap.size [.slice none 0 0, .slice none 0 0, .float .f32 0, .float .f32 0, .float .f32 0]) := Lib.hid (by rw [hw0]; exact blkL_at w #[.slice none 0 0, .slice none 0 0, .float .f32 0, .float .f32 0, .float .f32 0] _ rfl)
  have B0 := Lib.hid b0
  have HC : Hid (Calls Tryz.prog 49 #[.string s, .int .u8 59] w0 fun e w' => ∃ v, e = .returned v ∧ GrS w' w0.heap.size v (cutS 59 s) ∧ Below w0.heap.size w0 w') := Lib.hid (s_l01Cut 59 s w0 hs)
  clear b0
  have HPS : Hid ((cutS 59 s)[0]? = some (pcs 59 s 0) ∧ (cutS 59 s)[1]? = some (pcs 59 s 1) ∧ (cutS 59 s)[2]? = some (pcs 59 s 2)) := Lib.hid ⟨pcs_at hl (by decide), pcs_at hl (by decide), pcs_at hl (by decide)⟩
  have HL3 := Lib.hid hl
  have HR0 : Hid (∀ W, Calls Tryz.prog 50 #[.string (pcs 59 s 0)] W fun e w' => ∃ R1 c1 g1, e = .returned (.tuple #[.slice R1 (nmL (pcs 59 s 0)).length c1, .bool true]) ∧ OwnO w' W.heap.size R1 g1 (nmL (pcs 59 s 0)) ∧ Below W.heap.size W w') := Lib.hid (fun W => by have h := s_l01NRead (pcs 59 s 0) W (Nat.le_trans (pcs_size _ _ _) hs); rw [ho0] at h; exact h)
  have HR1 : Hid (∀ W, Calls Tryz.prog 50 #[.string (pcs 59 s 1)] W fun e w' => ∃ R1 c1 g1, e = .returned (.tuple #[.slice R1 (nmL (pcs 59 s 1)).length c1, .bool true]) ∧ OwnO w' W.heap.size R1 g1 (nmL (pcs 59 s 1)) ∧ Below W.heap.size W w') := Lib.hid (fun W => by have h := s_l01NRead (pcs 59 s 1) W (Nat.le_trans (pcs_size _ _ _) hs); rw [ho1] at h; exact h)
  have HR2 : Hid (∀ W, Calls Tryz.prog 50 #[.string (pcs 59 s 2)] W fun e w' => ∃ R1 c1 g1, e = .returned (.tuple #[.slice R1 3 c1, .bool true]) ∧ OwnO w' W.heap.size R1 g1 (nmL (pcs 59 s 2)) ∧ Below W.heap.size W w') := Lib.hid (fun W => by have h := s_l01NRead (pcs 59 s 2) W (Nat.le_trans (pcs_size _ _ _) hs); rw [ho2, hl2] at h; exact h)
  have HFW : Hid (FewS (fmX s) (fmY s)) := Lib.hid (fm_few s)
  have HLN : Hid ((nmL (pcs 59 s 2)).length = 3) := Lib.hid hl2
  clear hs hl ho0 ho1 ho2 hl2
  unfold fmX fmY fmN at *
  generalize pcs 59 s 0 = a0 at *
  generalize pcs 59 s 1 = a1 at *
  generalize pcs 59 s 2 = a2 at *
  generalize nmL a0 = fx at *
  generalize nmL a1 = fy at *
  obtain ⟨r0, hr0⟩ : ∃ x, x = (nmL a2).getD 0 0 := ⟨_, rfl⟩
  obtain ⟨r1, hr1⟩ : ∃ x, x = (nmL a2).getD 1 0 := ⟨_, rfl⟩
  obtain ⟨r2, hr2⟩ : ∃ x, x = (nmL a2).getD 2 0 := ⟨_, rfl⟩
  rw [← hr0, ← hr1, ← hr2] at hv ⊢
  have HXS : Hid (r0 = (nmL a2).getD 0 0 ∧ r1 = (nmL a2).getD 1 0 ∧ r2 = (nmL a2).getD 2 0) := Lib.hid ⟨hr0, hr1, hr2⟩
  clear hr0 hr1 hr2
  have HV := Lib.hid hv
  clear hv
  go_enter Tryz.func31, Tryz.ntmps31
  go_upto_region 1 with fail
  rw [← hw0]
  clear hw0
  go_wp2_with fail
  refine HC.out.mono ?_
  rintro e w1 ⟨v, rfl, hg, b1⟩
  obtain ⟨pb, pc, rfl, hlo, hlt1, -, -, hcell⟩ := hg.own (by intro e; have := cutS_pos 59 s; rw [e] at this; simp at this)
  have K1 := Lib.hid (K0.out.below b1)
  have BB := Lib.hid (below_of B0.out B0.out.size b1)
  have HS1 := Lib.hid b1.size
  have HP : Hid (∀ W, Below w1.heap.size w1 W → W.cell? ⟨pb, 0, none⟩ = some (.string a0) ∧ W.cell? ⟨pb, 1, none⟩ = some (.string a1) ∧ W.cell? ⟨pb, 2, none⟩ = some (.string a2)) := Lib.hid (fun W hb => ⟨(hb.cell (p := ⟨pb, 0, none⟩) hlt1).trans (hcell 0 _ HPS.out.1), (hb.cell (p := ⟨pb, 1, none⟩) hlt1).trans (hcell 1 _ HPS.out.2.1), (hb.cell (p := ⟨pb, 2, none⟩) hlt1).trans (hcell 2 _ HPS.out.2.2)⟩)
  rw [HL3.out]
  clear hg hcell b1 HC B0 K0 HPS hlt1 hlo HL3
  obtain ⟨m0, m1, m2⟩ := HP.out _ (Below.refl _ _)
  go_wp2_with fail
  refine (HR0.out _).mono ?_
  rintro e w2 ⟨RA, cA, gA, rfl, hoA, b2⟩
  have B2 := Lib.hid b2
  have OA2 := Lib.hid hoA
  clear hoA b2 m0 m1 m2 HR0
  obtain ⟨m0, m1, m2⟩ := HP.out _ B2.out
  go_wp2_with fail
  refine (HR1.out _).mono ?_
  rintro e w3 ⟨RB, cB, gB, rfl, hoB, b3⟩
  have B3 := Lib.hid (below_of B2.out B2.out.size b3)
  have C3 := Lib.hid b3
  have OB3 := Lib.hid hoB
  clear hoB b3 m0 m1 m2 HR1
  obtain ⟨m0, m1, m2⟩ := HP.out _ B3.out
  go_wp2_with fail
  refine (HR2.out _).mono ?_
  rintro e w4 ⟨RC, cC, gC, rfl, hoC, b4⟩
  have C4 := Lib.hid b4
  have OC4 := Lib.hid hoC
  have B4 := Lib.hid (below_of B3.out B3.out.size b4)
  have K4 := Lib.hid (K1.out.below B4.out)
  have BC := Lib.hid (below_of BB.out BB.out.size B4.out)
  clear hoC b4 m0 m1 m2 HR2 HP K1 BB B4
  obtain ⟨gx, gy, hr⟩ := OwnR2.ofB (cx := 0) (cy := 0) (((OA2.out.below C3.out).below C4.out).baseV (B := w0.heap.size) HS1.out) ((OB3.out.below C4.out).baseV (B := w0.heap.size) (Nat.le_trans HS1.out B2.out.size)) (fun g h0 h1 => by have := (OA2.out.blk h0).2; have := (OB3.out.blk h1).1; omega)
  have HO := Lib.hid hr
  clear hr
  obtain ⟨rfl, nC⟩ := OC4.out.nb (by rw [HLN.out]; decide)
  have HNC := Lib.hid nC
  clear nC
  have HLO : Hid (w.heap.size < w3.heap.size) := Lib.hid (by have := HZ0.out; have := HS1.out; have := B3.out.size; omega)
  have HPC : Hid (∀ W, Turn w4 W (fun b => b = w.heap.size) → W.cell? ⟨gC, 0, none⟩ = some (.float .f32 r0) ∧ W.cell? ⟨gC, 1, none⟩ = some (.float .f32 r1) ∧ W.cell? ⟨gC, 2, none⟩ = some (.float .f32 r2)) := Lib.hid (fun W ht => by
    have h := HNC.out.turn ht HLO.out
    exact ⟨by rw [HXS.out.1]; exact h.2.2 0 (by rw [HLN.out]; decide), by rw [HXS.out.2.1]; exact h.2.2 1 (by rw [HLN.out]; decide), by rw [HXS.out.2.2]; exact h.2.2 2 (by rw [HLN.out]; decide)⟩)
  have HGV : Hid (∀ W, Turn w4 W (fun b => b = w.heap.size) → Calls Tryz.prog 64 #[.agg #[.slice RA fx.length cA, .slice RB fy.length cB, .float .f32 r0, .float .f32 r1, .float .f32 r2]] W fun e w' => e = .returned (.tuple #[.agg #[.slice RA fx.length cA, .slice RB fy.length cB, .float .f32 r0, .float .f32 r1, .float .f32 r2], .bool true]) ∧ Below W.heap.size W w') := Lib.hid (fun W ht => by
    have h := HO.out.turnV ht (by have := HZ0.out; omega)
    exact s_l06Give_yes RA RB cA cB fx fy r0 r1 r2 W ⟨h.1.fl, h.2.1.fl⟩ HFW.out HV.out)
  clear OA2 OB3 OC4 B2 B3 C3 C4 HS1 HFW HV HLN HXS HNC HLO
  go_wp2_with fail
  have hFin := fun (wa wb : World) (hb : Below wa.heap.size wa wb) (h : BlkL wa w.heap.size [.slice RA fx.length cA, .slice RB fy.length cB, .float .f32 r0, .float .f32 r1, .float .f32 r2]) => h.below hb
  refine wp_region_inv4 (fun iq wv v => match iq with
    | 0 => v = .slice RA fx.length cA
    | 1 => v = .slice RB fy.length cB
    | 2 => v = .slice (some ⟨gC, 0, none⟩) 3 cC
    | 3 => v = .pointer (some ⟨gC, 0, none⟩)
    | 4 => v = .float .f32 r0
    | 5 => v = .slice (some ⟨gC, 0, none⟩) 3 cC
    | 6 => v = .pointer (some ⟨gC, 1, none⟩)
    | 7 => v = .float .f32 r1
    | 8 => v = .slice (some ⟨gC, 0, none⟩) 3 cC
    | 9 => v = .pointer (some ⟨gC, 2, none⟩)
    | 10 => v = .float .f32 r2
    | 11 => v = .agg #[.slice RA fx.length cA, .slice RB fy.length cB, .float .f32 r0, .float .f32 r1, .float .f32 r2]
    | 12 => v = .tuple #[.agg #[.slice RA fx.length cA, .slice RB fy.length cB, .float .f32 r0, .float .f32 r1, .float .f32 r2], .bool true]
    | 13 => v = .agg #[.slice RA fx.length cA, .slice RB fy.length cB, .float .f32 r0, .float .f32 r1, .float .f32 r2]
    | 14 => v = .bool true
    | 15 => True
    | 16 => v = .bool true
    | _ => False) (fun listed ww => StC w4 w.heap.size 5 15 (fun W => BlkL W w.heap.size [.slice RA fx.length cA, .slice RB fy.length cB, .float .f32 r0, .float .f32 r1, .float .f32 r2]) listed ww) (fun wa wb => Turn wa wb (fun b => b = w.heap.size)) ?hmono (by kernel_rfl) (by kernel_rfl) (StC.start K4.out rfl) ?hop ?hend
  case hmono =>
    intro i wa wb v hR hV
    rcases i with _ | _ | _ | _ | _ | _ | _ | _ | _ | _ | _ | _ | _ | _ | _ | _ | _ | i
    · exact hV
    · exact hV
    · exact hV
    · exact hV
    · exact hV
    · exact hV
    · exact hV
    · exact hV
    · exact hV
    · exact hV
    · exact hV
    · exact hV
    · exact hV
    · exact hV
    · exact hV
    · exact hV
    · exact hV
    · exact hV
  case hop =>
    intro q o hq listed act w3 hI hnot hcl hall
    have hC := hI.cls
    have hlen : listed.size = 17 := hI.len
    obtain ⟨n0, n1, n2⟩ := HPC.out _ hC.1
    rcases q with _ | _ | _ | _ | _ | _ | _ | _ | _ | _ | _ | _ | _ | _ | _ | _ | _ | q
    · simp at hq; subst hq
      have g5 : act.tmps[5]?.getD undef = .slice RA fx.length cA := hI.kept 5 (by kernel_rfl)
      clear hI hall hnot hcl
      refine .inl ⟨wanted_none rfl, ?_⟩
      unfold Oper.wp
      go_simp
      all_goals exact ⟨_, rfl, Turn.refl _ _, rfl, StC.step (k := 0) hC (Below.refl _ _) hFin (by decide) (by rw [hlen]; decide)⟩
    · simp at hq; subst hq
      have g7 : act.tmps[7]?.getD undef = .slice RB fy.length cB := hI.kept 7 (by kernel_rfl)
      clear hI hall hnot hcl
      refine .inl ⟨wanted_none rfl, ?_⟩
      unfold Oper.wp
      go_simp
      all_goals exact ⟨_, rfl, Turn.refl _ _, rfl, StC.step (k := 1) hC (Below.refl _ _) hFin (by decide) (by rw [hlen]; decide)⟩
    · simp at hq; subst hq
      have g9 : act.tmps[9]?.getD undef = .slice (some ⟨gC, 0, none⟩) 3 cC := hI.kept 9 (by kernel_rfl)
      clear hI hall hnot hcl
      refine .inl ⟨wanted_none rfl, ?_⟩
      unfold Oper.wp
      go_simp
      all_goals exact ⟨_, rfl, Turn.refl _ _, rfl, StC.step (k := 2) hC (Below.refl _ _) hFin (by decide) (by rw [hlen]; decide)⟩
    · simp at hq; subst hq
      have g56 : act.tmps[56]?.getD undef = .slice (some ⟨gC, 0, none⟩) 3 cC := hI.has 2 56 rfl (hall ⟨2, .data⟩ (by simp) rfl)
      clear hI hall hnot hcl
      refine .inl ⟨wanted_none rfl, ?_⟩
      unfold Oper.wp
      go_simp
      all_goals exact ⟨_, rfl, Turn.refl _ _, rfl, StC.step (k := 3) hC (Below.refl _ _) hFin (by decide) (by rw [hlen]; decide)⟩
    · simp at hq; subst hq
      have g57 : act.tmps[57]?.getD undef = .pointer (some ⟨gC, 0, none⟩) := hI.has 3 57 rfl (hall ⟨3, .data⟩ (by simp) rfl)
      clear hI hall hnot hcl
      refine .inl ⟨wanted_none rfl, ?_⟩
      unfold Oper.wp
      go_simp
      all_goals exact ⟨_, rfl, Turn.refl _ _, rfl, StC.step (k := 4) hC (Below.refl _ _) hFin (by decide) (by rw [hlen]; decide)⟩
    · simp at hq; subst hq
      have g9 : act.tmps[9]?.getD undef = .slice (some ⟨gC, 0, none⟩) 3 cC := hI.kept 9 (by kernel_rfl)
      clear hI hall hnot hcl
      refine .inl ⟨wanted_none rfl, ?_⟩
      unfold Oper.wp
      go_simp
      all_goals exact ⟨_, rfl, Turn.refl _ _, rfl, StC.step (k := 5) hC (Below.refl _ _) hFin (by decide) (by rw [hlen]; decide)⟩
    · simp at hq; subst hq
      have g59 : act.tmps[59]?.getD undef = .slice (some ⟨gC, 0, none⟩) 3 cC := hI.has 5 59 rfl (hall ⟨5, .data⟩ (by simp) rfl)
      clear hI hall hnot hcl
      refine .inl ⟨wanted_none rfl, ?_⟩
      unfold Oper.wp
      go_simp
      all_goals exact ⟨_, rfl, Turn.refl _ _, rfl, StC.step (k := 6) hC (Below.refl _ _) hFin (by decide) (by rw [hlen]; decide)⟩
    · simp at hq; subst hq
      have g60 : act.tmps[60]?.getD undef = .pointer (some ⟨gC, 1, none⟩) := hI.has 6 60 rfl (hall ⟨6, .data⟩ (by simp) rfl)
      clear hI hall hnot hcl
      refine .inl ⟨wanted_none rfl, ?_⟩
      unfold Oper.wp
      go_simp
      all_goals exact ⟨_, rfl, Turn.refl _ _, rfl, StC.step (k := 7) hC (Below.refl _ _) hFin (by decide) (by rw [hlen]; decide)⟩
    · simp at hq; subst hq
      have g9 : act.tmps[9]?.getD undef = .slice (some ⟨gC, 0, none⟩) 3 cC := hI.kept 9 (by kernel_rfl)
      clear hI hall hnot hcl
      refine .inl ⟨wanted_none rfl, ?_⟩
      unfold Oper.wp
      go_simp
      all_goals exact ⟨_, rfl, Turn.refl _ _, rfl, StC.step (k := 8) hC (Below.refl _ _) hFin (by decide) (by rw [hlen]; decide)⟩
    · simp at hq; subst hq
      have g62 : act.tmps[62]?.getD undef = .slice (some ⟨gC, 0, none⟩) 3 cC := hI.has 8 62 rfl (hall ⟨8, .data⟩ (by simp) rfl)
      clear hI hall hnot hcl
      refine .inl ⟨wanted_none rfl, ?_⟩
      unfold Oper.wp
      go_simp
      all_goals exact ⟨_, rfl, Turn.refl _ _, rfl, StC.step (k := 9) hC (Below.refl _ _) hFin (by decide) (by rw [hlen]; decide)⟩
    · simp at hq; subst hq
      have g63 : act.tmps[63]?.getD undef = .pointer (some ⟨gC, 2, none⟩) := hI.has 9 63 rfl (hall ⟨9, .data⟩ (by simp) rfl)
      clear hI hall hnot hcl
      refine .inl ⟨wanted_none rfl, ?_⟩
      unfold Oper.wp
      go_simp
      all_goals exact ⟨_, rfl, Turn.refl _ _, rfl, StC.step (k := 10) hC (Below.refl _ _) hFin (by decide) (by rw [hlen]; decide)⟩
    · simp at hq; subst hq
      have g54 : act.tmps[54]?.getD undef = .slice RA fx.length cA := hI.has 0 54 rfl (hall ⟨0, .data⟩ (by simp) rfl)
      have g55 : act.tmps[55]?.getD undef = .slice RB fy.length cB := hI.has 1 55 rfl (hall ⟨1, .data⟩ (by simp) rfl)
      have g58 : act.tmps[58]?.getD undef = .float .f32 r0 := hI.has 4 58 rfl (hall ⟨4, .data⟩ (by simp) rfl)
      have g61 : act.tmps[61]?.getD undef = .float .f32 r1 := hI.has 7 61 rfl (hall ⟨7, .data⟩ (by simp) rfl)
      have g64 : act.tmps[64]?.getD undef = .float .f32 r2 := hI.has 10 64 rfl (hall ⟨10, .data⟩ (by simp) rfl)
      clear hI hall hnot hcl
      refine .inl ⟨wanted_none rfl, ?_⟩
      unfold Oper.wp
      go_simp
      all_goals exact ⟨_, rfl, Turn.refl _ _, rfl, StC.step (k := 11) hC (Below.refl _ _) hFin (by decide) (by rw [hlen]; decide)⟩
    · simp at hq; subst hq
      have g65 : act.tmps[65]?.getD undef = .agg #[.slice RA fx.length cA, .slice RB fy.length cB, .float .f32 r0, .float .f32 r1, .float .f32 r2] := hI.has 11 65 rfl (hall ⟨11, .data⟩ (by simp) rfl)
      clear hI hall hnot hcl
      refine .inl ⟨wanted_none rfl, ?_⟩
      unfold Oper.wp
      go_simp
      refine (HGV.out _ hC.1).mono ?_
      rintro e w5 ⟨rfl, b5⟩
      exact ⟨_, rfl, Turn.of_below b5 _, rfl, StC.step (k := 12) hC b5 hFin (by decide) (by rw [hlen]; decide)⟩
    · simp at hq; subst hq
      have g66 : act.tmps[66]?.getD undef = .tuple #[.agg #[.slice RA fx.length cA, .slice RB fy.length cB, .float .f32 r0, .float .f32 r1, .float .f32 r2], .bool true] := hI.has 12 66 rfl (hall ⟨12, .data⟩ (by simp) rfl)
      clear hI hall hnot hcl
      refine .inl ⟨wanted_none rfl, ?_⟩
      unfold Oper.wp
      go_simp
      all_goals exact ⟨_, rfl, Turn.refl _ _, rfl, StC.step (k := 13) hC (Below.refl _ _) hFin (by decide) (by rw [hlen]; decide)⟩
    · simp at hq; subst hq
      have g66 : act.tmps[66]?.getD undef = .tuple #[.agg #[.slice RA fx.length cA, .slice RB fy.length cB, .float .f32 r0, .float .f32 r1, .float .f32 r2], .bool true] := hI.has 12 66 rfl (hall ⟨12, .data⟩ (by simp) rfl)
      clear hI hall hnot hcl
      refine .inl ⟨wanted_none rfl, ?_⟩
      unfold Oper.wp
      go_simp
      all_goals exact ⟨_, rfl, Turn.refl _ _, rfl, StC.step (k := 14) hC (Below.refl _ _) hFin (by decide) (by rw [hlen]; decide)⟩
    · simp at hq; subst hq
      have g2 : act.tmps[2]?.getD undef = .pointer (some ⟨w.heap.size, 0, none⟩) := hI.kept 2 (by kernel_rfl)
      have g67 : act.tmps[67]?.getD undef = .agg #[.slice RA fx.length cA, .slice RB fy.length cB, .float .f32 r0, .float .f32 r1, .float .f32 r2] := hI.has 13 67 rfl (hall ⟨13, .data⟩ (by simp) rfl)
      clear hI hall hnot hcl
      refine .inl ⟨wanted_none rfl, ?_⟩
      unfold Oper.wp
      go_simp
      obtain ⟨vs, hvs, hvl⟩ := hC.2.1
      match vs, hvs, hvl with
      | [u0, u1, u2, u3, u4], hvs, _ =>
      have p0 := (hvs.2 0 _ rfl).1
      have f0 := (hvs.2 0 _ rfl).2
      have p1 := (hvs.2 1 _ rfl).1
      have f1 := (hvs.2 1 _ rfl).2
      have p2 := (hvs.2 2 _ rfl).1
      have f2 := (hvs.2 2 _ rfl).2
      have p3 := (hvs.2 3 _ rfl).1
      have f3 := (hvs.2 3 _ rfl).2
      have p4 := (hvs.2 4 _ rfl).1
      have f4 := (hvs.2 4 _ rfl).2
      go_simp
      have hf := (((((hvs.set (i := 0) (by simp) (.slice RA fx.length cA)).set (i := 1) (by simp) (.slice RB fy.length cB)).set (i := 2) (by simp) (.float .f32 r0)).set (i := 3) (by simp) (.float .f32 r1)).set (i := 4) (by simp) (.float .f32 r2))
      have ht2 := (((((Turn.set w3 (B := w.heap.size) ⟨w.heap.size, 0, none⟩ rfl (.slice RA fx.length cA)).trans (Turn.set _ (B := w.heap.size) ⟨w.heap.size, 1, none⟩ rfl (.slice RB fy.length cB))).trans (Turn.set _ (B := w.heap.size) ⟨w.heap.size, 2, none⟩ rfl (.float .f32 r0))).trans (Turn.set _ (B := w.heap.size) ⟨w.heap.size, 3, none⟩ rfl (.float .f32 r1))).trans (Turn.set _ (B := w.heap.size) ⟨w.heap.size, 4, none⟩ rfl (.float .f32 r2)))
      have hst := StC.store (st := 15) hC ht2 hf rfl hf
      first | exact ⟨ht2, trivial, hst⟩ | exact ⟨ht2, hst⟩
    · simp at hq; subst hq
      have g68 : act.tmps[68]?.getD undef = .bool true := hI.has 14 68 rfl (hall ⟨14, .data⟩ (by simp) rfl)
      clear hI hall hnot hcl
      refine .inl ⟨wanted_none rfl, ?_⟩
      unfold Oper.wp
      go_simp
      all_goals exact ⟨_, rfl, Turn.refl _ _, rfl, StC.step (k := 16) hC (Below.refl _ _) hFin (by decide) (by rw [hlen]; decide)⟩
    · simp at hq
  case hend =>
    intro listed act w3 hI hall
    have hC := hI.cls
    have hlen : listed.size = 17 := hI.len
    obtain ⟨n0, n1, n2⟩ := HPC.out _ hC.1
    have hf := hC.2.2 (hall 15 (by decide))
    have ht := hC.1
    have g2 : act.tmps[2]?.getD undef = .pointer (some ⟨w.heap.size, 0, none⟩) := hI.kept 2 (by kernel_rfl)
    have g3 : act.tmps[3]?.getD undef = .bool true := hI.has 16 3 rfl (hall 16 (by decide))
    have hd := hI.defers
    clear hI hall hFin hC
    have e0 := (hf.2 0 _ rfl).1
    have e1 := (hf.2 1 _ rfl).1
    have e2 := (hf.2 2 _ rfl).1
    have e3 := (hf.2 3 _ rfl).1
    have e4 := (hf.2 4 _ rfl).1
    have hbw := ht.2.2.2 w BC.out (fun b hb => by have hb : b = w.heap.size := hb; omega)
    have hown := (HO.out.turnV ht (by have := HZ0.out; omega)).baseV (B := w.heap.size) (by have := HZ0.out; omega)
    go_wp2
    refine bodyPost_ret (v := .tuple #[.agg #[.slice RA fx.length cA, .slice RB fy.length cB, .float .f32 r0, .float .f32 r1, .float .f32 r2], .bool true]) (by simp [results, Tryz.results31, g2, g3, e0, e1, e2, e3, e4, go_sem]) (by first | rfl | exact hd) ?_
    exact ⟨⟨RA, RB, cA, cB, gx, gy, rfl, hown⟩, hbw⟩
set_option maxHeartbeats 8000000 in
set_option maxRecDepth 100000 in
theorem s_l08ReadFarm_inv (s : ByteArray) (w : World) (hs : s.size ≤ 1048576) (hl : (cutS 59 s).length = 3) (ho0 : nmO (pcs 59 s 0) = true) (ho1 : nmO (pcs 59 s 1) = true) (ho2 : nmO (pcs 59 s 2) = true) (hl2 : (nmL (pcs 59 s 2)).length = 3) (hv : frmV (fmX s) (fmY s) (fmN s 0) (fmN s 1) (fmN s 2) = false) :
    Calls Tryz.prog 31 #[.string s] w fun e w' => e = .returned (.tuple #[.agg #[.slice none 0 0, .slice none 0 0, .float .f32 0, .float .f32 0, .float .f32 0], .bool false]) ∧ Below w.heap.size w w' := by
  obtain ⟨w0, hw0⟩ : ∃ z, z = w.alloc (.cells #[.slice none 0 0, .slice none 0 0, .float .f32 0, .float .f32 0, .float .f32 0] 33) := ⟨_, rfl⟩
  have b0 : Below w.heap.size w w0 := by rw [hw0]; exact (Below.refl _ _).alloc (Nat.le_refl _) _
  have HZ0 : Hid (w0.heap.size = w.heap.size + 1) := Lib.hid (by rw [hw0]; simp)
  have K0 : Hid (BlkL w0 w.heap.size [.slice none 0 0, .slice none 0 0, .float .f32 0, .float .f32 0, .float .f32 0]) := Lib.hid (by rw [hw0]; exact blkL_at w #[.slice none 0 0, .slice none 0 0, .float .f32 0, .float .f32 0, .float .f32 0] _ rfl)
  have B0 := Lib.hid b0
  have HC : Hid (Calls Tryz.prog 49 #[.string s, .int .u8 59] w0 fun e w' => ∃ v, e = .returned v ∧ GrS w' w0.heap.size v (cutS 59 s) ∧ Below w0.heap.size w0 w') := Lib.hid (s_l01Cut 59 s w0 hs)
  clear b0
  have HPS : Hid ((cutS 59 s)[0]? = some (pcs 59 s 0) ∧ (cutS 59 s)[1]? = some (pcs 59 s 1) ∧ (cutS 59 s)[2]? = some (pcs 59 s 2)) := Lib.hid ⟨pcs_at hl (by decide), pcs_at hl (by decide), pcs_at hl (by decide)⟩
  have HL3 := Lib.hid hl
  have HR0 : Hid (∀ W, Calls Tryz.prog 50 #[.string (pcs 59 s 0)] W fun e w' => ∃ R1 c1 g1, e = .returned (.tuple #[.slice R1 (nmL (pcs 59 s 0)).length c1, .bool true]) ∧ OwnO w' W.heap.size R1 g1 (nmL (pcs 59 s 0)) ∧ Below W.heap.size W w') := Lib.hid (fun W => by have h := s_l01NRead (pcs 59 s 0) W (Nat.le_trans (pcs_size _ _ _) hs); rw [ho0] at h; exact h)
  have HR1 : Hid (∀ W, Calls Tryz.prog 50 #[.string (pcs 59 s 1)] W fun e w' => ∃ R1 c1 g1, e = .returned (.tuple #[.slice R1 (nmL (pcs 59 s 1)).length c1, .bool true]) ∧ OwnO w' W.heap.size R1 g1 (nmL (pcs 59 s 1)) ∧ Below W.heap.size W w') := Lib.hid (fun W => by have h := s_l01NRead (pcs 59 s 1) W (Nat.le_trans (pcs_size _ _ _) hs); rw [ho1] at h; exact h)
  have HR2 : Hid (∀ W, Calls Tryz.prog 50 #[.string (pcs 59 s 2)] W fun e w' => ∃ R1 c1 g1, e = .returned (.tuple #[.slice R1 3 c1, .bool true]) ∧ OwnO w' W.heap.size R1 g1 (nmL (pcs 59 s 2)) ∧ Below W.heap.size W w') := Lib.hid (fun W => by have h := s_l01NRead (pcs 59 s 2) W (Nat.le_trans (pcs_size _ _ _) hs); rw [ho2, hl2] at h; exact h)
  have HFW : Hid (FewS (fmX s) (fmY s)) := Lib.hid (fm_few s)
  have HLN : Hid ((nmL (pcs 59 s 2)).length = 3) := Lib.hid hl2
  clear hs hl ho0 ho1 ho2 hl2
  unfold fmX fmY fmN at *
  generalize pcs 59 s 0 = a0 at *
  generalize pcs 59 s 1 = a1 at *
  generalize pcs 59 s 2 = a2 at *
  generalize nmL a0 = fx at *
  generalize nmL a1 = fy at *
  obtain ⟨r0, hr0⟩ : ∃ x, x = (nmL a2).getD 0 0 := ⟨_, rfl⟩
  obtain ⟨r1, hr1⟩ : ∃ x, x = (nmL a2).getD 1 0 := ⟨_, rfl⟩
  obtain ⟨r2, hr2⟩ : ∃ x, x = (nmL a2).getD 2 0 := ⟨_, rfl⟩
  rw [← hr0, ← hr1, ← hr2] at hv
  have HXS : Hid (r0 = (nmL a2).getD 0 0 ∧ r1 = (nmL a2).getD 1 0 ∧ r2 = (nmL a2).getD 2 0) := Lib.hid ⟨hr0, hr1, hr2⟩
  clear hr0 hr1 hr2
  have HV := Lib.hid hv
  clear hv
  go_enter Tryz.func31, Tryz.ntmps31
  go_upto_region 1 with fail
  rw [← hw0]
  clear hw0
  go_wp2_with fail
  refine HC.out.mono ?_
  rintro e w1 ⟨v, rfl, hg, b1⟩
  obtain ⟨pb, pc, rfl, hlo, hlt1, -, -, hcell⟩ := hg.own (by intro e; have := cutS_pos 59 s; rw [e] at this; simp at this)
  have K1 := Lib.hid (K0.out.below b1)
  have BB := Lib.hid (below_of B0.out B0.out.size b1)
  have HS1 := Lib.hid b1.size
  have HP : Hid (∀ W, Below w1.heap.size w1 W → W.cell? ⟨pb, 0, none⟩ = some (.string a0) ∧ W.cell? ⟨pb, 1, none⟩ = some (.string a1) ∧ W.cell? ⟨pb, 2, none⟩ = some (.string a2)) := Lib.hid (fun W hb => ⟨(hb.cell (p := ⟨pb, 0, none⟩) hlt1).trans (hcell 0 _ HPS.out.1), (hb.cell (p := ⟨pb, 1, none⟩) hlt1).trans (hcell 1 _ HPS.out.2.1), (hb.cell (p := ⟨pb, 2, none⟩) hlt1).trans (hcell 2 _ HPS.out.2.2)⟩)
  rw [HL3.out]
  clear hg hcell b1 HC B0 K0 HPS hlt1 hlo HL3
  obtain ⟨m0, m1, m2⟩ := HP.out _ (Below.refl _ _)
  go_wp2_with fail
  refine (HR0.out _).mono ?_
  rintro e w2 ⟨RA, cA, gA, rfl, hoA, b2⟩
  have B2 := Lib.hid b2
  have OA2 := Lib.hid hoA
  clear hoA b2 m0 m1 m2 HR0
  obtain ⟨m0, m1, m2⟩ := HP.out _ B2.out
  go_wp2_with fail
  refine (HR1.out _).mono ?_
  rintro e w3 ⟨RB, cB, gB, rfl, hoB, b3⟩
  have B3 := Lib.hid (below_of B2.out B2.out.size b3)
  have C3 := Lib.hid b3
  have OB3 := Lib.hid hoB
  clear hoB b3 m0 m1 m2 HR1
  obtain ⟨m0, m1, m2⟩ := HP.out _ B3.out
  go_wp2_with fail
  refine (HR2.out _).mono ?_
  rintro e w4 ⟨RC, cC, gC, rfl, hoC, b4⟩
  have C4 := Lib.hid b4
  have OC4 := Lib.hid hoC
  have B4 := Lib.hid (below_of B3.out B3.out.size b4)
  have K4 := Lib.hid (K1.out.below B4.out)
  have BC := Lib.hid (below_of BB.out BB.out.size B4.out)
  clear hoC b4 m0 m1 m2 HR2 HP K1 BB B4
  obtain ⟨gx, gy, hr⟩ := OwnR2.ofB (cx := 0) (cy := 0) (((OA2.out.below C3.out).below C4.out).baseV (B := w0.heap.size) HS1.out) ((OB3.out.below C4.out).baseV (B := w0.heap.size) (Nat.le_trans HS1.out B2.out.size)) (fun g h0 h1 => by have := (OA2.out.blk h0).2; have := (OB3.out.blk h1).1; omega)
  have HO := Lib.hid hr
  clear hr
  obtain ⟨rfl, nC⟩ := OC4.out.nb (by rw [HLN.out]; decide)
  have HNC := Lib.hid nC
  clear nC
  have HLO : Hid (w.heap.size < w3.heap.size) := Lib.hid (by have := HZ0.out; have := HS1.out; have := B3.out.size; omega)
  have HPC : Hid (∀ W, Turn w4 W (fun b => b = w.heap.size) → W.cell? ⟨gC, 0, none⟩ = some (.float .f32 r0) ∧ W.cell? ⟨gC, 1, none⟩ = some (.float .f32 r1) ∧ W.cell? ⟨gC, 2, none⟩ = some (.float .f32 r2)) := Lib.hid (fun W ht => by
    have h := HNC.out.turn ht HLO.out
    exact ⟨by rw [HXS.out.1]; exact h.2.2 0 (by rw [HLN.out]; decide), by rw [HXS.out.2.1]; exact h.2.2 1 (by rw [HLN.out]; decide), by rw [HXS.out.2.2]; exact h.2.2 2 (by rw [HLN.out]; decide)⟩)
  have HGV : Hid (∀ W, Turn w4 W (fun b => b = w.heap.size) → Calls Tryz.prog 64 #[.agg #[.slice RA fx.length cA, .slice RB fy.length cB, .float .f32 r0, .float .f32 r1, .float .f32 r2]] W fun e w' => e = .returned (.tuple #[.agg #[.slice none 0 0, .slice none 0 0, .float .f32 0, .float .f32 0, .float .f32 0], .bool false]) ∧ Below W.heap.size W w') := Lib.hid (fun W ht => by
    have h := HO.out.turnV ht (by have := HZ0.out; omega)
    exact s_l06Give_no RA RB cA cB fx fy r0 r1 r2 W ⟨h.1.fl, h.2.1.fl⟩ HFW.out HV.out)
  clear OA2 OB3 OC4 B2 B3 C3 C4 HS1 HFW HV HLN HXS HNC HLO
  go_wp2_with fail
  have hFin := fun (wa wb : World) (hb : Below wa.heap.size wa wb) (h : BlkL wa w.heap.size [.slice none 0 0, .slice none 0 0, .float .f32 0, .float .f32 0, .float .f32 0]) => h.below hb
  refine wp_region_inv4 (fun iq wv v => match iq with
    | 0 => v = .slice RA fx.length cA
    | 1 => v = .slice RB fy.length cB
    | 2 => v = .slice (some ⟨gC, 0, none⟩) 3 cC
    | 3 => v = .pointer (some ⟨gC, 0, none⟩)
    | 4 => v = .float .f32 r0
    | 5 => v = .slice (some ⟨gC, 0, none⟩) 3 cC
    | 6 => v = .pointer (some ⟨gC, 1, none⟩)
    | 7 => v = .float .f32 r1
    | 8 => v = .slice (some ⟨gC, 0, none⟩) 3 cC
    | 9 => v = .pointer (some ⟨gC, 2, none⟩)
    | 10 => v = .float .f32 r2
    | 11 => v = .agg #[.slice RA fx.length cA, .slice RB fy.length cB, .float .f32 r0, .float .f32 r1, .float .f32 r2]
    | 12 => v = .tuple #[.agg #[.slice none 0 0, .slice none 0 0, .float .f32 0, .float .f32 0, .float .f32 0], .bool false]
    | 13 => v = .agg #[.slice none 0 0, .slice none 0 0, .float .f32 0, .float .f32 0, .float .f32 0]
    | 14 => v = .bool false
    | 15 => True
    | 16 => v = .bool false
    | _ => False) (fun listed ww => StC w4 w.heap.size 5 15 (fun W => BlkL W w.heap.size [.slice none 0 0, .slice none 0 0, .float .f32 0, .float .f32 0, .float .f32 0]) listed ww) (fun wa wb => Turn wa wb (fun b => b = w.heap.size)) ?hmono (by kernel_rfl) (by kernel_rfl) (StC.start K4.out rfl) ?hop ?hend
  case hmono =>
    intro i wa wb v hR hV
    rcases i with _ | _ | _ | _ | _ | _ | _ | _ | _ | _ | _ | _ | _ | _ | _ | _ | _ | i
    · exact hV
    · exact hV
    · exact hV
    · exact hV
    · exact hV
    · exact hV
    · exact hV
    · exact hV
    · exact hV
    · exact hV
    · exact hV
    · exact hV
    · exact hV
    · exact hV
    · exact hV
    · exact hV
    · exact hV
    · exact hV
  case hop =>
    intro q o hq listed act w3 hI hnot hcl hall
    have hC := hI.cls
    have hlen : listed.size = 17 := hI.len
    obtain ⟨n0, n1, n2⟩ := HPC.out _ hC.1
    rcases q with _ | _ | _ | _ | _ | _ | _ | _ | _ | _ | _ | _ | _ | _ | _ | _ | _ | q
    · simp at hq; subst hq
      have g5 : act.tmps[5]?.getD undef = .slice RA fx.length cA := hI.kept 5 (by kernel_rfl)
      clear hI hall hnot hcl
      refine .inl ⟨wanted_none rfl, ?_⟩
      unfold Oper.wp
      go_simp
      all_goals exact ⟨_, rfl, Turn.refl _ _, rfl, StC.step (k := 0) hC (Below.refl _ _) hFin (by decide) (by rw [hlen]; decide)⟩
    · simp at hq; subst hq
      have g7 : act.tmps[7]?.getD undef = .slice RB fy.length cB := hI.kept 7 (by kernel_rfl)
      clear hI hall hnot hcl
      refine .inl ⟨wanted_none rfl, ?_⟩
      unfold Oper.wp
      go_simp
      all_goals exact ⟨_, rfl, Turn.refl _ _, rfl, StC.step (k := 1) hC (Below.refl _ _) hFin (by decide) (by rw [hlen]; decide)⟩
    · simp at hq; subst hq
      have g9 : act.tmps[9]?.getD undef = .slice (some ⟨gC, 0, none⟩) 3 cC := hI.kept 9 (by kernel_rfl)
      clear hI hall hnot hcl
      refine .inl ⟨wanted_none rfl, ?_⟩
      unfold Oper.wp
      go_simp
      all_goals exact ⟨_, rfl, Turn.refl _ _, rfl, StC.step (k := 2) hC (Below.refl _ _) hFin (by decide) (by rw [hlen]; decide)⟩
    · simp at hq; subst hq
      have g56 : act.tmps[56]?.getD undef = .slice (some ⟨gC, 0, none⟩) 3 cC := hI.has 2 56 rfl (hall ⟨2, .data⟩ (by simp) rfl)
      clear hI hall hnot hcl
      refine .inl ⟨wanted_none rfl, ?_⟩
      unfold Oper.wp
      go_simp
      all_goals exact ⟨_, rfl, Turn.refl _ _, rfl, StC.step (k := 3) hC (Below.refl _ _) hFin (by decide) (by rw [hlen]; decide)⟩
    · simp at hq; subst hq
      have g57 : act.tmps[57]?.getD undef = .pointer (some ⟨gC, 0, none⟩) := hI.has 3 57 rfl (hall ⟨3, .data⟩ (by simp) rfl)
      clear hI hall hnot hcl
      refine .inl ⟨wanted_none rfl, ?_⟩
      unfold Oper.wp
      go_simp
      all_goals exact ⟨_, rfl, Turn.refl _ _, rfl, StC.step (k := 4) hC (Below.refl _ _) hFin (by decide) (by rw [hlen]; decide)⟩
    · simp at hq; subst hq
      have g9 : act.tmps[9]?.getD undef = .slice (some ⟨gC, 0, none⟩) 3 cC := hI.kept 9 (by kernel_rfl)
      clear hI hall hnot hcl
      refine .inl ⟨wanted_none rfl, ?_⟩
      unfold Oper.wp
      go_simp
      all_goals exact ⟨_, rfl, Turn.refl _ _, rfl, StC.step (k := 5) hC (Below.refl _ _) hFin (by decide) (by rw [hlen]; decide)⟩
    · simp at hq; subst hq
      have g59 : act.tmps[59]?.getD undef = .slice (some ⟨gC, 0, none⟩) 3 cC := hI.has 5 59 rfl (hall ⟨5, .data⟩ (by simp) rfl)
      clear hI hall hnot hcl
      refine .inl ⟨wanted_none rfl, ?_⟩
      unfold Oper.wp
      go_simp
      all_goals exact ⟨_, rfl, Turn.refl _ _, rfl, StC.step (k := 6) hC (Below.refl _ _) hFin (by decide) (by rw [hlen]; decide)⟩
    · simp at hq; subst hq
      have g60 : act.tmps[60]?.getD undef = .pointer (some ⟨gC, 1, none⟩) := hI.has 6 60 rfl (hall ⟨6, .data⟩ (by simp) rfl)
      clear hI hall hnot hcl
      refine .inl ⟨wanted_none rfl, ?_⟩
      unfold Oper.wp
      go_simp
      all_goals exact ⟨_, rfl, Turn.refl _ _, rfl, StC.step (k := 7) hC (Below.refl _ _) hFin (by decide) (by rw [hlen]; decide)⟩
    · simp at hq; subst hq
      have g9 : act.tmps[9]?.getD undef = .slice (some ⟨gC, 0, none⟩) 3 cC := hI.kept 9 (by kernel_rfl)
      clear hI hall hnot hcl
      refine .inl ⟨wanted_none rfl, ?_⟩
      unfold Oper.wp
      go_simp
      all_goals exact ⟨_, rfl, Turn.refl _ _, rfl, StC.step (k := 8) hC (Below.refl _ _) hFin (by decide) (by rw [hlen]; decide)⟩
    · simp at hq; subst hq
      have g62 : act.tmps[62]?.getD undef = .slice (some ⟨gC, 0, none⟩) 3 cC := hI.has 8 62 rfl (hall ⟨8, .data⟩ (by simp) rfl)
      clear hI hall hnot hcl
      refine .inl ⟨wanted_none rfl, ?_⟩
      unfold Oper.wp
      go_simp
      all_goals exact ⟨_, rfl, Turn.refl _ _, rfl, StC.step (k := 9) hC (Below.refl _ _) hFin (by decide) (by rw [hlen]; decide)⟩
    · simp at hq; subst hq
      have g63 : act.tmps[63]?.getD undef = .pointer (some ⟨gC, 2, none⟩) := hI.has 9 63 rfl (hall ⟨9, .data⟩ (by simp) rfl)
      clear hI hall hnot hcl
      refine .inl ⟨wanted_none rfl, ?_⟩
      unfold Oper.wp
      go_simp
      all_goals exact ⟨_, rfl, Turn.refl _ _, rfl, StC.step (k := 10) hC (Below.refl _ _) hFin (by decide) (by rw [hlen]; decide)⟩
    · simp at hq; subst hq
      have g54 : act.tmps[54]?.getD undef = .slice RA fx.length cA := hI.has 0 54 rfl (hall ⟨0, .data⟩ (by simp) rfl)
      have g55 : act.tmps[55]?.getD undef = .slice RB fy.length cB := hI.has 1 55 rfl (hall ⟨1, .data⟩ (by simp) rfl)
      have g58 : act.tmps[58]?.getD undef = .float .f32 r0 := hI.has 4 58 rfl (hall ⟨4, .data⟩ (by simp) rfl)
      have g61 : act.tmps[61]?.getD undef = .float .f32 r1 := hI.has 7 61 rfl (hall ⟨7, .data⟩ (by simp) rfl)
      have g64 : act.tmps[64]?.getD undef = .float .f32 r2 := hI.has 10 64 rfl (hall ⟨10, .data⟩ (by simp) rfl)
      clear hI hall hnot hcl
      refine .inl ⟨wanted_none rfl, ?_⟩
      unfold Oper.wp
      go_simp
      all_goals exact ⟨_, rfl, Turn.refl _ _, rfl, StC.step (k := 11) hC (Below.refl _ _) hFin (by decide) (by rw [hlen]; decide)⟩
    · simp at hq; subst hq
      have g65 : act.tmps[65]?.getD undef = .agg #[.slice RA fx.length cA, .slice RB fy.length cB, .float .f32 r0, .float .f32 r1, .float .f32 r2] := hI.has 11 65 rfl (hall ⟨11, .data⟩ (by simp) rfl)
      clear hI hall hnot hcl
      refine .inl ⟨wanted_none rfl, ?_⟩
      unfold Oper.wp
      go_simp
      refine (HGV.out _ hC.1).mono ?_
      rintro e w5 ⟨rfl, b5⟩
      exact ⟨_, rfl, Turn.of_below b5 _, rfl, StC.step (k := 12) hC b5 hFin (by decide) (by rw [hlen]; decide)⟩
    · simp at hq; subst hq
      have g66 : act.tmps[66]?.getD undef = .tuple #[.agg #[.slice none 0 0, .slice none 0 0, .float .f32 0, .float .f32 0, .float .f32 0], .bool false] := hI.has 12 66 rfl (hall ⟨12, .data⟩ (by simp) rfl)
      clear hI hall hnot hcl
      refine .inl ⟨wanted_none rfl, ?_⟩
      unfold Oper.wp
      go_simp
      all_goals exact ⟨_, rfl, Turn.refl _ _, rfl, StC.step (k := 13) hC (Below.refl _ _) hFin (by decide) (by rw [hlen]; decide)⟩
    · simp at hq; subst hq
      have g66 : act.tmps[66]?.getD undef = .tuple #[.agg #[.slice none 0 0, .slice none 0 0, .float .f32 0, .float .f32 0, .float .f32 0], .bool false] := hI.has 12 66 rfl (hall ⟨12, .data⟩ (by simp) rfl)
      clear hI hall hnot hcl
      refine .inl ⟨wanted_none rfl, ?_⟩
      unfold Oper.wp
      go_simp
      all_goals exact ⟨_, rfl, Turn.refl _ _, rfl, StC.step (k := 14) hC (Below.refl _ _) hFin (by decide) (by rw [hlen]; decide)⟩
    · simp at hq; subst hq
      have g2 : act.tmps[2]?.getD undef = .pointer (some ⟨w.heap.size, 0, none⟩) := hI.kept 2 (by kernel_rfl)
      have g67 : act.tmps[67]?.getD undef = .agg #[.slice none 0 0, .slice none 0 0, .float .f32 0, .float .f32 0, .float .f32 0] := hI.has 13 67 rfl (hall ⟨13, .data⟩ (by simp) rfl)
      clear hI hall hnot hcl
      refine .inl ⟨wanted_none rfl, ?_⟩
      unfold Oper.wp
      go_simp
      obtain ⟨vs, hvs, hvl⟩ := hC.2.1
      match vs, hvs, hvl with
      | [u0, u1, u2, u3, u4], hvs, _ =>
      have p0 := (hvs.2 0 _ rfl).1
      have f0 := (hvs.2 0 _ rfl).2
      have p1 := (hvs.2 1 _ rfl).1
      have f1 := (hvs.2 1 _ rfl).2
      have p2 := (hvs.2 2 _ rfl).1
      have f2 := (hvs.2 2 _ rfl).2
      have p3 := (hvs.2 3 _ rfl).1
      have f3 := (hvs.2 3 _ rfl).2
      have p4 := (hvs.2 4 _ rfl).1
      have f4 := (hvs.2 4 _ rfl).2
      go_simp
      have hf := (((((hvs.set (i := 0) (by simp) (.slice none 0 0)).set (i := 1) (by simp) (.slice none 0 0)).set (i := 2) (by simp) (.float .f32 0)).set (i := 3) (by simp) (.float .f32 0)).set (i := 4) (by simp) (.float .f32 0))
      have ht2 := (((((Turn.set w3 (B := w.heap.size) ⟨w.heap.size, 0, none⟩ rfl (.slice none 0 0)).trans (Turn.set _ (B := w.heap.size) ⟨w.heap.size, 1, none⟩ rfl (.slice none 0 0))).trans (Turn.set _ (B := w.heap.size) ⟨w.heap.size, 2, none⟩ rfl (.float .f32 0))).trans (Turn.set _ (B := w.heap.size) ⟨w.heap.size, 3, none⟩ rfl (.float .f32 0))).trans (Turn.set _ (B := w.heap.size) ⟨w.heap.size, 4, none⟩ rfl (.float .f32 0)))
      have hst := StC.store (st := 15) hC ht2 hf rfl hf
      first | exact ⟨ht2, trivial, hst⟩ | exact ⟨ht2, hst⟩
    · simp at hq; subst hq
      have g68 : act.tmps[68]?.getD undef = .bool false := hI.has 14 68 rfl (hall ⟨14, .data⟩ (by simp) rfl)
      clear hI hall hnot hcl
      refine .inl ⟨wanted_none rfl, ?_⟩
      unfold Oper.wp
      go_simp
      all_goals exact ⟨_, rfl, Turn.refl _ _, rfl, StC.step (k := 16) hC (Below.refl _ _) hFin (by decide) (by rw [hlen]; decide)⟩
    · simp at hq
  case hend =>
    intro listed act w3 hI hall
    have hC := hI.cls
    have hlen : listed.size = 17 := hI.len
    obtain ⟨n0, n1, n2⟩ := HPC.out _ hC.1
    have hf := hC.2.2 (hall 15 (by decide))
    have ht := hC.1
    have g2 : act.tmps[2]?.getD undef = .pointer (some ⟨w.heap.size, 0, none⟩) := hI.kept 2 (by kernel_rfl)
    have g3 : act.tmps[3]?.getD undef = .bool false := hI.has 16 3 rfl (hall 16 (by decide))
    have hd := hI.defers
    clear hI hall hFin hC
    have e0 := (hf.2 0 _ rfl).1
    have e1 := (hf.2 1 _ rfl).1
    have e2 := (hf.2 2 _ rfl).1
    have e3 := (hf.2 3 _ rfl).1
    have e4 := (hf.2 4 _ rfl).1
    have hbw := ht.2.2.2 w BC.out (fun b hb => by have hb : b = w.heap.size := hb; omega)
    have hown := (HO.out.turnV ht (by have := HZ0.out; omega)).baseV (B := w.heap.size) (by have := HZ0.out; omega)
    go_wp2
    refine bodyPost_ret (v := .tuple #[.agg #[.slice none 0 0, .slice none 0 0, .float .f32 0, .float .f32 0, .float .f32 0], .bool false]) (by simp [results, Tryz.results31, g2, g3, e0, e1, e2, e3, e4, go_sem]) (by first | rfl | exact hd) ?_
    exact ⟨rfl, hbw⟩
theorem s_l08ReadFarm (s : ByteArray) (w : World) (hs : s.size ≤ 1048576) :
    Calls Tryz.prog 31 #[.string s] w fun e w' => FmV w.heap.size (gL (rfO s) (fmX s)) (gL (rfO s) (fmY s)) (gF (rfO s) (fmN s 0)) (gF (rfO s) (fmN s 1)) (gF (rfO s) (fmN s 2)) (rfO s) e w' ∧ Below w.heap.size w w' := by
  have HN : ∀ (hr : fmO s = false), Calls Tryz.prog 31 #[.string s] w (fun e w' => e = .returned (.tuple #[.agg #[.slice none 0 0, .slice none 0 0, .float .f32 0, .float .f32 0, .float .f32 0], .bool false]) ∧ Below w.heap.size w w') → Calls Tryz.prog 31 #[.string s] w fun e w' => FmV w.heap.size (gL (rfO s) (fmX s)) (gL (rfO s) (fmY s)) (gF (rfO s) (fmN s 0)) (gF (rfO s) (fmN s 1)) (gF (rfO s) (fmN s 2)) (rfO s) e w' ∧ Below w.heap.size w w' := by
    intro hr h
    refine h.mono ?_
    rintro e w' ⟨rfl, hb⟩
    exact ⟨FmV.zero s _ _ (by unfold rfO; rw [hr]; rfl), hb⟩
  by_cases hl : (cutS 59 s).length = 3
  · cases ho0 : nmO (pcs 59 s 0)
    · exact HN (fmO_no (fun e => by rw [ho0] at e; cases e.2.1)) (s_l08ReadFarm_one s w hs hl ho0)
    · cases ho1 : nmO (pcs 59 s 1)
      · exact HN (fmO_no (fun e => by rw [ho1] at e; cases e.2.2.1)) (s_l08ReadFarm_two s w hs hl ho0 ho1)
      · cases ho2 : nmO (pcs 59 s 2)
        · exact HN (fmO_no (fun e => by rw [(nmN_iff.1 e.2.2.2).1] at ho2; cases ho2)) (s_l08ReadFarm_three s w hs hl ho0 ho1 ho2)
        · by_cases hl2 : (nmL (pcs 59 s 2)).length = 3
          · have h := fmO_iff.2 ⟨hl, ho0, ho1, nmN_iff.2 ⟨ho2, hl2⟩⟩
            cases hv : frmV (fmX s) (fmY s) (fmN s 0) (fmN s 1) (fmN s 2)
            · have hr : rfO s = false := by unfold rfO; rw [h, hv]; rfl
              refine (s_l08ReadFarm_inv s w hs hl ho0 ho1 ho2 hl2 hv).mono ?_
              rintro e w' ⟨rfl, hb⟩
              exact ⟨FmV.zero s _ _ hr, hb⟩
            · have hr : rfO s = true := by unfold rfO; rw [h, hv]; rfl
              refine (s_l08ReadFarm_yes s w hs hl ho0 ho1 ho2 hl2 hv).mono ?_
              rintro e w' ⟨he, hb⟩
              exact ⟨FmV.full s _ _ _ hr he, hb⟩
          · exact HN (fmO_no (fun e => hl2 (nmN_iff.1 e.2.2.2).2)) (s_l08ReadFarm_ln s w hs hl ho0 ho1 ho2 hl2)
  · exact HN (fmO_no (fun e => hl e.1)) (s_l08ReadFarm_cut s w hs hl)
set_option maxHeartbeats 8000000 in
theorem s_ReadFarmV (s : ByteArray) (w : World) (hs : s.size ≤ 1048576) :
    Calls Tryz.prog 10 #[.string s] w fun e w' => FmV w.heap.size (gL (rfO s) (fmX s)) (gL (rfO s) (fmY s)) (gF (rfO s) (fmN s 0)) (gF (rfO s) (fmN s 1)) (gF (rfO s) (fmN s 2)) (rfO s) e w' ∧ Below w.heap.size w w' := by
  obtain ⟨w0, hw0⟩ : ∃ z, z = w.alloc (.cells #[.slice none 0 0, .slice none 0 0, .float .f32 0, .float .f32 0, .float .f32 0] 33) := ⟨_, rfl⟩
  have b0 : Below w.heap.size w w0 := by rw [hw0]; exact (Below.refl _ _).alloc (Nat.le_refl _) _
  have HZ0 : Hid (w0.heap.size = w.heap.size + 1) := Lib.hid (by rw [hw0]; simp)
  have K0 : Hid (BlkL w0 w.heap.size [.slice none 0 0, .slice none 0 0, .float .f32 0, .float .f32 0, .float .f32 0]) := Lib.hid (by rw [hw0]; exact blkL_at w #[.slice none 0 0, .slice none 0 0, .float .f32 0, .float .f32 0, .float .f32 0] _ rfl)
  have HC := Lib.hid (s_l08ReadFarm s w0 hs)
  have B0 := Lib.hid b0
  clear hs b0
  generalize gL (rfO s) (fmX s) = fx at HC ⊢
  generalize gL (rfO s) (fmY s) = fy at HC ⊢
  generalize gF (rfO s) (fmN s 0) = r0 at HC ⊢
  generalize gF (rfO s) (fmN s 1) = r1 at HC ⊢
  generalize gF (rfO s) (fmN s 2) = r2 at HC ⊢
  generalize rfO s = bb at HC ⊢
  go_enter Tryz.func10, Tryz.ntmps10
  go_upto_region 1 with fail
  rw [← hw0]
  clear hw0
  go_wp2_with fail
  refine HC.out.mono ?_
  rintro e w1 ⟨hx, b1⟩
  obtain ⟨X, Y, cx, cy, gx, gy, rfl, ho⟩ := hx
  have K1 := Lib.hid (K0.out.below b1)
  have BB := Lib.hid (below_of B0.out B0.out.size b1)
  have HO := Lib.hid ho
  clear b1 ho K0 B0 HC
  obtain ⟨⟨f0, g0⟩, ⟨f1, g1⟩, ⟨f2, g2⟩, ⟨f3, g3⟩, ⟨f4, g4⟩⟩ : (_ ∧ _) ∧ (_ ∧ _) ∧ (_ ∧ _) ∧ (_ ∧ _) ∧ (_ ∧ _) := ⟨K1.out.2 0 _ rfl, K1.out.2 1 _ rfl, K1.out.2 2 _ rfl, K1.out.2 3 _ rfl, K1.out.2 4 _ rfl⟩
  go_wp2
  have R := Lib.hid ((((((BB.out.setCell (p := ⟨w.heap.size, 0, none⟩) (by simp) (.slice X fx.length cx)).setCell (p := ⟨w.heap.size, 1, none⟩) (by simp) (.slice Y fy.length cy)).setCell (p := ⟨w.heap.size, 2, none⟩) (by simp) (.float .f32 r0)).setCell (p := ⟨w.heap.size, 3, none⟩) (by simp) (.float .f32 r1)).setCell (p := ⟨w.heap.size, 4, none⟩) (by simp) (.float .f32 r2)))
  have Q := Lib.hid ((((((K1.out.set (i := 0) (by simp) (.slice X fx.length cx)).set (i := 1) (by simp) (.slice Y fy.length cy)).set (i := 2) (by simp) (.float .f32 r0)).set (i := 3) (by simp) (.float .f32 r1)).set (i := 4) (by simp) (.float .f32 r2)))
  have HR := Lib.hid (((((((HO.out.setV (p := ⟨w.heap.size, 0, none⟩) (by show w.heap.size < _; have := HZ0.out; omega) (.slice X fx.length cx)).setV (p := ⟨w.heap.size, 1, none⟩) (by show w.heap.size < _; have := HZ0.out; omega) (.slice Y fy.length cy)).setV (p := ⟨w.heap.size, 2, none⟩) (by show w.heap.size < _; have := HZ0.out; omega) (.float .f32 r0)).setV (p := ⟨w.heap.size, 3, none⟩) (by show w.heap.size < _; have := HZ0.out; omega) (.float .f32 r1)).setV (p := ⟨w.heap.size, 4, none⟩) (by show w.heap.size < _; have := HZ0.out; omega) (.float .f32 r2))).baseV (B := w.heap.size) (by have := HZ0.out; omega))
  obtain ⟨c0, c1, c2, c3, c4⟩ : _ ∧ _ ∧ _ ∧ _ ∧ _ := ⟨(Q.out.2 0 _ rfl).1, (Q.out.2 1 _ rfl).1, (Q.out.2 2 _ rfl).1, (Q.out.2 3 _ rfl).1, (Q.out.2 4 _ rfl).1⟩
  refine bodyPost_ret (v := .tuple #[.agg #[.slice X fx.length cx, .slice Y fy.length cy, .float .f32 r0, .float .f32 r1, .float .f32 r2], .bool bb]) ?_ rfl ⟨⟨X, Y, cx, cy, gx, gy, rfl, HR.out⟩, R.out⟩
  simp [results, Tryz.results10, go_sem, c0, c1, c2, c3, c4]
theorem s_ReadFarm (s : ByteArray) (w : World) (hs : s.size ≤ 1048576) :
    Calls Tryz.prog 10 #[.string s] w fun e w' => ∃ (R1 R2 : Option Addr) (c1 c2 g1 g2 : Nat), e = .returned (.tuple #[.agg #[.slice R1 (gL (rfO s) (fmX s)).length c1, .slice R2 (gL (rfO s) (fmY s)).length c2, .float .f32 (gF (rfO s) (fmN s 0)), .float .f32 (gF (rfO s) (fmN s 1)), .float .f32 (gF (rfO s) (fmN s 2))], .bool (rfO s)]) ∧ OwnR2 w' w.heap.size R1 R2 g1 g2 (gL (rfO s) (fmX s)) (gL (rfO s) (fmY s)) ∧ Below w.heap.size w w' := by
  refine (s_ReadFarmV s w hs).mono ?_
  rintro e w' ⟨hx, hb⟩
  obtain ⟨X, Y, cx, cy, gx, gy, he, ho⟩ := hx
  exact ⟨X, Y, cx, cy, gx, gy, he, ho, hb⟩
end Go.Proofs.YtknabmknboffgaaGreatDoor
namespace Go.Proofs.YtknabmknboffgaaGreatDoor
open Go Go.RowKit
set_option maxHeartbeats 16000000 in
set_option maxRecDepth 100000 in
theorem law_FnExactReadFarm (s0 : ByteArray) (w : World) (_hz0 : s0.size ≤ maxLen) (he : EV w) (ht : T64 w) (hm0 : ML w) (hv : ∃ pv, EMv pv w) :
    Calls Tryz.prog 4 #[.string s0] w fun e w' => e = .returned (.bool true) ∧ Below w.heap.size w w' := by
  obtain ⟨pv, hv⟩ := hv
  have HE := Lib.hid he
  clear he
  have HT := Lib.hid ht
  clear ht
  have HM0 := Lib.hid hm0
  clear hm0
  have HV := Lib.hid hv
  clear hv
  by_cases hb0 : s0.size ≤ 1048576
  · skip
    have HZ0 := Lib.hid hb0
    have hbi0 : ¬ (1048576 : Int) < (s0.size : Int) := by omega
    clear hb0
    have HF : Hid (FewS (gL (rfO s0) (fmX s0)) (gL (rfO s0) (fmY s0))) := Lib.hid (fm_fewG s0)
    go_enter Tryz.func4, Tryz.ntmps4
    go_wp2_with fail
    refine (s_ReadFarm s0 _ HZ0.out).mono ?_
    rintro e wd1 ⟨cR1, cR2, cc1, cc2, cg1, cg2, rfl, ho, b⟩
    have B1 : Hid (Below w.heap.size w wd1) := Lib.hid b
    have Z1 : Hid (w.heap.size ≤ wd1.heap.size) := Lib.hid b.size
    have Xc : Hid (OwnR2 wd1 w.heap.size cR1 cR2 cg1 cg2 (gL (rfO s0) (fmX s0)) (gL (rfO s0) (fmY s0))) := Lib.hid (ho)
    have Xcbd := Xc
    clear ho
    clear b
    obtain ⟨wd2, hw2⟩ : ∃ x, x = wd1.alloc (.cells #[.slice cR1 (gL (rfO s0) (fmX s0)).length cc1, .slice cR2 (gL (rfO s0) (fmY s0)).length cc2, .float .f32 (gF (rfO s0) (fmN s0 0)), .float .f32 (gF (rfO s0) (fmN s0 1)), .float .f32 (gF (rfO s0) (fmN s0 2))] 33) := ⟨_, rfl⟩
    have b : Below wd1.heap.size wd1 wd2 := by rw [hw2]; exact (Below.refl _ _).alloc (Nat.le_refl _) _
    have Y2 : Hid (wd1.heap.size + 1 ≤ wd2.heap.size) := Lib.hid (by rw [hw2]; simp)
    have B2 : Hid (Below w.heap.size w wd2) := Lib.hid (below_of B1.out B1.out.size b)
    have Z2 : Hid (wd1.heap.size ≤ wd2.heap.size) := Lib.hid b.size
    have Xc_1 : Hid (OwnR2 wd2 w.heap.size cR1 cR2 cg1 cg2 (gL (rfO s0) (fmX s0)) (gL (rfO s0) (fmY s0))) := Lib.hid (Xc.out.below b)
    have WB : Hid (BlkL wd2 (wd1.heap.size) [.slice cR1 (gL (rfO s0) (fmX s0)).length cc1, .slice cR2 (gL (rfO s0) (fmY s0)).length cc2, .float .f32 (gF (rfO s0) (fmN s0 0)), .float .f32 (gF (rfO s0) (fmN s0 1)), .float .f32 (gF (rfO s0) (fmN s0 2))]) := Lib.hid (by rw [hw2]; exact blkL_at wd1 #[.slice cR1 (gL (rfO s0) (fmX s0)).length cc1, .slice cR2 (gL (rfO s0) (fmY s0)).length cc2, .float .f32 (gF (rfO s0) (fmN s0 0)), .float .f32 (gF (rfO s0) (fmN s0 1)), .float .f32 (gF (rfO s0) (fmN s0 2))] 33 rfl)
    clear b
    go_wp2_with fail
    rw [← hw2]
    clear hw2
    clear Xc
    obtain ⟨WBx0, WBx1, WBx2, WBx3, WBx4⟩ := WB.out.five
    go_wp2_with fail
    refine (i_ReadFarm s0 pv _ HZ0.out (HE.out.below B2.out) (HT.out.below B2.out) (HM0.out.below B2.out) (HV.out.below B2.out)).mono ?_
    rintro e wd3 ⟨gR1, gR2, gc1, gc2, gg1, gg2, rfl, ho, b⟩
    have B3 : Hid (Below w.heap.size w wd3) := Lib.hid (below_of B2.out B2.out.size b)
    have Z3 : Hid (wd2.heap.size ≤ wd3.heap.size) := Lib.hid b.size
    have Xc_2 : Hid (OwnR2 wd3 w.heap.size cR1 cR2 cg1 cg2 (gL (rfO s0) (fmX s0)) (gL (rfO s0) (fmY s0))) := Lib.hid (Xc_1.out.below b)
    have WB_1 : Hid (BlkL wd3 (wd1.heap.size) [.slice cR1 (gL (rfO s0) (fmX s0)).length cc1, .slice cR2 (gL (rfO s0) (fmY s0)).length cc2, .float .f32 (gF (rfO s0) (fmN s0 0)), .float .f32 (gF (rfO s0) (fmN s0 1)), .float .f32 (gF (rfO s0) (fmN s0 2))]) := Lib.hid (WB.out.below b)
    clear WBx0 WBx1 WBx2 WBx3 WBx4
    clear Xc_1 WB
    have Xg : Hid (OwnR2 wd3 wd2.heap.size gR1 gR2 gg1 gg2 (gL (rfO s0) (fmX s0)) (gL (rfO s0) (fmY s0))) := Lib.hid (ho)
    have Xgbd := Xg
    clear ho
    clear b
    obtain ⟨wd4, hw4⟩ : ∃ x, x = wd3.alloc (.cells #[.slice gR1 (gL (rfO s0) (fmX s0)).length gc1, .slice gR2 (gL (rfO s0) (fmY s0)).length gc2, .float .f32 (gF (rfO s0) (fmN s0 0)), .float .f32 (gF (rfO s0) (fmN s0 1)), .float .f32 (gF (rfO s0) (fmN s0 2))] 33) := ⟨_, rfl⟩
    have b : Below wd3.heap.size wd3 wd4 := by rw [hw4]; exact (Below.refl _ _).alloc (Nat.le_refl _) _
    have Y4 : Hid (wd3.heap.size + 1 ≤ wd4.heap.size) := Lib.hid (by rw [hw4]; simp)
    have B4 : Hid (Below w.heap.size w wd4) := Lib.hid (below_of B3.out B3.out.size b)
    have Z4 : Hid (wd3.heap.size ≤ wd4.heap.size) := Lib.hid b.size
    have Xc_3 : Hid (OwnR2 wd4 w.heap.size cR1 cR2 cg1 cg2 (gL (rfO s0) (fmX s0)) (gL (rfO s0) (fmY s0))) := Lib.hid (Xc_2.out.below b)
    have WB_2 : Hid (BlkL wd4 (wd1.heap.size) [.slice cR1 (gL (rfO s0) (fmX s0)).length cc1, .slice cR2 (gL (rfO s0) (fmY s0)).length cc2, .float .f32 (gF (rfO s0) (fmN s0 0)), .float .f32 (gF (rfO s0) (fmN s0 1)), .float .f32 (gF (rfO s0) (fmN s0 2))]) := Lib.hid (WB_1.out.below b)
    have Xg_1 : Hid (OwnR2 wd4 wd2.heap.size gR1 gR2 gg1 gg2 (gL (rfO s0) (fmX s0)) (gL (rfO s0) (fmY s0))) := Lib.hid (Xg.out.below b)
    have GB : Hid (BlkL wd4 (wd3.heap.size) [.slice gR1 (gL (rfO s0) (fmX s0)).length gc1, .slice gR2 (gL (rfO s0) (fmY s0)).length gc2, .float .f32 (gF (rfO s0) (fmN s0 0)), .float .f32 (gF (rfO s0) (fmN s0 1)), .float .f32 (gF (rfO s0) (fmN s0 2))]) := Lib.hid (by rw [hw4]; exact blkL_at wd3 #[.slice gR1 (gL (rfO s0) (fmX s0)).length gc1, .slice gR2 (gL (rfO s0) (fmY s0)).length gc2, .float .f32 (gF (rfO s0) (fmN s0 0)), .float .f32 (gF (rfO s0) (fmN s0 1)), .float .f32 (gF (rfO s0) (fmN s0 2))] 33 rfl)
    clear b
    have WBy0 := fun o => ((WB_1.out.alloc o).2 0 _ rfl).1
    have WBy1 := fun o => ((WB_1.out.alloc o).2 1 _ rfl).1
    have WBy2 := fun o => ((WB_1.out.alloc o).2 2 _ rfl).1
    have WBy3 := fun o => ((WB_1.out.alloc o).2 3 _ rfl).1
    have WBy4 := fun o => ((WB_1.out.alloc o).2 4 _ rfl).1
    go_wp2_with fail
    rw [← hw4]
    clear hw4
    clear WBy0 WBy1 WBy2 WBy3 WBy4
    clear Xc_2 WB_1 Xg
    obtain ⟨WBx0, WBx1, WBx2, WBx3, WBx4⟩ := WB_2.out.five
    obtain ⟨GBx0, GBx1, GBx2, GBx3, GBx4⟩ := GB.out.five
    go_wp2_with fail
    refine (l_eqFarm _ _ _ _ _ _ _ _ (gL (rfO s0) (fmX s0)) (gL (rfO s0) (fmY s0)) _ _ _ _ _ _ _ Xg_1.out.fl Xc_3.out.fl HF.out rfl rfl rfl).mono ?_
    rintro e wd5 ⟨rfl, b⟩
    have B5 : Hid (Below w.heap.size w wd5) := Lib.hid (below_of B4.out B4.out.size b)
    have Z5 : Hid (wd4.heap.size ≤ wd5.heap.size) := Lib.hid b.size
    have Xc_4 : Hid (OwnR2 wd5 w.heap.size cR1 cR2 cg1 cg2 (gL (rfO s0) (fmX s0)) (gL (rfO s0) (fmY s0))) := Lib.hid (Xc_3.out.below b)
    have WB_3 : Hid (BlkL wd5 (wd1.heap.size) [.slice cR1 (gL (rfO s0) (fmX s0)).length cc1, .slice cR2 (gL (rfO s0) (fmY s0)).length cc2, .float .f32 (gF (rfO s0) (fmN s0 0)), .float .f32 (gF (rfO s0) (fmN s0 1)), .float .f32 (gF (rfO s0) (fmN s0 2))]) := Lib.hid (WB_2.out.below b)
    have Xg_2 : Hid (OwnR2 wd5 wd2.heap.size gR1 gR2 gg1 gg2 (gL (rfO s0) (fmX s0)) (gL (rfO s0) (fmY s0))) := Lib.hid (Xg_1.out.below b)
    have GB_1 : Hid (BlkL wd5 (wd3.heap.size) [.slice gR1 (gL (rfO s0) (fmX s0)).length gc1, .slice gR2 (gL (rfO s0) (fmY s0)).length gc2, .float .f32 (gF (rfO s0) (fmN s0 0)), .float .f32 (gF (rfO s0) (fmN s0 1)), .float .f32 (gF (rfO s0) (fmN s0 2))]) := Lib.hid (GB.out.below b)
    clear WBx0 WBx1 WBx2 WBx3 WBx4 GBx0 GBx1 GBx2 GBx3 GBx4
    clear Xc_3 WB_2 Xg_1 GB
    clear b
    obtain ⟨WBx0, WBx1, WBx2, WBx3, WBx4⟩ := WB_3.out.five
    obtain ⟨GBx0, GBx1, GBx2, GBx3, GBx4⟩ := GB_1.out.five
    go_wp2_with fail
    refine (l_markFarm _ _ _ _ _ _ _ 1 (gL (rfO s0) (fmX s0)) (gL (rfO s0) (fmY s0)) _ _ _ _ (Xg_2.out) (by have := HF.out; unfold FewS at this; omega) (by omega) _ rfl).mono ?_
    rintro e wd6 ⟨rfl, om, t⟩
    have B6 : Hid (Below w.heap.size w wd6) := Lib.hid (t.2.2.2 w B5.out (by intro b hh; have h1 := Xgbd.out.bd hh; have := Z1.out; have := Z2.out; have := Y2.out; have := Z3.out; have := Z4.out; have := Y4.out; have := Z5.out; omega))
    have Z6 : Hid (wd5.heap.size ≤ wd6.heap.size) := Lib.hid t.1
    have Xc_5 : Hid (OwnR2 wd6 w.heap.size cR1 cR2 cg1 cg2 (gL (rfO s0) (fmX s0)) (gL (rfO s0) (fmY s0))) := Lib.hid (Xc_4.out.turnS t (by intro c hc hh; have h1 := Xgbd.out.bd hh; have h2 := Xcbd.out.bd hc; have := Z1.out; have := Z2.out; have := Y2.out; have := Z3.out; have := Z4.out; have := Y4.out; have := Z5.out; omega))
    have WB_4 : Hid (BlkL wd6 (wd1.heap.size) [.slice cR1 (gL (rfO s0) (fmX s0)).length cc1, .slice cR2 (gL (rfO s0) (fmY s0)).length cc2, .float .f32 (gF (rfO s0) (fmN s0 0)), .float .f32 (gF (rfO s0) (fmN s0 1)), .float .f32 (gF (rfO s0) (fmN s0 2))]) := Lib.hid (WB_3.out.turnS t (by intro hh; have h1 := Xgbd.out.bd hh; have := Z1.out; have := Z2.out; have := Y2.out; have := Z3.out; have := Z4.out; have := Y4.out; have := Z5.out; omega))
    have GB_2 : Hid (BlkL wd6 (wd3.heap.size) [.slice gR1 (gL (rfO s0) (fmX s0)).length gc1, .slice gR2 (gL (rfO s0) (fmY s0)).length gc2, .float .f32 (gF (rfO s0) (fmN s0 0)), .float .f32 (gF (rfO s0) (fmN s0 1)), .float .f32 (gF (rfO s0) (fmN s0 2))]) := Lib.hid (GB_1.out.turnS t (by intro hh; have h1 := Xgbd.out.bd hh; have := Z1.out; have := Z2.out; have := Y2.out; have := Z3.out; have := Z4.out; have := Y4.out; have := Z5.out; omega))
    have XM : Hid (OwnR2 wd6 wd2.heap.size gR1 gR2 gg1 gg2 (marks 1 (gL (rfO s0) (fmX s0)).length) (marks (1 + (gL (rfO s0) (fmX s0)).length) (gL (rfO s0) (fmY s0)).length)) := Lib.hid (om)
    clear WBx0 WBx1 WBx2 WBx3 WBx4 GBx0 GBx1 GBx2 GBx3 GBx4
    clear Xc_4 WB_3 GB_1
    clear t om
    have hm : (0 : Int) ≤ ((1 : Nat) : Int) + ((gL (rfO s0) (fmX s0)).length : Int) + ((gL (rfO s0) (fmY s0)).length : Int) := by omega
    obtain ⟨WBx0, WBx1, WBx2, WBx3, WBx4⟩ := WB_4.out.five
    obtain ⟨GBx0, GBx1, GBx2, GBx3, GBx4⟩ := GB_2.out.five
    go_wp2_with fail
    refine (l_heldFarm _ _ _ _ _ _ _ 1 _ _ _ _ _ _ (XM.out) (by have := HF.out; unfold FewS at this; omega) (by omega) _ rfl).mono ?_
    rintro e wd7 ⟨rfl, b⟩
    have B7 : Hid (Below w.heap.size w wd7) := Lib.hid (below_of B6.out B6.out.size b)
    have Z7 : Hid (wd6.heap.size ≤ wd7.heap.size) := Lib.hid b.size
    have Xc_6 : Hid (OwnR2 wd7 w.heap.size cR1 cR2 cg1 cg2 (gL (rfO s0) (fmX s0)) (gL (rfO s0) (fmY s0))) := Lib.hid (Xc_5.out.below b)
    have WB_5 : Hid (BlkL wd7 (wd1.heap.size) [.slice cR1 (gL (rfO s0) (fmX s0)).length cc1, .slice cR2 (gL (rfO s0) (fmY s0)).length cc2, .float .f32 (gF (rfO s0) (fmN s0 0)), .float .f32 (gF (rfO s0) (fmN s0 1)), .float .f32 (gF (rfO s0) (fmN s0 2))]) := Lib.hid (WB_4.out.below b)
    have GB_3 : Hid (BlkL wd7 (wd3.heap.size) [.slice gR1 (gL (rfO s0) (fmX s0)).length gc1, .slice gR2 (gL (rfO s0) (fmY s0)).length gc2, .float .f32 (gF (rfO s0) (fmN s0 0)), .float .f32 (gF (rfO s0) (fmN s0 1)), .float .f32 (gF (rfO s0) (fmN s0 2))]) := Lib.hid (GB_2.out.below b)
    have XM_1 : Hid (OwnR2 wd7 wd2.heap.size gR1 gR2 gg1 gg2 (marks 1 (gL (rfO s0) (fmX s0)).length) (marks (1 + (gL (rfO s0) (fmX s0)).length) (gL (rfO s0) (fmY s0)).length)) := Lib.hid (XM.out.below b)
    clear WBx0 WBx1 WBx2 WBx3 WBx4 GBx0 GBx1 GBx2 GBx3 GBx4
    clear Xc_5 WB_4 GB_2 XM
    clear b
    obtain ⟨WBx0, WBx1, WBx2, WBx3, WBx4⟩ := WB_5.out.five
    obtain ⟨GBx0, GBx1, GBx2, GBx3, GBx4⟩ := GB_3.out.five
    go_wp2_with fail
    refine (i_ReadFarm s0 pv _ HZ0.out (HE.out.below B7.out) (HT.out.below B7.out) (HM0.out.below B7.out) (HV.out.below B7.out)).mono ?_
    rintro e wd8 ⟨hR1, hR2, hc1, hc2, hg1, hg2, rfl, ho, b⟩
    have B8 : Hid (Below w.heap.size w wd8) := Lib.hid (below_of B7.out B7.out.size b)
    have Z8 : Hid (wd7.heap.size ≤ wd8.heap.size) := Lib.hid b.size
    have Xc_7 : Hid (OwnR2 wd8 w.heap.size cR1 cR2 cg1 cg2 (gL (rfO s0) (fmX s0)) (gL (rfO s0) (fmY s0))) := Lib.hid (Xc_6.out.below b)
    have WB_6 : Hid (BlkL wd8 (wd1.heap.size) [.slice cR1 (gL (rfO s0) (fmX s0)).length cc1, .slice cR2 (gL (rfO s0) (fmY s0)).length cc2, .float .f32 (gF (rfO s0) (fmN s0 0)), .float .f32 (gF (rfO s0) (fmN s0 1)), .float .f32 (gF (rfO s0) (fmN s0 2))]) := Lib.hid (WB_5.out.below b)
    have GB_4 : Hid (BlkL wd8 (wd3.heap.size) [.slice gR1 (gL (rfO s0) (fmX s0)).length gc1, .slice gR2 (gL (rfO s0) (fmY s0)).length gc2, .float .f32 (gF (rfO s0) (fmN s0 0)), .float .f32 (gF (rfO s0) (fmN s0 1)), .float .f32 (gF (rfO s0) (fmN s0 2))]) := Lib.hid (GB_3.out.below b)
    have XM_2 : Hid (OwnR2 wd8 wd2.heap.size gR1 gR2 gg1 gg2 (marks 1 (gL (rfO s0) (fmX s0)).length) (marks (1 + (gL (rfO s0) (fmX s0)).length) (gL (rfO s0) (fmY s0)).length)) := Lib.hid (XM_1.out.below b)
    clear WBx0 WBx1 WBx2 WBx3 WBx4 GBx0 GBx1 GBx2 GBx3 GBx4
    clear Xc_6 WB_5 GB_3 XM_1
    have Xh : Hid (OwnR2 wd8 wd7.heap.size hR1 hR2 hg1 hg2 (gL (rfO s0) (fmX s0)) (gL (rfO s0) (fmY s0))) := Lib.hid (ho)
    have Xhbd := Xh
    clear ho
    clear b
    obtain ⟨wd9, hw9⟩ : ∃ x, x = wd8.alloc (.cells #[.slice hR1 (gL (rfO s0) (fmX s0)).length hc1, .slice hR2 (gL (rfO s0) (fmY s0)).length hc2, .float .f32 (gF (rfO s0) (fmN s0 0)), .float .f32 (gF (rfO s0) (fmN s0 1)), .float .f32 (gF (rfO s0) (fmN s0 2))] 33) := ⟨_, rfl⟩
    have b : Below wd8.heap.size wd8 wd9 := by rw [hw9]; exact (Below.refl _ _).alloc (Nat.le_refl _) _
    have Y9 : Hid (wd8.heap.size + 1 ≤ wd9.heap.size) := Lib.hid (by rw [hw9]; simp)
    have B9 : Hid (Below w.heap.size w wd9) := Lib.hid (below_of B8.out B8.out.size b)
    have Z9 : Hid (wd8.heap.size ≤ wd9.heap.size) := Lib.hid b.size
    have Xc_8 : Hid (OwnR2 wd9 w.heap.size cR1 cR2 cg1 cg2 (gL (rfO s0) (fmX s0)) (gL (rfO s0) (fmY s0))) := Lib.hid (Xc_7.out.below b)
    have WB_7 : Hid (BlkL wd9 (wd1.heap.size) [.slice cR1 (gL (rfO s0) (fmX s0)).length cc1, .slice cR2 (gL (rfO s0) (fmY s0)).length cc2, .float .f32 (gF (rfO s0) (fmN s0 0)), .float .f32 (gF (rfO s0) (fmN s0 1)), .float .f32 (gF (rfO s0) (fmN s0 2))]) := Lib.hid (WB_6.out.below b)
    have GB_5 : Hid (BlkL wd9 (wd3.heap.size) [.slice gR1 (gL (rfO s0) (fmX s0)).length gc1, .slice gR2 (gL (rfO s0) (fmY s0)).length gc2, .float .f32 (gF (rfO s0) (fmN s0 0)), .float .f32 (gF (rfO s0) (fmN s0 1)), .float .f32 (gF (rfO s0) (fmN s0 2))]) := Lib.hid (GB_4.out.below b)
    have XM_3 : Hid (OwnR2 wd9 wd2.heap.size gR1 gR2 gg1 gg2 (marks 1 (gL (rfO s0) (fmX s0)).length) (marks (1 + (gL (rfO s0) (fmX s0)).length) (gL (rfO s0) (fmY s0)).length)) := Lib.hid (XM_2.out.below b)
    have Xh_1 : Hid (OwnR2 wd9 wd7.heap.size hR1 hR2 hg1 hg2 (gL (rfO s0) (fmX s0)) (gL (rfO s0) (fmY s0))) := Lib.hid (Xh.out.below b)
    have HB : Hid (BlkL wd9 (wd8.heap.size) [.slice hR1 (gL (rfO s0) (fmX s0)).length hc1, .slice hR2 (gL (rfO s0) (fmY s0)).length hc2, .float .f32 (gF (rfO s0) (fmN s0 0)), .float .f32 (gF (rfO s0) (fmN s0 1)), .float .f32 (gF (rfO s0) (fmN s0 2))]) := Lib.hid (by rw [hw9]; exact blkL_at wd8 #[.slice hR1 (gL (rfO s0) (fmX s0)).length hc1, .slice hR2 (gL (rfO s0) (fmY s0)).length hc2, .float .f32 (gF (rfO s0) (fmN s0 0)), .float .f32 (gF (rfO s0) (fmN s0 1)), .float .f32 (gF (rfO s0) (fmN s0 2))] 33 rfl)
    clear b
    have WBy0 := fun o => ((WB_6.out.alloc o).2 0 _ rfl).1
    have WBy1 := fun o => ((WB_6.out.alloc o).2 1 _ rfl).1
    have WBy2 := fun o => ((WB_6.out.alloc o).2 2 _ rfl).1
    have WBy3 := fun o => ((WB_6.out.alloc o).2 3 _ rfl).1
    have WBy4 := fun o => ((WB_6.out.alloc o).2 4 _ rfl).1
    have GBy0 := fun o => ((GB_4.out.alloc o).2 0 _ rfl).1
    have GBy1 := fun o => ((GB_4.out.alloc o).2 1 _ rfl).1
    have GBy2 := fun o => ((GB_4.out.alloc o).2 2 _ rfl).1
    have GBy3 := fun o => ((GB_4.out.alloc o).2 3 _ rfl).1
    have GBy4 := fun o => ((GB_4.out.alloc o).2 4 _ rfl).1
    go_wp2_with fail
    rw [← hw9]
    clear hw9
    clear WBy0 WBy1 WBy2 WBy3 WBy4 GBy0 GBy1 GBy2 GBy3 GBy4
    clear Xc_7 WB_6 GB_4 XM_2 Xh
    obtain ⟨WBx0, WBx1, WBx2, WBx3, WBx4⟩ := WB_7.out.five
    obtain ⟨GBx0, GBx1, GBx2, GBx3, GBx4⟩ := GB_5.out.five
    obtain ⟨HBx0, HBx1, HBx2, HBx3, HBx4⟩ := HB.out.five
    go_wp2_with fail
    refine (l_eqFarm _ _ _ _ _ _ _ _ (gL (rfO s0) (fmX s0)) (gL (rfO s0) (fmY s0)) _ _ _ _ _ _ _ Xh_1.out.fl Xc_8.out.fl HF.out rfl rfl rfl).mono ?_
    rintro e wd10 ⟨rfl, b⟩
    have B10 : Hid (Below w.heap.size w wd10) := Lib.hid (below_of B9.out B9.out.size b)
    have Z10 : Hid (wd9.heap.size ≤ wd10.heap.size) := Lib.hid b.size
    have Xc_9 : Hid (OwnR2 wd10 w.heap.size cR1 cR2 cg1 cg2 (gL (rfO s0) (fmX s0)) (gL (rfO s0) (fmY s0))) := Lib.hid (Xc_8.out.below b)
    have WB_8 : Hid (BlkL wd10 (wd1.heap.size) [.slice cR1 (gL (rfO s0) (fmX s0)).length cc1, .slice cR2 (gL (rfO s0) (fmY s0)).length cc2, .float .f32 (gF (rfO s0) (fmN s0 0)), .float .f32 (gF (rfO s0) (fmN s0 1)), .float .f32 (gF (rfO s0) (fmN s0 2))]) := Lib.hid (WB_7.out.below b)
    have GB_6 : Hid (BlkL wd10 (wd3.heap.size) [.slice gR1 (gL (rfO s0) (fmX s0)).length gc1, .slice gR2 (gL (rfO s0) (fmY s0)).length gc2, .float .f32 (gF (rfO s0) (fmN s0 0)), .float .f32 (gF (rfO s0) (fmN s0 1)), .float .f32 (gF (rfO s0) (fmN s0 2))]) := Lib.hid (GB_5.out.below b)
    have XM_4 : Hid (OwnR2 wd10 wd2.heap.size gR1 gR2 gg1 gg2 (marks 1 (gL (rfO s0) (fmX s0)).length) (marks (1 + (gL (rfO s0) (fmX s0)).length) (gL (rfO s0) (fmY s0)).length)) := Lib.hid (XM_3.out.below b)
    have Xh_2 : Hid (OwnR2 wd10 wd7.heap.size hR1 hR2 hg1 hg2 (gL (rfO s0) (fmX s0)) (gL (rfO s0) (fmY s0))) := Lib.hid (Xh_1.out.below b)
    have HB_1 : Hid (BlkL wd10 (wd8.heap.size) [.slice hR1 (gL (rfO s0) (fmX s0)).length hc1, .slice hR2 (gL (rfO s0) (fmY s0)).length hc2, .float .f32 (gF (rfO s0) (fmN s0 0)), .float .f32 (gF (rfO s0) (fmN s0 1)), .float .f32 (gF (rfO s0) (fmN s0 2))]) := Lib.hid (HB.out.below b)
    clear WBx0 WBx1 WBx2 WBx3 WBx4 GBx0 GBx1 GBx2 GBx3 GBx4 HBx0 HBx1 HBx2 HBx3 HBx4
    clear Xc_8 WB_7 GB_5 XM_3 Xh_1 HB
    clear b
    obtain ⟨WBx0, WBx1, WBx2, WBx3, WBx4⟩ := WB_8.out.five
    obtain ⟨GBx0, GBx1, GBx2, GBx3, GBx4⟩ := GB_6.out.five
    obtain ⟨HBx0, HBx1, HBx2, HBx3, HBx4⟩ := HB_1.out.five
    go_wp2_with fail
    refine (l_heldFarm _ _ _ _ _ _ _ 1 _ _ _ _ _ _ (XM_4.out) (by have := HF.out; unfold FewS at this; omega) (by omega) _ rfl).mono ?_
    rintro e wd11 ⟨rfl, b⟩
    have B11 : Hid (Below w.heap.size w wd11) := Lib.hid (below_of B10.out B10.out.size b)
    have Z11 : Hid (wd10.heap.size ≤ wd11.heap.size) := Lib.hid b.size
    have Xc_10 : Hid (OwnR2 wd11 w.heap.size cR1 cR2 cg1 cg2 (gL (rfO s0) (fmX s0)) (gL (rfO s0) (fmY s0))) := Lib.hid (Xc_9.out.below b)
    have WB_9 : Hid (BlkL wd11 (wd1.heap.size) [.slice cR1 (gL (rfO s0) (fmX s0)).length cc1, .slice cR2 (gL (rfO s0) (fmY s0)).length cc2, .float .f32 (gF (rfO s0) (fmN s0 0)), .float .f32 (gF (rfO s0) (fmN s0 1)), .float .f32 (gF (rfO s0) (fmN s0 2))]) := Lib.hid (WB_8.out.below b)
    have GB_7 : Hid (BlkL wd11 (wd3.heap.size) [.slice gR1 (gL (rfO s0) (fmX s0)).length gc1, .slice gR2 (gL (rfO s0) (fmY s0)).length gc2, .float .f32 (gF (rfO s0) (fmN s0 0)), .float .f32 (gF (rfO s0) (fmN s0 1)), .float .f32 (gF (rfO s0) (fmN s0 2))]) := Lib.hid (GB_6.out.below b)
    have XM_5 : Hid (OwnR2 wd11 wd2.heap.size gR1 gR2 gg1 gg2 (marks 1 (gL (rfO s0) (fmX s0)).length) (marks (1 + (gL (rfO s0) (fmX s0)).length) (gL (rfO s0) (fmY s0)).length)) := Lib.hid (XM_4.out.below b)
    have Xh_3 : Hid (OwnR2 wd11 wd7.heap.size hR1 hR2 hg1 hg2 (gL (rfO s0) (fmX s0)) (gL (rfO s0) (fmY s0))) := Lib.hid (Xh_2.out.below b)
    have HB_2 : Hid (BlkL wd11 (wd8.heap.size) [.slice hR1 (gL (rfO s0) (fmX s0)).length hc1, .slice hR2 (gL (rfO s0) (fmY s0)).length hc2, .float .f32 (gF (rfO s0) (fmN s0 0)), .float .f32 (gF (rfO s0) (fmN s0 1)), .float .f32 (gF (rfO s0) (fmN s0 2))]) := Lib.hid (HB_1.out.below b)
    clear WBx0 WBx1 WBx2 WBx3 WBx4 GBx0 GBx1 GBx2 GBx3 GBx4 HBx0 HBx1 HBx2 HBx3 HBx4
    clear Xc_9 WB_8 GB_6 XM_4 Xh_2 HB_1
    clear b
    obtain ⟨WBx0, WBx1, WBx2, WBx3, WBx4⟩ := WB_9.out.five
    obtain ⟨GBx0, GBx1, GBx2, GBx3, GBx4⟩ := GB_7.out.five
    obtain ⟨HBx0, HBx1, HBx2, HBx3, HBx4⟩ := HB_2.out.five
    go_wp2
    go_ret
    exact ⟨rfl, B11.out⟩
  · have hbi0 : (1048576 : Int) < (s0.size : Int) := by omega
    go_enter Tryz.func4, Tryz.ntmps4
    go_wp2
    go_ret
    exact ⟨rfl, Below.refl _ _⟩
end Go.Proofs.YtknabmknboffgaaGreatDoor
