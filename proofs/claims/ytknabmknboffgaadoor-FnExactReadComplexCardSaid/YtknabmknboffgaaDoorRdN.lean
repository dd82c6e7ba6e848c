/- A number out of a text of eight digits, and a list of numbers out of a text: the program. No statement is proved here. -/
import Derived.Test.YtknabmknboffgaaDoorPu16
import Derived.Test.YtknabmknboffgaaDoorCutL
import Derived.Test.YtknabmknboffgaaDoorTbl
import Derived.Lib.Strings
namespace Go.Proofs.YtknabmknboffgaaDoor
open Go Go.RowKit
/-- the two variables that hold the errors' values -/
def EV (w : World) : Prop := (∃ ev, w.cell? ⟨5, 0, none⟩ = some ev ∧ (ev = .nilIface ∨ ∃ te pe, ev = .iface te pe)) ∧ ∃ ev, w.cell? ⟨6, 0, none⟩ = some ev ∧ (ev = .nilIface ∨ ∃ te pe, ev = .iface te pe)
theorem EV.below {w w' : World} (h : EV w) (hb : Below w.heap.size w w') : EV w' := by
  obtain ⟨⟨a, h1, h2⟩, ⟨b, h3, h4⟩⟩ := h
  exact ⟨⟨a, by rw [hb.cell (p := ⟨5, 0, none⟩) (cell_lt h1).1]; exact h1, h2⟩, ⟨b, by rw [hb.cell (p := ⟨6, 0, none⟩) (cell_lt h3).1]; exact h3, h4⟩⟩
/-- an integer lies in the variable MaxLen -/
def ML (w : World) : Prop := ∃ m, w.cell? ⟨0, 0, none⟩ = some (.int .i64 m)
theorem ML.below {w w' : World} (h : ML w) (hb : Below w.heap.size w w') : ML w' := by
  obtain ⟨m, h1⟩ := h
  exact ⟨m, by rw [hb.cell (p := ⟨0, 0, none⟩) (cell_lt h1).1]; exact h1⟩
/-- none, or an error in a block of its own -/
def PuE2 (er : Value) : Prop := er = .nilIface ∨ ∃ t N, er = .iface t (.pointer (some ⟨N, 0, none⟩))
set_option maxHeartbeats 2000000 in
theorem lib_ParseUintP (s : ByteArray) (w : World) (hmax : s.size ≤ 1048576) (hE : EV w) :
    Calls Tryd.prog 59 #[.string s, .int .i64 16, .int .i64 32] w fun e w' => ∃ (v : Nat) (er : Value), e = .returned (.tuple #[.int .u64 v, er]) ∧ v < 4294967296 ∧ PuE2 er ∧ (eightH s.data.toList = true → v = hxv s.data.toList ∧ er = .nilIface) ∧ Below w.heap.size w w' := by
  have HE := Lib.hid hE
  have HM := Lib.hid hmax
  clear hE hmax
  go_enter Tryd.func59, Tryd.ntmps59
  go_wp2_with fail
  refine (lib_ParseUint s _ HM.out).mono ?_
  rintro e w1 ⟨v, er, rfl, ⟨h1, h2, h3⟩, b1⟩
  have HB := Lib.hid b1
  have HE1 := Lib.hid (HE.out.below b1)
  have H1 := Lib.hid h1
  have H3 := Lib.hid h3
  clear b1 h1 h3
  rcases h2 with rfl | rfl | rfl
  · go_wp2
    go_ret2
    exact ⟨v, _, rfl, H1.out, .inl rfl, fun h => ⟨(H3.out h).1, rfl⟩, HB.out⟩
  · obtain ⟨ev, g1, g2⟩ := HE1.out.2
    go_wp2_with fail
    refine (Tryd.strconv_toError_range _ s _ _ ev _ (by have := HM.out; omega) g1 g2).mono ?_
    rintro e w2 ⟨N, rfl, -, -, b2⟩
    have HB2 : Hid (Below w.heap.size w w2) := Lib.hid (below_of HB.out HB.out.size b2)
    clear b2 g1 g2
    go_wp2
    go_ret2
    exact ⟨v, _, rfl, H1.out, .inr ⟨_, N, rfl⟩, fun h => absurd (H3.out h).2 (by intro h; cases h), HB2.out⟩
  · obtain ⟨ev, g1, g2⟩ := HE1.out.1
    go_wp2_with fail
    refine (Tryd.strconv_toError_syntax _ s _ _ ev _ (by have := HM.out; omega) g1 g2).mono ?_
    rintro e w2 ⟨N, rfl, -, -, b2⟩
    have HB2 : Hid (Below w.heap.size w w2) := Lib.hid (below_of HB.out HB.out.size b2)
    clear b2 g1 g2
    go_wp2
    go_ret2
    exact ⟨v, _, rfl, H1.out, .inr ⟨_, N, rfl⟩, fun h => absurd (H3.out h).2 (by intro h; cases h), HB2.out⟩
theorem str_ne {a b : ByteArray} (h : a ≠ b) : (a.toList == b.toList) = false := by
  rw [Lib.toList_data, Lib.toList_data]
  exact beq_eq_false_iff_ne.2 (fun e => h (ByteArray.ext (Array.toList_inj.1 e)))
theorem canon_lt32 {n : Nat} (h : n < 4294967296) : canon .f32 n < 4294967296 := canon_lt (k := .f32) h
/-- what such a text tells -/
def rdV (s : List UInt8) : Nat := if rdB s then hxv s else 0
set_option maxHeartbeats 2000000 in
theorem i_readNumber (s : ByteArray) (w : World) (hmax : s.size ≤ 1048576) (hE : EV w) (hT : T64 w) :
    Calls Tryd.prog 48 #[.string s] w fun e w' => e = .returned (.tuple #[.float .f32 (rdV s.data.toList), .bool (rdB s.data.toList)]) ∧ Below w.heap.size w w' := by
  have HT := Lib.hid hT
  have HCALL := Lib.hid (lib_ParseUintP s w hmax hE)
  clear hE hmax hT
  go_enter Tryd.func48, Tryd.ntmps48
  go_wp2_with fail
  refine HCALL.out.mono ?_
  rintro e w1 ⟨v, er, rfl, h1, h2, h3, b1⟩
  have HB := Lib.hid b1
  have HT1 := Lib.hid (HT.out.below b1)
  have H3 := Lib.hid h3
  clear b1 h3 HCALL
  rcases h2 with rfl | ⟨t, N, rfl⟩
  · have hv : IntKind.u32.wrap (v : Int) = v := by rw [IntKind.wrap_u32]; omega
    have HC : Hid (canon .f32 v < 4294967296) := Lib.hid (canon_lt32 h1)
    have H1 := Lib.hid h1
    clear h1
    go_wp2_with fail
    refine (i_numberText v _ HC.out HT1.out).mono ?_
    rintro e w2 ⟨rfl, b2⟩
    have HB2 : Hid (Below w.heap.size w w2) := Lib.hid (below_of HB.out HB.out.size b2)
    clear b2 hv
    by_cases hs : hexS v = s
    · have hd : hexN 8 (canon .f32 v) = s.data.toList := by rw [← hs]; rfl
      have hg : eightH s.data.toList = true := by
        cases g : eightH s.data.toList
        · exact absurd hd (rd_text_bad g _)
        · rfl
      have hvx := (H3.out hg).1
      have hr : rdB s.data.toList = true := by
        rw [← rd_text_good hg (by rw [← hvx]; exact HC.out), ← hvx, decide_eq_true hd]
      have HR : Hid (rdV s.data.toList = v ∧ rdB s.data.toList = true) := Lib.hid ⟨by unfold rdV; rw [hr, hvx]; rfl, hr⟩
      clear hd hg hvx hr
      go_wp2
      go_ret2
      exact ⟨by rw [HR.out.1, HR.out.2]; rfl, HB2.out⟩
    · have hr : rdB s.data.toList = false := by
        cases g : eightH s.data.toList
        · exact rdB_bad g
        · have hvx := (H3.out g).1
          rw [← rd_text_good g (by rw [← hvx]; exact HC.out), ← hvx]
          apply decide_eq_false
          intro e
          apply hs
          apply ByteArray.ext
          apply Array.toList_inj.1
          exact e
      have HR : Hid (rdV s.data.toList = 0 ∧ rdB s.data.toList = false) := Lib.hid ⟨by unfold rdV; rw [hr]; rfl, hr⟩
      have hne : ((hexS v).toList == s.toList) = false := str_ne hs
      clear hr
      go_wp2
      go_ret2
      exact ⟨by rw [HR.out.1, HR.out.2]; rfl, HB2.out⟩
  · have hr : rdB s.data.toList = false := by
      cases g : eightH s.data.toList
      · exact rdB_bad g
      · exact absurd (H3.out g).2 (by intro h; cases h)
    have HR : Hid (rdV s.data.toList = 0 ∧ rdB s.data.toList = false) := Lib.hid ⟨by unfold rdV; rw [hr]; rfl, hr⟩
    clear hr h1
    go_wp2
    go_ret2
    exact ⟨by rw [HR.out.1, HR.out.2]; rfl, HB.out⟩
end Go.Proofs.YtknabmknboffgaaDoor
