/- The law FnExactWorstLoads. No statement is proved here. -/
import Derived.Test.YtpmjikchlofebaaWlS
import Derived.Test.YtpmjikchlofebaaMarkR
import Derived.Test.YtpmjikchlofebaaOpenI
namespace Go.Proofs.Ytpmjikchlofebaa
open Go Go.RowKit
theorem wlW_pos {ls : List (List Nat)} (h : wlW ls ≠ []) : 1 ≤ wlN ls := by
  by_cases e : wlN ls = 0
  · exact absurd (by unfold wlW; rw [e]; rfl) h
  · omega
set_option maxHeartbeats 16000000 in
set_option maxRecDepth 100000 in
theorem law_FnExactWorstLoads (A : Option Addr) (cap : Nat) (ls : List (List Nat)) (w : World) (h : FlLL w A ls) (hn : ls.length ≤ 9223372036854775807) (hm : ∀ k, k < ls.length → (ls.getD k []).length ≤ 9223372036854775807) :
    Calls Try.prog 7 #[.slice A ls.length cap] w fun e w' => e = .returned (.bool true) ∧ Below w.heap.size w w' := by
  have HP := Lib.hid h
  have HSZ := Lib.hid (l_szLL A cap ls w h hn hm)
  clear h hn hm
  have B0 : Hid (Below w.heap.size w w) := Lib.hid (Below.refl _ _)
  have HFA : Hid ((wlA ls).length ≤ 1048576) := Lib.hid (by rw [wlA_len]; have := wlN_le ls; omega)
  have HFW : Hid ((wlW ls).length ≤ 1048576) := Lib.hid (by rw [wlW_len]; have := wlN_le ls; omega)
  go_enter Try.func7, Try.ntmps7
  go_wp2_with fail
  refine HSZ.out.mono ?_
  rintro e wx ⟨⟨x0, he, hx1, hx2⟩, hw⟩
  subst he
  obtain rfl : w = wx := hw.symm
  clear hw HSZ
  by_cases ht : totL ls ≤ 1048576
  · have HT := Lib.hid ht
    obtain rfl := hx1 ht
    have hpos : ¬ (1048576 - (totL ls : Int)) < 0 := by omega
    clear hx1 hx2 ht
    go_wp2_with fail
    refine (l_toLL A cap ls _ (HP.out.below B0.out) HT.out).mono ?_
    rintro e wd1 ⟨p, pq, rfl, ho, b⟩
    have B1 : Hid (Below w.heap.size w wd1) := Lib.hid (below_of B0.out B0.out.size b)
    have Z1 : Hid (w.heap.size ≤ wd1.heap.size) := Lib.hid b.size
    have Xp_1 : Hid (OwnLL wd1 w.heap.size p pq ls) := Lib.hid (ho)
    have Xpbd := Xp_1
    clear ho b
    go_wp2_with fail
    refine (s_WorstLoads _ _ ls _ Xp_1.out.fl HT.out).mono ?_
    rintro e wd2 ⟨cA, cc, cg, cI, cd, ch, rfl, ho, b⟩
    have B2 : Hid (Below w.heap.size w wd2) := Lib.hid (below_of B1.out B1.out.size b)
    have Z2 : Hid (wd1.heap.size ≤ wd2.heap.size) := Lib.hid b.size
    have Xp_2 : Hid (OwnLL wd2 w.heap.size p pq ls) := Lib.hid (Xp_1.out.below b)
    clear Xp_1
    have XcA_2 : Hid (OwnO wd2 wd1.heap.size cA cg (wlA ls)) := Lib.hid (ho.1)
    have XcAbd := XcA_2
    have XcI_2 : Hid (OwnOI wd2 wd1.heap.size cI ch (wlW ls)) := Lib.hid (ho.2.1)
    have XcIbd := XcI_2
    have Nc : Hid (1 ≤ wlN ls → cg ≠ ch) := Lib.hid ho.2.2
    clear ho b
    go_wp2_with fail
    refine (l_toLL A cap ls _ (HP.out.below B2.out) HT.out).mono ?_
    rintro e wd3 ⟨x, xq, rfl, ho, b⟩
    have B3 : Hid (Below w.heap.size w wd3) := Lib.hid (below_of B2.out B2.out.size b)
    have Z3 : Hid (wd2.heap.size ≤ wd3.heap.size) := Lib.hid b.size
    have XcA_3 : Hid (OwnO wd3 wd1.heap.size cA cg (wlA ls)) := Lib.hid (XcA_2.out.below b)
    have XcI_3 : Hid (OwnOI wd3 wd1.heap.size cI ch (wlW ls)) := Lib.hid (XcI_2.out.below b)
    clear XcA_2 XcI_2
    have Xx_3 : Hid (OwnLL wd3 wd2.heap.size x xq ls) := Lib.hid (ho)
    have Xxbd := Xx_3
    clear ho b
    go_wp2_with fail
    refine (i_WorstLoads _ _ ls _ Xx_3.out.fl HT.out).mono ?_
    rintro e wd4 ⟨gA, gc, gg, gI, gd, gh, rfl, ho, b⟩
    have B4 : Hid (Below w.heap.size w wd4) := Lib.hid (below_of B3.out B3.out.size b)
    have Z4 : Hid (wd3.heap.size ≤ wd4.heap.size) := Lib.hid b.size
    have XcA_4 : Hid (OwnO wd4 wd1.heap.size cA cg (wlA ls)) := Lib.hid (XcA_3.out.below b)
    have XcI_4 : Hid (OwnOI wd4 wd1.heap.size cI ch (wlW ls)) := Lib.hid (XcI_3.out.below b)
    have Xx_4 : Hid (OwnLL wd4 wd2.heap.size x xq ls) := Lib.hid (Xx_3.out.below b)
    clear XcA_3 XcI_3 Xx_3
    have XgA_4 : Hid (OwnO wd4 wd3.heap.size gA gg (wlA ls)) := Lib.hid (ho.1)
    have XgAbd := XgA_4
    have XgI_4 : Hid (OwnOI wd4 wd3.heap.size gI gh (wlW ls)) := Lib.hid (ho.2.1)
    have XgIbd := XgI_4
    have Ng : Hid (1 ≤ wlN ls → gg ≠ gh) := Lib.hid ho.2.2
    clear ho b
    go_wp2_with fail
    refine (l_eqF32 _ _ _ _ (wlA ls) _ XgA_4.out.fl XcA_4.out.fl HFA.out).mono ?_
    rintro e wd5 ⟨nq, rfl, hw⟩
    have b : Below wd4.heap.size wd4 wd5 := by rw [hw]; repeat (first | exact Below.refl _ _ | refine below_draws ?_ _)
    clear hw
    have B5 : Hid (Below w.heap.size w wd5) := Lib.hid (below_of B4.out B4.out.size b)
    have Z5 : Hid (wd4.heap.size ≤ wd5.heap.size) := Lib.hid b.size
    have XcA_5 : Hid (OwnO wd5 wd1.heap.size cA cg (wlA ls)) := Lib.hid (XcA_4.out.below b)
    have XcI_5 : Hid (OwnOI wd5 wd1.heap.size cI ch (wlW ls)) := Lib.hid (XcI_4.out.below b)
    have Xx_5 : Hid (OwnLL wd5 wd2.heap.size x xq ls) := Lib.hid (Xx_4.out.below b)
    have XgA_5 : Hid (OwnO wd5 wd3.heap.size gA gg (wlA ls)) := Lib.hid (XgA_4.out.below b)
    have XgI_5 : Hid (OwnOI wd5 wd3.heap.size gI gh (wlW ls)) := Lib.hid (XgI_4.out.below b)
    clear XcA_4 XcI_4 Xx_4 XgA_4 XgI_4
    clear b
    go_wp2_with fail
    refine (l_eqI64 _ _ _ _ (wlW ls) _ XgI_5.out.fl XcI_5.out.fl HFW.out).mono ?_
    rintro e wd6 ⟨nq, rfl, hw⟩
    have b : Below wd5.heap.size wd5 wd6 := by rw [hw]; repeat (first | exact Below.refl _ _ | refine below_draws ?_ _)
    clear hw
    have B6 : Hid (Below w.heap.size w wd6) := Lib.hid (below_of B5.out B5.out.size b)
    have Z6 : Hid (wd5.heap.size ≤ wd6.heap.size) := Lib.hid b.size
    have XcA_6 : Hid (OwnO wd6 wd1.heap.size cA cg (wlA ls)) := Lib.hid (XcA_5.out.below b)
    have XcI_6 : Hid (OwnOI wd6 wd1.heap.size cI ch (wlW ls)) := Lib.hid (XcI_5.out.below b)
    have Xx_6 : Hid (OwnLL wd6 wd2.heap.size x xq ls) := Lib.hid (Xx_5.out.below b)
    have XgA_6 : Hid (OwnO wd6 wd3.heap.size gA gg (wlA ls)) := Lib.hid (XgA_5.out.below b)
    have XgI_6 : Hid (OwnOI wd6 wd3.heap.size gI gh (wlW ls)) := Lib.hid (XgI_5.out.below b)
    clear XcA_5 XcI_5 Xx_5 XgA_5 XgI_5
    clear b
    go_wp2_with fail
    refine (l_toLL A cap ls _ (HP.out.below B6.out) HT.out).mono ?_
    rintro e wd7 ⟨y, yq, rfl, ho, b⟩
    have B7 : Hid (Below w.heap.size w wd7) := Lib.hid (below_of B6.out B6.out.size b)
    have Z7 : Hid (wd6.heap.size ≤ wd7.heap.size) := Lib.hid b.size
    have XcA_7 : Hid (OwnO wd7 wd1.heap.size cA cg (wlA ls)) := Lib.hid (XcA_6.out.below b)
    have XcI_7 : Hid (OwnOI wd7 wd1.heap.size cI ch (wlW ls)) := Lib.hid (XcI_6.out.below b)
    have Xx_7 : Hid (OwnLL wd7 wd2.heap.size x xq ls) := Lib.hid (Xx_6.out.below b)
    have XgA_7 : Hid (OwnO wd7 wd3.heap.size gA gg (wlA ls)) := Lib.hid (XgA_6.out.below b)
    have XgI_7 : Hid (OwnOI wd7 wd3.heap.size gI gh (wlW ls)) := Lib.hid (XgI_6.out.below b)
    clear XcA_6 XcI_6 Xx_6 XgA_6 XgI_6
    have Xy_7 : Hid (OwnLL wd7 wd6.heap.size y yq ls) := Lib.hid (ho)
    have Xybd := Xy_7
    clear ho b
    go_wp2_with fail
    refine (l_eqLL _ _ _ _ ls _ Xx_7.out.fl Xy_7.out.fl HT.out).mono ?_
    rintro e wd8 ⟨nq, rfl, hw⟩
    have b : Below wd7.heap.size wd7 wd8 := by rw [hw]; repeat (first | exact Below.refl _ _ | refine below_draws ?_ _)
    clear hw
    have B8 : Hid (Below w.heap.size w wd8) := Lib.hid (below_of B7.out B7.out.size b)
    have Z8 : Hid (wd7.heap.size ≤ wd8.heap.size) := Lib.hid b.size
    have XcA_8 : Hid (OwnO wd8 wd1.heap.size cA cg (wlA ls)) := Lib.hid (XcA_7.out.below b)
    have XcI_8 : Hid (OwnOI wd8 wd1.heap.size cI ch (wlW ls)) := Lib.hid (XcI_7.out.below b)
    have Xx_8 : Hid (OwnLL wd8 wd2.heap.size x xq ls) := Lib.hid (Xx_7.out.below b)
    have XgA_8 : Hid (OwnO wd8 wd3.heap.size gA gg (wlA ls)) := Lib.hid (XgA_7.out.below b)
    have XgI_8 : Hid (OwnOI wd8 wd3.heap.size gI gh (wlW ls)) := Lib.hid (XgI_7.out.below b)
    have Xy_8 : Hid (OwnLL wd8 wd6.heap.size y yq ls) := Lib.hid (Xy_7.out.below b)
    clear XcA_7 XcI_7 Xx_7 XgA_7 XgI_7 Xy_7
    clear b
    go_wp2_with fail
    refine (l_markLL x _ _ xq ls _ Xx_8.out HT.out).mono ?_
    rintro e wd9 ⟨rfl, t⟩
    have B9 : Hid (Below w.heap.size w wd9) := Lib.hid (t.2.2.2 w B8.out (by intro b hh; have h1 := Xxbd.out.bd hh; have := Z1.out; have := Z2.out; have := Z3.out; have := Z4.out; have := Z5.out; have := Z6.out; have := Z7.out; have := Z8.out; omega))
    have Z9 : Hid (wd8.heap.size ≤ wd9.heap.size) := Lib.hid t.1
    have XcA_9 : Hid (OwnO wd9 wd1.heap.size cA cg (wlA ls)) := Lib.hid (XcA_8.out.turnS t (by intro c hc hh; have h1 := Xxbd.out.bd hh; have h2 := XcAbd.out.bd hc; have := Z1.out; have := Z2.out; have := Z3.out; have := Z4.out; have := Z5.out; have := Z6.out; have := Z7.out; have := Z8.out; omega))
    have XcI_9 : Hid (OwnOI wd9 wd1.heap.size cI ch (wlW ls)) := Lib.hid (XcI_8.out.turnS t (by intro c hc hh; have h1 := Xxbd.out.bd hh; have h2 := XcIbd.out.bd hc; have := Z1.out; have := Z2.out; have := Z3.out; have := Z4.out; have := Z5.out; have := Z6.out; have := Z7.out; have := Z8.out; omega))
    have XgA_9 : Hid (OwnO wd9 wd3.heap.size gA gg (wlA ls)) := Lib.hid (XgA_8.out.turnS t (by intro c hc hh; have h1 := Xxbd.out.bd hh; have h2 := XgAbd.out.bd hc; have := Z1.out; have := Z2.out; have := Z3.out; have := Z4.out; have := Z5.out; have := Z6.out; have := Z7.out; have := Z8.out; omega))
    have XgI_9 : Hid (OwnOI wd9 wd3.heap.size gI gh (wlW ls)) := Lib.hid (XgI_8.out.turnS t (by intro c hc hh; have h1 := Xxbd.out.bd hh; have h2 := XgIbd.out.bd hc; have := Z1.out; have := Z2.out; have := Z3.out; have := Z4.out; have := Z5.out; have := Z6.out; have := Z7.out; have := Z8.out; omega))
    clear XcA_8 XcI_8 XgA_8 XgI_8
    clear t
    have hk : ¬ ((1 : Int) + (sumL ls ls.length : Int)) < 0 := by omega
    go_wp2_with fail
    refine (l_eqF32 _ _ _ _ (wlA ls) _ XgA_9.out.fl XcA_9.out.fl HFA.out).mono ?_
    rintro e wd10 ⟨nq, rfl, hw⟩
    have b : Below wd9.heap.size wd9 wd10 := by rw [hw]; repeat (first | exact Below.refl _ _ | refine below_draws ?_ _)
    clear hw
    have B10 : Hid (Below w.heap.size w wd10) := Lib.hid (below_of B9.out B9.out.size b)
    have Z10 : Hid (wd9.heap.size ≤ wd10.heap.size) := Lib.hid b.size
    have XcA_10 : Hid (OwnO wd10 wd1.heap.size cA cg (wlA ls)) := Lib.hid (XcA_9.out.below b)
    have XcI_10 : Hid (OwnOI wd10 wd1.heap.size cI ch (wlW ls)) := Lib.hid (XcI_9.out.below b)
    have XgA_10 : Hid (OwnO wd10 wd3.heap.size gA gg (wlA ls)) := Lib.hid (XgA_9.out.below b)
    have XgI_10 : Hid (OwnOI wd10 wd3.heap.size gI gh (wlW ls)) := Lib.hid (XgI_9.out.below b)
    clear XcA_9 XcI_9 XgA_9 XgI_9
    clear b
    go_wp2_with fail
    refine (l_eqI64 _ _ _ _ (wlW ls) _ XgI_10.out.fl XcI_10.out.fl HFW.out).mono ?_
    rintro e wd11 ⟨nq, rfl, hw⟩
    have b : Below wd10.heap.size wd10 wd11 := by rw [hw]; repeat (first | exact Below.refl _ _ | refine below_draws ?_ _)
    clear hw
    have B11 : Hid (Below w.heap.size w wd11) := Lib.hid (below_of B10.out B10.out.size b)
    have Z11 : Hid (wd10.heap.size ≤ wd11.heap.size) := Lib.hid b.size
    have XcA_11 : Hid (OwnO wd11 wd1.heap.size cA cg (wlA ls)) := Lib.hid (XcA_10.out.below b)
    have XcI_11 : Hid (OwnOI wd11 wd1.heap.size cI ch (wlW ls)) := Lib.hid (XcI_10.out.below b)
    have XgA_11 : Hid (OwnO wd11 wd3.heap.size gA gg (wlA ls)) := Lib.hid (XgA_10.out.below b)
    have XgI_11 : Hid (OwnOI wd11 wd3.heap.size gI gh (wlW ls)) := Lib.hid (XgI_10.out.below b)
    clear XcA_10 XcI_10 XgA_10 XgI_10
    clear b
    go_wp2_with fail
    refine (l_markF32 _ _ _ 1 (wlA ls) _ (XgA_11.out).a HFA.out (by omega) _ rfl).mono ?_
    rintro e wd12 ⟨rfl, om, t⟩
    have B12 : Hid (Below w.heap.size w wd12) := Lib.hid (t.2.2.2 w B11.out (by intro b hh; have h1 := XgAbd.out.bd hh; have := Z1.out; have := Z2.out; have := Z3.out; have := Z4.out; have := Z5.out; have := Z6.out; have := Z7.out; have := Z8.out; have := Z9.out; have := Z10.out; have := Z11.out; omega))
    have Z12 : Hid (wd11.heap.size ≤ wd12.heap.size) := Lib.hid t.1
    have XcA_12 : Hid (OwnO wd12 wd1.heap.size cA cg (wlA ls)) := Lib.hid (XcA_11.out.turnS t (by intro c hc hh; have h1 := XgAbd.out.bd hh; have h2 := XcAbd.out.bd hc; have := Z1.out; have := Z2.out; have := Z3.out; have := Z4.out; have := Z5.out; have := Z6.out; have := Z7.out; have := Z8.out; have := Z9.out; have := Z10.out; have := Z11.out; omega))
    have XcI_12 : Hid (OwnOI wd12 wd1.heap.size cI ch (wlW ls)) := Lib.hid (XcI_11.out.turnS t (by intro c hc hh; have h1 := XgAbd.out.bd hh; have h2 := XcIbd.out.bd hc; have := Z1.out; have := Z2.out; have := Z3.out; have := Z4.out; have := Z5.out; have := Z6.out; have := Z7.out; have := Z8.out; have := Z9.out; have := Z10.out; have := Z11.out; omega))
    have XgI_12 : Hid (OwnOI wd12 wd3.heap.size gI gh (wlW ls)) := Lib.hid (XgI_11.out.turnS t (by rintro c ⟨hc0, rfl⟩ ⟨-, hh⟩; exact Ng.out (wlW_pos hc0) hh.symm))
    clear XcA_11 XcI_11 XgI_11
    have XM_12 : Hid (OwnO wd12 wd3.heap.size gA gg (marks 1 (wlA ls).length)) := Lib.hid (OwnO.mk' XgA_11.out (marks_length _ _) om)
    clear om t
    have XMbd : Hid (∀ c, SB (marks 1 (wlA ls).length) gg c → wlA ls ≠ [] ∧ c = gg) := Lib.hid (fun c hc => ⟨fun h0 => hc.1 (by rw [h0]; rfl), hc.2⟩)
    go_wp2_with fail
    refine (l_markI64 _ _ _ (1 + (wlA ls).length) (wlW ls) _ (XgI_12.out).a HFW.out (by have := HFA.out; omega) _ (by omega)).mono ?_
    rintro e wd13 ⟨rfl, om, t⟩
    have B13 : Hid (Below w.heap.size w wd13) := Lib.hid (t.2.2.2 w B12.out (by intro b hh; have h1 := XgIbd.out.bd hh; have := Z1.out; have := Z2.out; have := Z3.out; have := Z4.out; have := Z5.out; have := Z6.out; have := Z7.out; have := Z8.out; have := Z9.out; have := Z10.out; have := Z11.out; have := Z12.out; omega))
    have Z13 : Hid (wd12.heap.size ≤ wd13.heap.size) := Lib.hid t.1
    have XcA_13 : Hid (OwnO wd13 wd1.heap.size cA cg (wlA ls)) := Lib.hid (XcA_12.out.turnS t (by intro c hc hh; have h1 := XgIbd.out.bd hh; have h2 := XcAbd.out.bd hc; have := Z1.out; have := Z2.out; have := Z3.out; have := Z4.out; have := Z5.out; have := Z6.out; have := Z7.out; have := Z8.out; have := Z9.out; have := Z10.out; have := Z11.out; have := Z12.out; omega))
    have XcI_13 : Hid (OwnOI wd13 wd1.heap.size cI ch (wlW ls)) := Lib.hid (XcI_12.out.turnS t (by intro c hc hh; have h1 := XgIbd.out.bd hh; have h2 := XcIbd.out.bd hc; have := Z1.out; have := Z2.out; have := Z3.out; have := Z4.out; have := Z5.out; have := Z6.out; have := Z7.out; have := Z8.out; have := Z9.out; have := Z10.out; have := Z11.out; have := Z12.out; omega))
    have XM_13 : Hid (OwnO wd13 wd3.heap.size gA gg (marks 1 (wlA ls).length)) := Lib.hid (XM_12.out.turnS t (by rintro c hc ⟨hc0, rfl⟩; exact Ng.out (wlW_pos hc0) (XMbd.out _ hc).2.symm))
    clear XcA_12 XcI_12 XM_12
    have XN_13 : Hid (OwnOI wd13 wd3.heap.size gI gh (marksI (1 + (wlA ls).length) (wlW ls).length)) := Lib.hid (OwnOI.mk' XgI_12.out (marks_lengthI _ _) om)
    clear om t
    go_wp2_with fail
    refine (l_heldF32 _ _ _ 1 _ _ (XM_13.out).a HFA.out (by omega) _ rfl).mono ?_
    rintro e wd14 ⟨nq, rfl, hw⟩
    have b : Below wd13.heap.size wd13 wd14 := by rw [hw]; repeat (first | exact Below.refl _ _ | refine below_draws ?_ _)
    clear hw
    have B14 : Hid (Below w.heap.size w wd14) := Lib.hid (below_of B13.out B13.out.size b)
    have Z14 : Hid (wd13.heap.size ≤ wd14.heap.size) := Lib.hid b.size
    have XcA_14 : Hid (OwnO wd14 wd1.heap.size cA cg (wlA ls)) := Lib.hid (XcA_13.out.below b)
    have XcI_14 : Hid (OwnOI wd14 wd1.heap.size cI ch (wlW ls)) := Lib.hid (XcI_13.out.below b)
    have XM_14 : Hid (OwnO wd14 wd3.heap.size gA gg (marks 1 (wlA ls).length)) := Lib.hid (XM_13.out.below b)
    have XN_14 : Hid (OwnOI wd14 wd3.heap.size gI gh (marksI (1 + (wlA ls).length) (wlW ls).length)) := Lib.hid (XN_13.out.below b)
    clear XcA_13 XcI_13 XM_13 XN_13
    clear b
    go_wp2_with fail
    refine (l_heldI64 _ _ _ (1 + (wlA ls).length) _ _ (XN_14.out).a HFW.out (by have := HFA.out; omega) _ (by omega)).mono ?_
    rintro e wd15 ⟨nq, rfl, hw⟩
    have b : Below wd14.heap.size wd14 wd15 := by rw [hw]; repeat (first | exact Below.refl _ _ | refine below_draws ?_ _)
    clear hw
    have B15 : Hid (Below w.heap.size w wd15) := Lib.hid (below_of B14.out B14.out.size b)
    have Z15 : Hid (wd14.heap.size ≤ wd15.heap.size) := Lib.hid b.size
    have XcA_15 : Hid (OwnO wd15 wd1.heap.size cA cg (wlA ls)) := Lib.hid (XcA_14.out.below b)
    have XcI_15 : Hid (OwnOI wd15 wd1.heap.size cI ch (wlW ls)) := Lib.hid (XcI_14.out.below b)
    have XM_15 : Hid (OwnO wd15 wd3.heap.size gA gg (marks 1 (wlA ls).length)) := Lib.hid (XM_14.out.below b)
    have XN_15 : Hid (OwnOI wd15 wd3.heap.size gI gh (marksI (1 + (wlA ls).length) (wlW ls).length)) := Lib.hid (XN_14.out.below b)
    clear XcA_14 XcI_14 XM_14 XN_14
    clear b
    go_wp2_with fail
    refine (l_toLL A cap ls _ (HP.out.below B15.out) HT.out).mono ?_
    rintro e wd16 ⟨z, zq, rfl, ho, b⟩
    have B16 : Hid (Below w.heap.size w wd16) := Lib.hid (below_of B15.out B15.out.size b)
    have Z16 : Hid (wd15.heap.size ≤ wd16.heap.size) := Lib.hid b.size
    have XcA_16 : Hid (OwnO wd16 wd1.heap.size cA cg (wlA ls)) := Lib.hid (XcA_15.out.below b)
    have XcI_16 : Hid (OwnOI wd16 wd1.heap.size cI ch (wlW ls)) := Lib.hid (XcI_15.out.below b)
    have XM_16 : Hid (OwnO wd16 wd3.heap.size gA gg (marks 1 (wlA ls).length)) := Lib.hid (XM_15.out.below b)
    have XN_16 : Hid (OwnOI wd16 wd3.heap.size gI gh (marksI (1 + (wlA ls).length) (wlW ls).length)) := Lib.hid (XN_15.out.below b)
    clear XcA_15 XcI_15 XM_15 XN_15
    have Xz_16 : Hid (OwnLL wd16 wd15.heap.size z zq ls) := Lib.hid (ho)
    have Xzbd := Xz_16
    clear ho b
    go_wp2_with fail
    refine (i_WorstLoads _ _ ls _ Xz_16.out.fl HT.out).mono ?_
    rintro e wd17 ⟨hA, hc, hg, hI, hd, hh, rfl, ho, b⟩
    have B17 : Hid (Below w.heap.size w wd17) := Lib.hid (below_of B16.out B16.out.size b)
    have Z17 : Hid (wd16.heap.size ≤ wd17.heap.size) := Lib.hid b.size
    have XcA_17 : Hid (OwnO wd17 wd1.heap.size cA cg (wlA ls)) := Lib.hid (XcA_16.out.below b)
    have XcI_17 : Hid (OwnOI wd17 wd1.heap.size cI ch (wlW ls)) := Lib.hid (XcI_16.out.below b)
    have XM_17 : Hid (OwnO wd17 wd3.heap.size gA gg (marks 1 (wlA ls).length)) := Lib.hid (XM_16.out.below b)
    have XN_17 : Hid (OwnOI wd17 wd3.heap.size gI gh (marksI (1 + (wlA ls).length) (wlW ls).length)) := Lib.hid (XN_16.out.below b)
    have Xz_17 : Hid (OwnLL wd17 wd15.heap.size z zq ls) := Lib.hid (Xz_16.out.below b)
    clear XcA_16 XcI_16 XM_16 XN_16 Xz_16
    have XhA_17 : Hid (OwnO wd17 wd16.heap.size hA hg (wlA ls)) := Lib.hid (ho.1)
    have XhAbd := XhA_17
    have XhI_17 : Hid (OwnOI wd17 wd16.heap.size hI hh (wlW ls)) := Lib.hid (ho.2.1)
    have XhIbd := XhI_17
    have Nh : Hid (1 ≤ wlN ls → hg ≠ hh) := Lib.hid ho.2.2
    clear ho b
    go_wp2_with fail
    refine (l_eqF32 _ _ _ _ (wlA ls) _ XhA_17.out.fl XcA_17.out.fl HFA.out).mono ?_
    rintro e wd18 ⟨nq, rfl, hw⟩
    have b : Below wd17.heap.size wd17 wd18 := by rw [hw]; repeat (first | exact Below.refl _ _ | refine below_draws ?_ _)
    clear hw
    have B18 : Hid (Below w.heap.size w wd18) := Lib.hid (below_of B17.out B17.out.size b)
    have Z18 : Hid (wd17.heap.size ≤ wd18.heap.size) := Lib.hid b.size
    have XcA_18 : Hid (OwnO wd18 wd1.heap.size cA cg (wlA ls)) := Lib.hid (XcA_17.out.below b)
    have XcI_18 : Hid (OwnOI wd18 wd1.heap.size cI ch (wlW ls)) := Lib.hid (XcI_17.out.below b)
    have XM_18 : Hid (OwnO wd18 wd3.heap.size gA gg (marks 1 (wlA ls).length)) := Lib.hid (XM_17.out.below b)
    have XN_18 : Hid (OwnOI wd18 wd3.heap.size gI gh (marksI (1 + (wlA ls).length) (wlW ls).length)) := Lib.hid (XN_17.out.below b)
    have XhA_18 : Hid (OwnO wd18 wd16.heap.size hA hg (wlA ls)) := Lib.hid (XhA_17.out.below b)
    have XhI_18 : Hid (OwnOI wd18 wd16.heap.size hI hh (wlW ls)) := Lib.hid (XhI_17.out.below b)
    clear XcA_17 XcI_17 XM_17 XN_17 XhA_17 XhI_17
    clear b
    go_wp2_with fail
    refine (l_eqI64 _ _ _ _ (wlW ls) _ XhI_18.out.fl XcI_18.out.fl HFW.out).mono ?_
    rintro e wd19 ⟨nq, rfl, hw⟩
    have b : Below wd18.heap.size wd18 wd19 := by rw [hw]; repeat (first | exact Below.refl _ _ | refine below_draws ?_ _)
    clear hw
    have B19 : Hid (Below w.heap.size w wd19) := Lib.hid (below_of B18.out B18.out.size b)
    have Z19 : Hid (wd18.heap.size ≤ wd19.heap.size) := Lib.hid b.size
    have XcA_19 : Hid (OwnO wd19 wd1.heap.size cA cg (wlA ls)) := Lib.hid (XcA_18.out.below b)
    have XcI_19 : Hid (OwnOI wd19 wd1.heap.size cI ch (wlW ls)) := Lib.hid (XcI_18.out.below b)
    have XM_19 : Hid (OwnO wd19 wd3.heap.size gA gg (marks 1 (wlA ls).length)) := Lib.hid (XM_18.out.below b)
    have XN_19 : Hid (OwnOI wd19 wd3.heap.size gI gh (marksI (1 + (wlA ls).length) (wlW ls).length)) := Lib.hid (XN_18.out.below b)
    have XhA_19 : Hid (OwnO wd19 wd16.heap.size hA hg (wlA ls)) := Lib.hid (XhA_18.out.below b)
    have XhI_19 : Hid (OwnOI wd19 wd16.heap.size hI hh (wlW ls)) := Lib.hid (XhI_18.out.below b)
    clear XcA_18 XcI_18 XM_18 XN_18 XhA_18 XhI_18
    clear b
    go_wp2_with fail
    refine (l_heldF32 _ _ _ 1 _ _ (XM_19.out).a HFA.out (by omega) _ rfl).mono ?_
    rintro e wd20 ⟨nq, rfl, hw⟩
    have b : Below wd19.heap.size wd19 wd20 := by rw [hw]; repeat (first | exact Below.refl _ _ | refine below_draws ?_ _)
    clear hw
    have B20 : Hid (Below w.heap.size w wd20) := Lib.hid (below_of B19.out B19.out.size b)
    have Z20 : Hid (wd19.heap.size ≤ wd20.heap.size) := Lib.hid b.size
    have XcA_20 : Hid (OwnO wd20 wd1.heap.size cA cg (wlA ls)) := Lib.hid (XcA_19.out.below b)
    have XcI_20 : Hid (OwnOI wd20 wd1.heap.size cI ch (wlW ls)) := Lib.hid (XcI_19.out.below b)
    have XM_20 : Hid (OwnO wd20 wd3.heap.size gA gg (marks 1 (wlA ls).length)) := Lib.hid (XM_19.out.below b)
    have XN_20 : Hid (OwnOI wd20 wd3.heap.size gI gh (marksI (1 + (wlA ls).length) (wlW ls).length)) := Lib.hid (XN_19.out.below b)
    have XhA_20 : Hid (OwnO wd20 wd16.heap.size hA hg (wlA ls)) := Lib.hid (XhA_19.out.below b)
    have XhI_20 : Hid (OwnOI wd20 wd16.heap.size hI hh (wlW ls)) := Lib.hid (XhI_19.out.below b)
    clear XcA_19 XcI_19 XM_19 XN_19 XhA_19 XhI_19
    clear b
    go_wp2_with fail
    refine (l_heldI64 _ _ _ (1 + (wlA ls).length) _ _ (XN_20.out).a HFW.out (by have := HFA.out; omega) _ (by omega)).mono ?_
    rintro e wd21 ⟨nq, rfl, hw⟩
    have b : Below wd20.heap.size wd20 wd21 := by rw [hw]; repeat (first | exact Below.refl _ _ | refine below_draws ?_ _)
    clear hw
    have B21 : Hid (Below w.heap.size w wd21) := Lib.hid (below_of B20.out B20.out.size b)
    have Z21 : Hid (wd20.heap.size ≤ wd21.heap.size) := Lib.hid b.size
    have XcA_21 : Hid (OwnO wd21 wd1.heap.size cA cg (wlA ls)) := Lib.hid (XcA_20.out.below b)
    have XcI_21 : Hid (OwnOI wd21 wd1.heap.size cI ch (wlW ls)) := Lib.hid (XcI_20.out.below b)
    have XM_21 : Hid (OwnO wd21 wd3.heap.size gA gg (marks 1 (wlA ls).length)) := Lib.hid (XM_20.out.below b)
    have XN_21 : Hid (OwnOI wd21 wd3.heap.size gI gh (marksI (1 + (wlA ls).length) (wlW ls).length)) := Lib.hid (XN_20.out.below b)
    have XhA_21 : Hid (OwnO wd21 wd16.heap.size hA hg (wlA ls)) := Lib.hid (XhA_20.out.below b)
    have XhI_21 : Hid (OwnOI wd21 wd16.heap.size hI hh (wlW ls)) := Lib.hid (XhI_20.out.below b)
    clear XcA_20 XcI_20 XM_20 XN_20 XhA_20 XhI_20
    clear b
    go_wp2
    go_ret
    exact ⟨rfl, B21.out⟩
  · obtain rfl := hx2 (by omega)
    clear hx1 hx2
    go_wp2
    go_ret
    exact ⟨rfl, Below.refl _ _⟩
end Go.Proofs.Ytpmjikchlofebaa
