/- How many lines are useless: the specification. No statement is proved here. -/
import Derived.Test.YtoadccmkcjnjmaaDoorLnL
import Derived.Test.YtoadccmkcjnjmaaDoorCutS
import Derived.RegionTactic
import Derived.BigRegion
namespace Go.Proofs.YtoadccmkcjnjmaaDoor
open Go Go.RowKit
def LsPost (s : ByteArray) (w : World) (e : Ending) (w' : World) : Prop := ∃ pb c, e = .returned (.tuple #[.slice (some ⟨pb, 0, none⟩) (lnP s).length c, .string (lnE s)]) ∧ (∀ k u, (lnP s)[k]? = some u → w'.cell? ⟨pb, k, none⟩ = some (.string u)) ∧ pb < w'.heap.size ∧ Below w.heap.size w w'
set_option maxHeartbeats 8000000 in
set_option maxRecDepth 100000 in
theorem s_l08Lines (s : ByteArray) (w : World) (hs : s.size ≤ 1048576) :
    Calls Tryd.prog 52 #[.string s] w fun e w' => LsPost s w e w' := by
  have HC := Lib.hid (s_l01Cut 10 s w hs)
  have hle := cutS_le 10 s
  rw [ln_len] at hle
  have HLE : Hid ((lnP s).length ≤ 1048576) := Lib.hid (by omega)
  clear hs hle
  go_enter Tryd.func52, Tryd.ntmps52
  go_wp2_with fail
  refine HC.out.mono ?_
  rintro e w1 ⟨v, rfl, hg, b1⟩
  have HB1 := Lib.hid b1
  obtain ⟨pb, pc, rfl, hlo, hlt1, hcp, hmx, hcell⟩ := hg.own (by intro e; have := cutS_pos 10 s; rw [e] at this; simp at this)
  have HCL : Hid (∀ k u, (lnP s)[k]? = some u → w1.cell? ⟨pb, k, none⟩ = some (.string u)) := Lib.hid (fun k u hk => by
    have := hcell k u (by rw [ln_eq, List.getElem?_append_left (List.getElem?_eq_some_iff.1 hk).1]; exact hk)
    rwa [Nat.zero_add] at this)
  have hce : w1.cell? ⟨pb, (lnP s).length, none⟩ = some (.string (lnE s)) := by
    have := hcell (lnP s).length (lnE s) (by rw [ln_eq]; simp)
    rwa [Nat.zero_add] at this
  have HLT := Lib.hid hlt1
  rw [ln_len] at hcp ⊢
  clear hg hcell hlo hlt1 b1 HC
  obtain ⟨n, hn⟩ : ∃ n, n = (lnP s).length := ⟨_, rfl⟩
  rw [← hn] at hce hcp ⊢
  have hn6 : n ≤ 1048576 := by have := HLE.out; omega
  have HN := Lib.hid hn
  clear hn
  have hz : ((n : Int) + 1 - 1 + 9223372036854775808) % 18446744073709551616 - 9223372036854775808 = n := by omega
  unfold maxLen at hmx
  go_upto_region 2 with fail
  go_region
  go_wp2
  go_ret2
  unfold LsPost
  refine ⟨pb, pc, by rw [← HN.out]; rfl, fun k u hk => HCL.out k u hk, HLT.out, HB1.out.drew⟩
theorem usN_lt {l : List ByteArray} {k : Nat} (h : k ≤ 16000) : (usN l k : Int) ≤ 16000 := by have := usN_le l k; omega
def UsI (l : List ByteArray) (k : Nat) (u : Int) : Prop := u = usN l k ∧ usN l k ≤ k ∧ k ≤ 16001
theorem UsI.zero (l : List ByteArray) : UsI l 0 0 := ⟨rfl, Nat.le_refl _, by omega⟩
theorem UsI.bad {l : List ByteArray} {k : Nat} {u : Int} {b : ByteArray} (h : UsI l k u) (hk : l[k]? = some b) (hb : badL b = true) (hn : k < 16001) : UsI l (k + 1) (u + 1) := by
  have e := usN_step hk
  rw [hb, if_pos rfl] at e
  obtain ⟨h1, h2, h3⟩ := h
  exact ⟨by rw [e, h1]; simp, by omega, by omega⟩
theorem UsI.good {l : List ByteArray} {k : Nat} {u : Int} {b : ByteArray} (h : UsI l k u) (hk : l[k]? = some b) (hb : badL b = false) (hn : k < 16001) : UsI l (k + 1) u := by
  have e := usN_step hk
  rw [hb, if_neg (by simp), Nat.add_zero] at e
  obtain ⟨h1, h2, h3⟩ := h
  exact ⟨by rw [e, h1, Nat.add_zero], by omega, by omega⟩
theorem UsI.bd {l : List ByteArray} {k : Nat} {u : Int} (h : UsI l k u) : 0 ≤ u ∧ u ≤ k ∧ k ≤ 16001 := by obtain ⟨h1, h2, h3⟩ := h; omega
set_option maxHeartbeats 8000000 in
set_option maxRecDepth 100000 in
theorem s_CountOutputs (s : ByteArray) (w : World) (hs : s.size ≤ 1048576) :
    Calls Tryd.prog 27 #[.string s] w fun e w' => coPost s w e w' := by
  have HC := Lib.hid (s_l08Lines s w hs)
  clear hs
  by_cases h16 : s.size ≤ 16000
  · have hz : ¬ (16000 : Int) < (s.size : Int) := by omega
    by_cases hE : lnE s = ⟨#[]⟩
    · have hO : coO s = true := by unfold coO; rw [decide_eq_true h16, decide_eq_true hE]; rfl
      have HO := Lib.hid hO
      have HLE := Lib.hid (ln_le hO)
      have HE := Lib.hid hE
      clear hO hE h16
      go_enter Tryd.func27, Tryd.ntmps27
      go_wp2_with fail
      refine HC.out.mono ?_
      rintro e w1 ⟨pb, c, rfl, hc, hlt1, hb⟩
      rw [HE.out]
      have HB := Lib.hid hb
      have HCL := Lib.hid hc
      clear hb HC hc hlt1
      obtain ⟨n, hn⟩ : ∃ n, n = (lnP s).length := ⟨_, rfl⟩
      rw [← hn]
      have HN := Lib.hid hn
      have hn16 : n ≤ 16000 := by have := HLE.out; omega
      clear hn hz
      go_wp2
      go_loopw [7, 8] (fun u i wr => ∃ (k : Nat) (uv : Int), k ≤ n ∧ u = .int .i64 uv ∧ i = .int .i64 k ∧ Hid (UsI (lnP s) k uv) ∧ wr = w1) (fun _ i _ => n - (intOf i).toNat)
      case atStart => exact ⟨0, 0, Nat.zero_le _, rfl, rfl, Lib.hid (UsI.zero _), rfl⟩
      case round =>
        obtain ⟨k, uv, hk, rfl, rfl, HU, rfl⟩ := hrel
        by_cases hlt : k < n
        · have hkl : k < (lnP s).length := by have := HN.out; omega
          obtain ⟨x, hx⟩ : ∃ x, (lnP s)[k]? = some x := ⟨_, List.getElem?_eq_getElem hkl⟩
          have hcell := HCL.out k x hx
          have HX := Lib.hid hx
          obtain ⟨hu0, hu1, hu3⟩ := HU.out.bd
          have hu2 : (uv + 1 + 9223372036854775808) % 18446744073709551616 - 9223372036854775808 = uv + 1 := by omega
          clear hx hkl
          cases p1 : (x.toList == ([110, 111] : List UInt8))
          · cases p2 : (x.toList == ([119, 104, 97, 116] : List UInt8))
            · have HB0 := Lib.hid (badL_of p1 p2)
              go_wp2
              go_roundw
              case rel => exact ⟨k + 1, uv, by omega, rfl, by go_num, Lib.hid (HU.out.good HX.out HB0.out (by omega)), by trivial⟩
              case measure => simp [intOf]; omega
            · have HB0 := Lib.hid (badL_of p1 p2)
              go_wp2
              go_roundw
              case rel => exact ⟨k + 1, uv + 1, by omega, by go_num, by go_num, Lib.hid (HU.out.bad HX.out HB0.out (by omega)), by trivial⟩
              case measure => simp [intOf]; omega
          · have HB0 := Lib.hid (badL_of p1 rfl)
            go_wp2
            go_roundw
            case rel => exact ⟨k + 1, uv + 1, by omega, by go_num, by go_num, Lib.hid (HU.out.bad HX.out (by rw [HB0.out]; rfl) (by omega)), by trivial⟩
            case measure => simp [intOf]; omega
        · have hkk : k = n := by omega
          subst hkk
          obtain ⟨hu0, hu1, hu3⟩ := HU.out.bd
          have hsb : ((k : Int) - uv + 9223372036854775808) % 18446744073709551616 - 9223372036854775808 = (k : Int) - uv := by omega
          have HU2 := Lib.hid HU.out
          clear HU
          go_wp2
          refine bodyPost_ret (v := .tuple #[.int .i64 uv, .int .i64 ((k : Int) - uv), .bool true]) (by simp [results, Tryd.results27, go_sem]) rfl ?_
          exact coPost.yes HO.out (by rw [HU2.out.1, HN.out]) (by have h1 := HU2.out.1; have h2 := HU2.out.2.1; have h3 := HN.out; rw [← h3, h1]; omega) HB.out
    · have hO : coO s = false := by unfold coO; rw [decide_eq_false hE, Bool.and_false]
      have HO := Lib.hid hO
      have hne : ((lnE s).toList == ([] : List UInt8)) = false := by
        have := str_ne hE
        rwa [show (⟨#[]⟩ : ByteArray).toList = [] from by rw [Lib.toList_data]] at this
      clear hO hE h16
      go_enter Tryd.func27, Tryd.ntmps27
      go_wp2_with fail
      refine HC.out.mono ?_
      rintro e w1 ⟨pb, c, rfl, -, -, hb⟩
      have HB := Lib.hid hb
      clear hb HC
      generalize lnE s = x at hne
      go_wp2
      refine bodyPost_ret (v := .tuple #[.int .i64 0, .int .i64 0, .bool false]) (by simp [results, Tryd.results27, go_sem]) rfl ?_
      exact coPost.no HO.out HB.out
  · have hO : coO s = false := by unfold coO; rw [decide_eq_false h16, Bool.false_and]
    have HO := Lib.hid hO
    have hz : (16000 : Int) < (s.size : Int) := by omega
    clear hO h16 HC
    go_enter Tryd.func27, Tryd.ntmps27
    go_wp2
    refine bodyPost_ret (v := .tuple #[.int .i64 0, .int .i64 0, .bool false]) (by simp [results, Tryd.results27, go_sem]) rfl ?_
    exact coPost.no HO.out (Below.refl _ _)
set_option maxHeartbeats 8000000 in
theorem law_FnExactCountOutputs (s0 : ByteArray) (w : World) (_hz0 : s0.size ≤ maxLen) (hm0 : ML w) :
    Calls Tryd.prog 7 #[.string s0] w fun e w' => e = .returned (.bool true) ∧ Below w.heap.size w w' := by
  have HM0 := Lib.hid hm0
  clear hm0
  by_cases hb0 : s0.size ≤ 1048576
  · have HZ0 := Lib.hid hb0
    have hbi0 : ¬ (1048576 : Int) < (s0.size : Int) := by omega
    have HS := Lib.hid (s_CountOutputs s0 w hb0)
    clear hb0
    unfold coPost at HS
    have HI : ∀ w2, Below w.heap.size w w2 → Hid (Calls Tryd.prog 28 #[.string s0] w2 fun e w' => e = .returned (.tuple #[.int .i64 (coU s0), .int .i64 (coV s0), .bool (coO s0)]) ∧ Below w2.heap.size w2 w') := fun w2 hb => Lib.hid (i_CountOutputs s0 w2 HZ0.out (HM0.out.below hb))
    generalize (coU s0 : Int) = x0 at HS HI
    generalize (coV s0 : Int) = x1 at HS HI
    generalize coO s0 = x2 at HS HI
    have e0 : (x0 == x0) = true := by simp
    have e1 : (x1 == x1) = true := by simp
    have e2 : (x2 == x2) = true := by simp
    clear HM0
    go_enter Tryd.func7, Tryd.ntmps7
    go_wp2_with fail
    refine HS.out.mono ?_
    rintro e w1 ⟨rfl, b1⟩
    have B1 := Lib.hid b1
    clear b1
    go_wp2_with fail
    refine (HI _ B1.out).out.mono ?_
    rintro e w2 ⟨rfl, b2⟩
    have B2 := Lib.hid (below_of B1.out B1.out.size b2)
    clear b2 HI HS
    go_wp2
    go_ret
    exact ⟨rfl, B2.out⟩
  · have hbi0 : (1048576 : Int) < (s0.size : Int) := by omega
    clear HM0
    go_enter Tryd.func7, Tryd.ntmps7
    go_wp2
    go_ret
    exact ⟨rfl, Below.refl _ _⟩
end Go.Proofs.YtoadccmkcjnjmaaDoor
