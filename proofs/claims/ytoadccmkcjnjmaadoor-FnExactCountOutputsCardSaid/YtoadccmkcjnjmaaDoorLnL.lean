/- How many lines are useless: the program. No statement is proved here. -/
import Derived.Test.YtoadccmkcjnjmaaDoorLnI
namespace Go.Proofs.YtoadccmkcjnjmaaDoor
open Go Go.RowKit
def coPost (s : ByteArray) (w : World) (e : Ending) (w' : World) : Prop := e = .returned (.tuple #[.int .i64 (coU s), .int .i64 (coV s), .bool (coO s)]) ∧ Below w.heap.size w w'
theorem coPost.no {s : ByteArray} {w w' : World} (hO : coO s = false) (hb : Below w.heap.size w w') : coPost s w (.returned (.tuple #[.int .i64 0, .int .i64 0, .bool false])) w' := by
  refine ⟨?_, hb⟩
  unfold coU coV
  rw [hO]
  rfl
theorem coPost.yes {s : ByteArray} {w w' : World} {u v : Int} (hO : coO s = true) (hu : u = usN (lnP s) (lnP s).length) (hv : v = ((lnP s).length - usN (lnP s) (lnP s).length : Nat)) (hb : Below w.heap.size w w') : coPost s w (.returned (.tuple #[.int .i64 u, .int .i64 v, .bool true])) w' := by
  refine ⟨?_, hb⟩
  unfold coU coV
  rw [hO, hu, hv]
  rfl
/-- the counts so far -/
def CuI (l : List ByteArray) (k : Nat) (u v : Int) : Prop := u = usN l k ∧ v = (k - usN l k : Nat) ∧ usN l k ≤ k ∧ k ≤ 16001
theorem CuI.zero (l : List ByteArray) : CuI l 0 0 0 := ⟨rfl, rfl, Nat.le_refl _, by omega⟩
theorem CuI.bad {l : List ByteArray} {k : Nat} {u v : Int} {b : ByteArray} (h : CuI l k u v) (hk : l[k]? = some b) (hb : badL b = true) (hn : k < 16001) : CuI l (k + 1) (u + 1) v := by
  have e := usN_step hk
  rw [hb, if_pos rfl] at e
  obtain ⟨h1, h2, h3, h4⟩ := h
  refine ⟨by rw [e, h1]; simp, by rw [e, h2]; omega, by omega, by omega⟩
theorem CuI.good {l : List ByteArray} {k : Nat} {u v : Int} {b : ByteArray} (h : CuI l k u v) (hk : l[k]? = some b) (hb : badL b = false) (hn : k < 16001) : CuI l (k + 1) u (v + 1) := by
  have e := usN_step hk
  rw [hb, if_neg (by simp), Nat.add_zero] at e
  obtain ⟨h1, h2, h3, h4⟩ := h
  refine ⟨by rw [e, h1, Nat.add_zero], by rw [e, h2]; omega, by omega, by omega⟩
theorem CuI.bd {l : List ByteArray} {k : Nat} {u v : Int} (h : CuI l k u v) : 0 ≤ u ∧ u ≤ 16001 ∧ 0 ≤ v ∧ v ≤ 16001 := by obtain ⟨h1, h2, h3, h4⟩ := h; omega
theorem ln_le {s : ByteArray} (h : coO s = true) : (lnP s).length ≤ 16000 := by
  have h1 := cutS_le 10 s
  rw [ln_len] at h1
  unfold coO at h
  rw [Bool.and_eq_true, decide_eq_true_eq] at h
  omega
theorem badL_of {b : ByteArray} {x y : Bool} (h1 : (b.toList == ([110, 111] : List UInt8)) = x) (h2 : (b.toList == ([119, 104, 97, 116] : List UInt8)) = y) : badL b = (x || y) := by unfold badL; rw [h1, h2]
set_option maxHeartbeats 8000000 in
set_option maxRecDepth 100000 in
theorem i_CountOutputs (s : ByteArray) (w : World) (hs : s.size ≤ 1048576) (hM : ML w) :
    Calls Tryd.prog 28 #[.string s] w fun e w' => coPost s w e w' := by
  have HC := Lib.hid (i_linesOf s w hs hM)
  clear hs hM
  cases hO : coO s
  · have HO := Lib.hid hO
    clear hO
    go_enter Tryd.func28, Tryd.ntmps28
    go_wp2_with fail
    refine HC.out.mono ?_
    rintro e w1 ⟨A, c, rfl, -, hb⟩
    rw [HO.out]
    have HB := Lib.hid hb
    clear hb HC
    go_wp2
    refine bodyPost_ret (v := .tuple #[.int .i64 0, .int .i64 0, .bool false]) (by simp [results, Tryd.results28, go_sem]) rfl ?_
    exact coPost.no HO.out HB.out
  · have HO := Lib.hid hO
    have HLE := Lib.hid (ln_le hO)
    clear hO
    go_enter Tryd.func28, Tryd.ntmps28
    go_wp2_with fail
    refine HC.out.mono ?_
    rintro e w1 ⟨A, c, rfl, hl, hb⟩
    obtain ⟨b, hA, -, hc⟩ := hl HO.out
    rw [HO.out]
    have HB := Lib.hid hb
    have HA := Lib.hid hA
    have HCL := Lib.hid hc
    clear hb HC hl hc hA
    simp only [if_true]
    obtain ⟨n, hn⟩ : ∃ n, n = (lnP s).length := ⟨_, rfl⟩
    rw [← hn]
    have HN := Lib.hid hn
    have hn16 : n ≤ 16000 := by have := HLE.out; omega
    clear hn
    go_wp2
    go_loopw [7, 8, 20] (fun u v i wr => ∃ (k : Nat) (uv vv : Int), k ≤ n ∧ u = .int .i64 uv ∧ v = .int .i64 vv ∧ i = .int .i64 k ∧ Hid (CuI (lnP s) k uv vv) ∧ wr = w1) (fun _ _ i _ => n - (intOf i).toNat)
    case atStart => exact ⟨0, 0, 0, Nat.zero_le _, rfl, rfl, rfl, Lib.hid (CuI.zero _), rfl⟩
    case round =>
      obtain ⟨k, uv, vv, hk, rfl, rfl, rfl, HU, rfl⟩ := hrel
      by_cases hlt : k < n
      · have hkl : k < (lnP s).length := by have := HN.out; omega
        obtain ⟨x, hx⟩ : ∃ x, (lnP s)[k]? = some x := ⟨_, List.getElem?_eq_getElem hkl⟩
        rcases HA.out with h0 | ⟨rfl, hlb⟩
        · rw [h0] at hkl; simp at hkl
        have hcell := HCL.out k x hx
        have HX := Lib.hid hx
        have HK := Lib.hid hlt
        obtain ⟨hu0, hu1, hv0, hv1⟩ := HU.out.bd
        have hu2 : (uv + 1 + 9223372036854775808) % 18446744073709551616 - 9223372036854775808 = uv + 1 := by omega
        have hv2 : (vv + 1 + 9223372036854775808) % 18446744073709551616 - 9223372036854775808 = vv + 1 := by omega
        clear hx hkl
        cases p1 : (x.toList == ([110, 111] : List UInt8))
        · cases p2 : (x.toList == ([119, 104, 97, 116] : List UInt8))
          · have HB0 := Lib.hid (badL_of p1 p2)
            go_wp2
            go_roundw
            case rel => exact ⟨k + 1, uv, vv + 1, by omega, rfl, by go_num, by go_num, Lib.hid (HU.out.good HX.out HB0.out (by omega)), by trivial⟩
            case measure => simp [intOf]; omega
          · have HB0 := Lib.hid (badL_of p1 p2)
            go_wp2
            go_roundw
            case rel => exact ⟨k + 1, uv + 1, vv, by omega, by go_num, rfl, by go_num, Lib.hid (HU.out.bad HX.out HB0.out (by omega)), by trivial⟩
            case measure => simp [intOf]; omega
        · have HB0 := Lib.hid (badL_of p1 rfl)
          go_wp2
          go_roundw
          case rel => exact ⟨k + 1, uv + 1, vv, by omega, by go_num, rfl, by go_num, Lib.hid (HU.out.bad HX.out (by rw [HB0.out]; rfl) (by omega)), by trivial⟩
          case measure => simp [intOf]; omega
      · have hkk : k = n := by omega
        subst hkk
        have HU2 := Lib.hid HU.out
        clear HU
        go_wp2
        refine bodyPost_ret (v := .tuple #[.int .i64 uv, .int .i64 vv, .bool true]) (by simp [results, Tryd.results28, go_sem]) rfl ?_
        exact coPost.yes HO.out (by rw [HU2.out.1, HN.out]) (by rw [HU2.out.2.1, HN.out]) HB.out
end Go.Proofs.YtoadccmkcjnjmaaDoor
