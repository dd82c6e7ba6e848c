/- The lines of a text: the program. No statement is proved here. -/
import Derived.Test.YtoadccmkcjnjmaaDoorLnM
import Derived.Test.YtoadccmkcjnjmaaDoorRdN
import Derived.Test.YtoadccmkcjnjmaaDoorShelfB
namespace Go.Proofs.YtoadccmkcjnjmaaDoor
open Go Go.RowKit
theorem lib_CutSuffixI (s : ByteArray) (w : World) (hs : s.size ≤ 1048576) :
    Calls Tryd.prog 97 #[.string s, .string ⟨#[10]⟩] w fun e w' => (Lib.hasSuffix s.data.toList [10] = true → e = .returned (.tuple #[.string (s.extract 0 (s.size - 1)), .bool true])) ∧ (Lib.hasSuffix s.data.toList [10] = false → e = .returned (.tuple #[.string s, .bool false])) ∧ w' = w := by
  have HC := Lib.hid (Tryd.stringslite_HasSuffix s ⟨#[10]⟩ w (by omega))
  have hd : (⟨#[10]⟩ : ByteArray).data.toList = [10] := rfl
  rw [hd] at HC
  have HSZ := Lib.hid hs
  clear hs hd
  cases hb : Lib.hasSuffix s.data.toList [10]
  · rw [hb] at HC
    clear hb
    go_enter Tryd.func97, Tryd.ntmps97
    go_wp2_with fail
    refine HC.out.mono ?_
    rintro e w1 ⟨rfl, rfl⟩
    go_wp2
    go_ret2
    exact ⟨(fun h => by cases h), (fun _ => rfl), rfl⟩
  · rw [hb] at HC
    have h1 : 1 ≤ s.size := by
      cases e : s.data.toList with
      | nil => rw [e] at hb; cases hb
      | cons x t => rw [Lib.size_eq, e]; simp
    have hz : ((s.size : Int) - 1 + 9223372036854775808) % 18446744073709551616 - 9223372036854775808 = ((s.size - 1 : Nat) : Int) := by have := HSZ.out; omega
    clear hb
    go_enter Tryd.func97, Tryd.ntmps97
    go_wp2_with fail
    refine HC.out.mono ?_
    rintro e w1 ⟨rfl, rfl⟩
    go_wp2
    go_ret2
    exact ⟨(fun _ => rfl), (fun h => by cases h), rfl⟩
theorem lib_CutSuffix (s : ByteArray) (w : World) (hs : s.size ≤ 1048576) :
    Calls Tryd.prog 78 #[.string s, .string ⟨#[10]⟩] w fun e w' => (Lib.hasSuffix s.data.toList [10] = true → e = .returned (.tuple #[.string (s.extract 0 (s.size - 1)), .bool true])) ∧ (Lib.hasSuffix s.data.toList [10] = false → e = .returned (.tuple #[.string s, .bool false])) ∧ w' = w := by
  have HC := Lib.hid (lib_CutSuffixI s w hs)
  clear hs
  cases hb : Lib.hasSuffix s.data.toList [10]
  · rw [hb] at HC
    clear hb
    go_enter Tryd.func78, Tryd.ntmps78
    go_wp2_with fail
    refine HC.out.mono ?_
    rintro e w1 ⟨-, h, rfl⟩
    obtain rfl := h (by simp)
    clear h
    go_wp2
    go_ret2
    exact ⟨(fun h => by cases h), (fun _ => rfl), rfl⟩
  · rw [hb] at HC
    clear hb
    go_enter Tryd.func78, Tryd.ntmps78
    go_wp2_with fail
    refine HC.out.mono ?_
    rintro e w1 ⟨h, -, rfl⟩
    obtain rfl := h (by simp)
    clear h
    go_wp2
    go_ret2
    exact ⟨(fun _ => rfl), (fun h => by cases h), rfl⟩
theorem has_end {s : ByteArray} (h : Lib.hasSuffix s.data.toList [10] = true) : s.data.toList = (s.extract 0 (s.size - 1)).data.toList ++ [10] := by
  unfold Lib.hasSuffix at h
  rw [List.isSuffixOf_iff_suffix] at h
  obtain ⟨t, e⟩ := h
  have hz : s.size = t.length + 1 := by rw [Lib.size_eq, ← e]; simp
  have e2 : (s.extract 0 (s.size - 1)).data.toList = t := by
    rw [extract_list]
    simp only [List.drop_zero]
    rw [← e, hz, Nat.add_sub_cancel]
    simp
  rw [e2, e]
theorem has_not {s : ByteArray} (h : Lib.hasSuffix s.data.toList [10] = false) (h0 : s ≠ ⟨#[]⟩) : lnE s ≠ ⟨#[]⟩ := by
  have hne : s.data.toList ≠ [] := by
    intro e
    apply h0
    rw [← mk_list s, e]
  have e := (List.dropLast_concat_getLast hne).symm
  refine ln_not e ?_
  intro hx
  rw [hx] at e
  have : Lib.hasSuffix s.data.toList [10] = true := by
    unfold Lib.hasSuffix
    rw [List.isSuffixOf_iff_suffix]
    exact ⟨_, e.symm⟩
  rw [this] at h
  cases h
/-- what the lines are: none, or a new row -/
def LnR (w : World) (B0 : Nat) (A : Option Addr) (xs : List ByteArray) : Prop := ∃ b, (xs = [] ∨ (A = some ⟨b, 0, none⟩ ∧ b < w.heap.size)) ∧ B0 ≤ b ∧ ∀ k u, xs[k]? = some u → w.cell? ⟨b, k, none⟩ = some (.string u)
def LnPost (s : ByteArray) (w : World) (e : Ending) (w' : World) : Prop := ∃ A c, e = .returned (.tuple #[.slice A (if coO s then (lnP s).length else 0) c, .bool (coO s)]) ∧ (coO s = true → LnR w' w.heap.size A (lnP s)) ∧ Below w.heap.size w w'
theorem LnPost.yes {s : ByteArray} {w w' : World} {A : Option Addr} {c : Nat} (hO : coO s = true) (h : LnR w' w.heap.size A (lnP s)) (hb : Below w.heap.size w w') : LnPost s w (.returned (.tuple #[.slice A (lnP s).length c, .bool true])) w' :=
  ⟨A, c, by rw [hO]; rfl, fun _ => h, hb⟩
theorem LnPost.no {s : ByteArray} {w w' : World} (hO : coO s = false) (hb : Below w.heap.size w w') : LnPost s w (.returned (.tuple #[.slice none 0 0, .bool false])) w' :=
  ⟨none, 0, (by rw [hO]; rfl), (fun h => by rw [hO] at h; cases h), hb⟩
set_option maxHeartbeats 4000000 in
theorem i_linesOf (s : ByteArray) (w : World) (hs : s.size ≤ 1048576) (hM : ML w) :
    Calls Tryd.prog 53 #[.string s] w fun e w' => LnPost s w e w' := by
  by_cases h0 : s = ⟨#[]⟩
  · have hO : coO s = true := by unfold coO; rw [(ln_none h0).2, h0]; rfl
    have HO := Lib.hid hO
    have HP := Lib.hid (ln_none h0).1
    subst h0
    clear hs hM hO
    go_enter Tryd.func53, Tryd.ntmps53
    go_wp2
    go_ret2
    have h := LnPost.yes (c := 0) (A := none) HO.out (w := w) (w' := w) ⟨w.heap.size, .inl HP.out, Nat.le_refl _, fun k u h => by rw [HP.out] at h; simp at h⟩ (Below.refl _ _)
    rw [HP.out] at h
    exact h
  · have hne : (s.toList == ([] : List UInt8)) = false := by
      have := str_ne h0
      rwa [show (⟨#[]⟩ : ByteArray).toList = [] from by rw [Lib.toList_data]] at this
    have H0 := Lib.hid h0
    have HS := Lib.hid (lib_CutSuffix s w hs)
    have HSZ := Lib.hid hs
    have HM := Lib.hid hM
    clear h0 hs hM
    cases hb : Lib.hasSuffix s.data.toList [10]
    · have hO : coO s = false := by unfold coO; rw [decide_eq_false (has_not hb H0.out), Bool.and_false]
      have HO := Lib.hid hO
      rw [hb] at HS
      clear hb hO
      go_enter Tryd.func53, Tryd.ntmps53
      go_wp2_with fail
      refine HS.out.mono ?_
      rintro e w1 ⟨-, h, rfl⟩
      obtain rfl := h (by simp)
      clear h HS
      go_wp2
      go_ret2
      exact LnPost.no HO.out (Below.refl _ _)
    · have he := has_end hb
      have HL := Lib.hid (ln_ends he)
      rw [hb] at HS
      clear hb he
      by_cases h16 : s.size ≤ 16000
      · have hO : coO s = true := by unfold coO; rw [decide_eq_true h16, HL.out.1]; rfl
        have hz : ¬ (16000 : Int) < (s.size : Int) := by omega
        have hrs : (s.extract 0 (s.size - 1)).size ≤ 1048576 := by
          have := HSZ.out
          rw [ByteArray.size_extract]
          omega
        have HO := Lib.hid hO
        generalize s.extract 0 (s.size - 1) = r at HS hrs HL
        obtain ⟨m, hm⟩ := HM.out
        have HP := Lib.hid (Tryd.strings_Split r ⟨#[10]⟩ m w (by omega) hm (by decide))
        rw [splitB_count, countB_cut] at HP
        clear hO h16 hrs hm HM H0
        go_enter Tryd.func53, Tryd.ntmps53
        go_wp2_with fail
        refine HS.out.mono ?_
        rintro e w1 ⟨h, -, rfl⟩
        obtain rfl := h (by simp)
        clear h HS
        go_wp2_with fail
        refine HP.out.mono ?_
        rintro e w2 ⟨rfl, hw⟩
        have B2 : Hid (Below w1.heap.size w1 w2) := Lib.hid (by rw [hw]; exact (Below.refl _ _).alloc (Nat.le_refl _) _)
        have hc : ∀ k u, (cutS 10 r)[k]? = some u → w2.cell? ⟨w1.heap.size, k, none⟩ = some (.string u) := by
          intro k u hk
          rw [hw, World.cell?_alloc_at (hn := rfl), List.getElem?_toArray, List.getElem?_map, hk]
          rfl
        have HC := Lib.hid hc
        have HZ : Hid (w1.heap.size < w2.heap.size) := Lib.hid (by rw [hw]; simp)
        clear hw hc HP
        go_wp2
        go_ret2
        have h := LnPost.yes (c := (cutS 10 r).length) (A := some ⟨w1.heap.size, 0, none⟩) HO.out (w := w1) (w' := w2) ⟨w1.heap.size, .inr ⟨rfl, HZ.out⟩, Nat.le_refl _, by rw [HL.out.2]; exact HC.out⟩ B2.out
        rw [HL.out.2] at h
        exact h
      · have hO : coO s = false := by unfold coO; rw [decide_eq_false h16, Bool.false_and]
        have hz : (16000 : Int) < (s.size : Int) := by omega
        have HO := Lib.hid hO
        generalize s.extract 0 (s.size - 1) = r at HS HL
        clear hO h16 HL
        go_enter Tryd.func53, Tryd.ntmps53
        go_wp2_with fail
        refine HS.out.mono ?_
        rintro e w1 ⟨h, -, rfl⟩
        obtain rfl := h (by simp)
        clear h HS
        go_wp2
        go_ret2
        exact LnPost.no HO.out (Below.refl _ _)
end Go.Proofs.YtoadccmkcjnjmaaDoor
