/- A text cut at each mark: mathematics; what strings.SplitN leaves is the same, as far as it goes. No statement is proved here. -/
import Derived.Test.YtknabmknboffgaaDoorProf
import Derived.Lib.SplitLaws
import Derived.Lib.IndexBytes
import Derived.Lib.IndexLaws
namespace Go.Proofs.YtknabmknboffgaaDoor
open Go Go.RowKit
/-- all parts between marks -/
def cutF (c : UInt8) : List UInt8 → List (List UInt8)
  | [] => [[]]
  | x :: t => if x = c then [] :: cutF c t else (x :: (cutF c t).headD []) :: (cutF c t).tail
theorem cutF_ne (c : UInt8) : ∀ s, ∃ h t, cutF c s = h :: t
  | [] => ⟨[], [], rfl⟩
  | x :: s => by
    unfold cutF
    split
    · exact ⟨_, _, rfl⟩
    · exact ⟨_, _, rfl⟩
theorem cutF_none {c : UInt8} : ∀ {s : List UInt8}, (∀ x ∈ s, x ≠ c) → cutF c s = [s]
  | [], _ => rfl
  | x :: s, h => by
    have ih := cutF_none (c := c) (s := s) (fun y hy => h y (List.mem_cons_of_mem _ hy))
    unfold cutF
    rw [if_neg (h x (List.mem_cons_self ..)), ih]
    rfl
theorem cutF_at {c : UInt8} : ∀ {a b : List UInt8}, (∀ x ∈ a, x ≠ c) → cutF c (a ++ c :: b) = a :: cutF c b
  | [], b, _ => by
    show cutF c (c :: b) = _
    unfold cutF
    rw [if_pos rfl]
    cases b <;> rfl
  | x :: a, b, h => by
    have ih := cutF_at (c := c) (a := a) (b := b) (fun y hy => h y (List.mem_cons_of_mem _ hy))
    show cutF c (x :: (a ++ c :: b)) = _
    unfold cutF
    rw [if_neg (h x (List.mem_cons_self ..)), ih]
    cases b <;> rfl
theorem index_none {c : UInt8} {s : List UInt8} (h : Lib.index s [c] = -1) : ∀ x ∈ s, x ≠ c := by
  rw [Lib.index_one] at h
  intro x hx e
  subst e
  obtain ⟨k, hk⟩ := List.mem_iff_getElem?.1 hx
  exact Lib.indexByte_none h k hk
theorem index_some {c : UInt8} {s : List UInt8} {i : Nat} (h : Lib.index s [c] = i) : s = s.take i ++ c :: s.drop (i + 1) ∧ ∀ x ∈ s.take i, x ≠ c := by
  rw [Lib.index_one] at h
  obtain ⟨h1, h2⟩ := Lib.indexByte_some h
  have hi := (List.getElem?_eq_some_iff.1 h1)
  obtain ⟨hlt, he⟩ := hi
  refine ⟨?_, fun x hx e => ?_⟩
  · conv => lhs; rw [← List.take_append_drop i s, List.drop_eq_getElem_cons hlt, he]
  · subst e
    obtain ⟨k, hk⟩ := List.mem_iff_getElem?.1 hx
    rw [List.getElem?_take] at hk
    split at hk
    · exact h2 k (by assumption) hk
    · cases hk
theorem index_cases (c : UInt8) (s : List UInt8) : Lib.index s [c] = -1 ∨ ∃ i : Nat, Lib.index s [c] = i := by
  have := Lib.indexByte_ge s c
  rw [Lib.index_one]
  by_cases h : Lib.indexByte s c = -1
  · exact .inl h
  · exact .inr ⟨(Lib.indexByte s c).toNat, by omega⟩
theorem cutF_len (c : UInt8) (s : List UInt8) : 1 ≤ (cutF c s).length := by
  obtain ⟨h, t, e⟩ := cutF_ne c s
  rw [e]; simp
theorem splitK_cut (c : UInt8) : ∀ (k : Nat) (s : List UInt8), ((cutF c s).length ≤ k + 1 → Lib.splitK [c] 0 k s = cutF c s) ∧ (k + 1 < (cutF c s).length → (Lib.splitK [c] 0 k s).length = k + 1)
  | 0, s => by
    constructor
    · intro h
      rcases index_cases c s with hi | ⟨i, hi⟩
      · rw [cutF_none (index_none hi)]; rfl
      · obtain ⟨e, hn⟩ := index_some hi
        rw [e, cutF_at hn] at h
        have h2 := cutF_len c (s.drop (i + 1))
        rw [List.length_cons] at h
        omega
    · intro _; rfl
  | k + 1, s => by
    obtain ⟨h1, h2⟩ := splitK_cut c k (s.drop ((Lib.index s [c]).toNat + 1))
    rcases index_cases c s with hi | ⟨i, hi⟩
    · have e1 : Lib.splitK [c] 0 (k + 1) s = [s] := by
        show (if Lib.index s [c] == -1 then [s] else _) = [s]
        rw [if_pos (by rw [hi]; rfl)]
      rw [e1, cutF_none (index_none hi)]
      exact ⟨fun _ => rfl, fun h => by simp at h⟩
    · obtain ⟨e, hn⟩ := index_some hi
      have e1 : Lib.splitK [c] 0 (k + 1) s = s.take i :: Lib.splitK [c] 0 k (s.drop (i + 1)) := by
        show (if Lib.index s [c] == -1 then [s] else _) = _
        rw [if_neg (by rw [hi]; intro h; have := beq_iff_eq.1 h; omega), hi]
        rfl
      have e2 : cutF c s = s.take i :: cutF c (s.drop (i + 1)) := by
        conv => lhs; rw [e]
        rw [cutF_at hn]
      rw [hi] at h1 h2
      simp only [Int.toNat_natCast] at h1 h2
      rw [e1, e2]
      constructor
      · intro h
        rw [h1 (by simpa using h)]
      · intro h
        simp only [List.length_cons]
        rw [h2 (by simpa using h)]
/-- the parts of a text, as texts -/
def cutS (c : UInt8) (s : ByteArray) : List ByteArray := (cutF c s.data.toList).map fun l => ⟨l.toArray⟩
theorem map_mk (l : List ByteArray) : (l.map (·.data.toList)).map (fun x => (⟨x.toArray⟩ : ByteArray)) = l := by
  rw [List.map_map]
  conv => rhs; rw [← List.map_id l]
  apply List.map_congr_left
  intro x _
  rfl
theorem splitB_few {c : UInt8} {s : ByteArray} {k : Nat} (h : (cutS c s).length ≤ k + 1) : Lib.splitB ⟨#[c]⟩ 0 k s = cutS c s := by
  have h' : (cutF c s.data.toList).length ≤ k + 1 := by simpa [cutS] using h
  have := (splitK_cut c k s.data.toList).1 h'
  unfold cutS
  rw [← this, show ([c] : List UInt8) = (⟨#[c]⟩ : ByteArray).data.toList from rfl, ← Lib.splitB_data, map_mk]
theorem splitB_many {c : UInt8} {s : ByteArray} {k : Nat} (h : k + 1 < (cutS c s).length) : (Lib.splitB ⟨#[c]⟩ 0 k s).length = k + 1 := by
  have h' : k + 1 < (cutF c s.data.toList).length := by simpa [cutS] using h
  have := (splitK_cut c k s.data.toList).2 h'
  rw [← this, show ([c] : List UInt8) = (⟨#[c]⟩ : ByteArray).data.toList from rfl, ← Lib.splitB_data, List.length_map]
theorem cutF_len_le (c : UInt8) : ∀ s : List UInt8, (cutF c s).length ≤ s.length + 1
  | [] => by simp [cutF]
  | x :: s => by
    have := cutF_len_le c s
    have := cutF_len c s
    unfold cutF
    split
    · simp; omega
    · simp; omega
theorem cutS_le (c : UInt8) (s : ByteArray) : (cutS c s).length ≤ s.size + 1 := by
  have := cutF_len_le c s.data.toList
  simp only [cutS, List.length_map]
  rwa [Lib.size_eq]
theorem cutS_pos (c : UInt8) (s : ByteArray) : 1 ≤ (cutS c s).length := by
  have := cutF_len c s.data.toList
  simpa [cutS] using this
theorem cut_mem {bs : List UInt8} {c : UInt8} {a i : Nat} (hn : ∀ j, a ≤ j → j < i → bs.getD j 0 ≠ c) : ∀ x ∈ (bs.take i).drop a, x ≠ c := by
  intro x hx e
  obtain ⟨k, hk⟩ := List.mem_iff_getElem?.1 hx
  rw [List.getElem?_drop, List.getElem?_take] at hk
  split at hk
  · refine hn (a + k) (by omega) (by assumption) ?_
    rw [List.getD_eq_getElem?_getD, hk, ← e]
    rfl
  · cases hk
theorem cut_step {bs : List UInt8} {c : UInt8} {a i : Nat} (ha : a ≤ i) (hi : i < bs.length) (hn : ∀ j, a ≤ j → j < i → bs.getD j 0 ≠ c) (hc : bs.getD i 0 = c) : cutF c (bs.drop a) = (bs.take i).drop a :: cutF c (bs.drop (i + 1)) := by
  have e : bs.drop a = (bs.take i).drop a ++ c :: bs.drop (i + 1) := by
    have h1 : bs = bs.take i ++ c :: bs.drop (i + 1) := by
      conv => lhs; rw [← List.take_append_drop i bs, List.drop_eq_getElem_cons hi]
      rw [← hc, List.getD_eq_getElem?_getD, List.getElem?_eq_getElem hi]
      rfl
    conv => lhs; rw [h1]
    rw [List.drop_append_of_le_length (by simp; omega)]
  rw [e, cutF_at (cut_mem hn)]
theorem cut_end {bs : List UInt8} {c : UInt8} {a : Nat} (hn : ∀ j, a ≤ j → j < bs.length → bs.getD j 0 ≠ c) : cutF c (bs.drop a) = [bs.drop a] := by
  refine cutF_none ?_
  have := cut_mem (i := bs.length) hn
  rwa [List.take_length] at this
theorem extract_list (s : ByteArray) (a i : Nat) : (s.extract a i) = ⟨((s.data.toList.take i).drop a).toArray⟩ := by
  apply ByteArray.ext
  rw [← Array.toArray_toList (xs := (s.extract a i).data), Lib.extract_data, List.drop_take]
end Go.Proofs.YtknabmknboffgaaDoor
