/- A list of numbers out of a text: mathematics; the program. No statement is proved here. -/
import Derived.Test.YtknabmknboffgaaDoorRdN
import Derived.Test.YtknabmknboffgaaDoorApp
import Derived.Test.YtknabmknboffgaaDoorMarkR
namespace Go.Proofs.YtknabmknboffgaaDoor
open Go Go.RowKit
def noneS : ByteArray := ⟨#[110, 111, 110, 101]⟩
def nmP (s : ByteArray) : List (List UInt8) := cutF 44 s.data.toList
def nmO (s : ByteArray) : Bool := decide (s = noneS) || (decide ((nmP s).length ≤ 256) && (nmP s).all rdB)
def nmL (s : ByteArray) : List Nat := if s = noneS then [] else if nmO s then (nmP s).map hxv else []
theorem none_ne {s : ByteArray} (h : s ≠ noneS) : (s.toList == ([110, 111, 110, 101] : List UInt8)) = false := by
  have := str_ne h
  rwa [show noneS.toList = [110, 111, 110, 101] from by rw [Lib.toList_data]; rfl] at this
theorem nm_none : nmO noneS = true ∧ nmL noneS = [] := ⟨by unfold nmO; rw [decide_eq_true rfl]; rfl, by unfold nmL; rw [if_pos rfl]⟩
theorem nm_many {s : ByteArray} (h : s ≠ noneS) (h2 : 256 < (nmP s).length) : nmO s = false ∧ nmL s = [] := by
  have e : nmO s = false := by unfold nmO; rw [decide_eq_false h, decide_eq_false (by omega)]; rfl
  exact ⟨e, by unfold nmL; rw [if_neg h, e]; rfl⟩
theorem nm_bad {s : ByteArray} (h : s ≠ noneS) (h2 : (nmP s).all rdB = false) : nmO s = false ∧ nmL s = [] := by
  have e : nmO s = false := by unfold nmO; rw [decide_eq_false h, h2]; simp
  exact ⟨e, by unfold nmL; rw [if_neg h, e]; rfl⟩
theorem nm_good {s : ByteArray} (h : s ≠ noneS) (h1 : (nmP s).length ≤ 256) (h2 : (nmP s).all rdB = true) : nmO s = true ∧ nmL s = (nmP s).map hxv := by
  have e : nmO s = true := by unfold nmO; rw [decide_eq_true h1, h2]; simp
  exact ⟨e, by unfold nmL; rw [if_neg h, e]; rfl⟩
theorem nm_few (s : ByteArray) : (nmL s).length ≤ 1048576 := by
  by_cases h : s = noneS
  · rw [h, nm_none.2]; simp
  · by_cases h1 : (nmP s).length ≤ 256
    · cases h2 : (nmP s).all rdB
      · rw [(nm_bad h h2).2]; simp
      · rw [(nm_good h h1 h2).2, List.length_map]; omega
    · rw [(nm_many h (by omega)).2]; simp
theorem all_no {P : List (List UInt8)} {k : Nat} (h : k < P.length) (hb : rdB (P.getD k []) = false) : P.all rdB = false := by
  cases e : P.all rdB
  · rfl
  · rw [List.all_eq_true] at e
    have := e _ (List.getElem_mem h)
    rw [List.getD_eq_getElem?_getD, List.getElem?_eq_getElem h] at hb
    rw [show rdB P[k] = false from hb] at this
    cases this
theorem take_next {P : List (List UInt8)} {k : Nat} (h : k < P.length) : P.take (k + 1) = P.take k ++ [P.getD k []] := by
  rw [List.take_succ_eq_append_getElem h, List.getD_eq_getElem?_getD, List.getElem?_eq_getElem h]
  rfl
theorem cutF_size (c : UInt8) : ∀ s : List UInt8, ∀ x ∈ cutF c s, x.length ≤ s.length
  | [], x, hx => by simp [cutF] at hx; subst hx; simp
  | y :: s, x, hx => by
    have ih := cutF_size c s
    unfold cutF at hx
    split at hx
    · rcases List.mem_cons.1 hx with rfl | hx
      · simp
      · have := ih x hx; simp; omega
    · rcases List.mem_cons.1 hx with rfl | hx
      · obtain ⟨h, t, e⟩ := cutF_ne c s
        have := ih h (by rw [e]; exact List.mem_cons_self ..)
        rw [e]; simp; omega
      · have := ih x (List.mem_of_mem_tail hx); simp; omega
/-- the k-th part, as a text -/
def partS (s : ByteArray) (k : Nat) : ByteArray := ⟨((nmP s).getD k []).toArray⟩
theorem partS_list (s : ByteArray) (k : Nat) : (partS s k).data.toList = (nmP s).getD k [] := rfl
theorem cutS_len (s : ByteArray) : (cutS 44 s).length = (nmP s).length := by simp [cutS, nmP]
theorem cutS_at {s : ByteArray} {k : Nat} (h : k < (nmP s).length) : (cutS 44 s)[k]? = some (partS s k) := by
  unfold cutS partS nmP at *
  rw [List.getElem?_map, List.getElem?_eq_getElem h, List.getD_eq_getElem?_getD, List.getElem?_eq_getElem h]
  rfl
theorem partS_size {s : ByteArray} {k : Nat} (h : k < (nmP s).length) : (partS s k).size ≤ s.size := by
  show ((nmP s).getD k []).toArray.size ≤ _
  rw [List.size_toArray, List.getD_eq_getElem?_getD, List.getElem?_eq_getElem h]
  have := cutF_size 44 s.data.toList _ (List.getElem_mem (l := nmP s) h)
  rw [Lib.size_eq s]
  exact this
theorem lib_Split (s : ByteArray) (w : World) (hs : s.size ≤ 1048576) (hM : ML w) :
    Calls Tryd.prog 47 #[.string s, .string ⟨#[44]⟩, .int .i64 257] w fun e w' => ∃ n N, e = .returned (.slice (some ⟨w.heap.size, 0, none⟩) n N) ∧ n ≤ 257 ∧ ((nmP s).length ≤ 256 → n = (nmP s).length ∧ ∀ k, k < n → w'.cell? ⟨w.heap.size, k, none⟩ = some (.string (partS s k))) ∧ (256 < (nmP s).length → 256 < n) ∧ w.heap.size < w'.heap.size ∧ Below w.heap.size w w' := by
  obtain ⟨m, hm⟩ := hM
  refine (Tryd.strings_SplitN s ⟨#[44]⟩ 257 m w (by omega) hm (by decide) (by omega) (by omega)).mono ?_
  rintro e w' ⟨rfl, rfl⟩
  have hle := cutS_le 44 s
  rw [cutS_len] at hle
  refine ⟨_, _, rfl, ?_, ?_, ?_, by simp, (Below.refl _ _).alloc (Nat.le_refl _) _⟩
  · have := Lib.splitB_length_le ⟨#[44]⟩ 0 (min 257 (s.size + 1) - 1) s
    omega
  · intro h
    rw [splitB_few (by rw [cutS_len]; omega)]
    refine ⟨cutS_len s, fun k hk => ?_⟩
    rw [cutS_len] at hk
    rw [World.cell?_alloc_at (w := w) (hn := rfl)]
    have hc : (Lib.cellsOf (cutS 44 s) (min 257 (s.size + 1)))[k]? = some (.string (partS s k)) := by
      unfold Lib.cellsOf
      rw [List.getElem?_toArray, List.getElem?_append_left (by rw [List.length_map, cutS_len]; exact hk), List.getElem?_map, cutS_at hk]
      rfl
    exact hc
  · intro h
    by_cases e : (nmP s).length = 257
    · rw [splitB_few (by rw [cutS_len]; omega), cutS_len]; omega
    · have := splitB_many (c := 44) (s := s) (k := min 257 (s.size + 1) - 1) (by rw [cutS_len]; omega)
      omega
end Go.Proofs.YtknabmknboffgaaDoor
