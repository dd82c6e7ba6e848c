/- A text cut into lines: mathematics. No statement is proved here. -/
import Derived.Test.YtoadccmkcjnjmaaDoorCutL
import Derived.Lib.CountLaws
namespace Go.Proofs.YtoadccmkcjnjmaaDoor
open Go Go.RowKit
theorem cutF_snoc (c : UInt8) : ∀ a : List UInt8, cutF c (a ++ [c]) = cutF c a ++ [[]]
  | [] => by simp [cutF]
  | x :: t => by
    have ih := cutF_snoc c t
    obtain ⟨h, r, e⟩ := cutF_ne c t
    by_cases hx : x = c
    · show cutF c (x :: (t ++ [c])) = _
      simp only [cutF, if_pos hx, ih, List.cons_append]
    · show cutF c (x :: (t ++ [c])) = _
      simp only [cutF, if_neg hx, ih, e, List.cons_append, List.headD_cons, List.tail_cons]
theorem cutF_last {c x : UInt8} (hx : x ≠ c) : ∀ a : List UInt8, ∃ p l, cutF c (a ++ [x]) = p ++ [l] ∧ l ≠ []
  | [] => ⟨[], [x], by simp [cutF, hx], by simp⟩
  | y :: t => by
    obtain ⟨p, l, e, hl⟩ := cutF_last hx t
    by_cases hy : y = c
    · refine ⟨[] :: p, l, ?_, hl⟩
      show cutF c (y :: (t ++ [x])) = _
      simp only [cutF, if_pos hy, e, List.cons_append]
    · cases p with
      | nil =>
        refine ⟨[], y :: l, ?_, by simp⟩
        show cutF c (y :: (t ++ [x])) = _
        simp only [cutF, if_neg hy, e, List.nil_append, List.headD_cons, List.tail_cons]
      | cons h q =>
        refine ⟨(y :: h) :: q, l, ?_, hl⟩
        show cutF c (y :: (t ++ [x])) = _
        simp only [cutF, if_neg hy, e, List.cons_append, List.headD_cons, List.tail_cons]
theorem count_cut (c : UInt8) : ∀ (k : Nat) (s : List UInt8), s.length ≤ k → Lib.count s [c] + 1 = (cutF c s).length
  | 0, s, h => by
    obtain rfl : s = [] := List.length_eq_zero_iff.1 (by omega)
    rfl
  | k + 1, s, h => by
    rcases index_cases c s with hi | ⟨i, hi⟩
    · rw [Lib.count_miss hi, cutF_none (index_none hi)]; rfl
    · obtain ⟨e, hn⟩ := index_some hi
      have e2 : cutF c s = s.take i :: cutF c (s.drop (i + 1)) := by
        conv => lhs; rw [e]
        rw [cutF_at hn]
      have hl : s.length = (s.take i ++ c :: s.drop (i + 1)).length := by rw [← e]
      have ih := count_cut c k (s.drop (i + 1)) (by simp at hl ⊢; omega)
      rw [Lib.count_hit (by simp) hi, e2]
      show 1 + Lib.count (s.drop (i + 1)) [c] + 1 = (cutF c (s.drop (i + 1))).length + 1
      omega
theorem splitB_count (c : UInt8) (s : ByteArray) : Lib.splitB ⟨#[c]⟩ 0 (Lib.countB s ⟨#[c]⟩) s = cutS c s :=
  splitB_few (by
    have := count_cut c _ s.data.toList (Nat.le_refl _)
    have e : (cutS c s).length = (cutF c s.data.toList).length := by simp [cutS]
    rw [e, ← this]
    exact Nat.le_refl _)
theorem countB_cut (c : UInt8) (s : ByteArray) : Lib.countB s ⟨#[c]⟩ + 1 = (cutS c s).length := by
  have e : (cutS c s).length = (cutF c s.data.toList).length := by simp [cutS]
  rw [e]
  exact count_cut c _ s.data.toList (Nat.le_refl _)
/-- the lines, and what stands behind the last -/
def lnP (s : ByteArray) : List ByteArray := (cutS 10 s).dropLast
def lnE (s : ByteArray) : ByteArray := (cutS 10 s).getLastD ⟨#[]⟩
theorem ln_eq (s : ByteArray) : cutS 10 s = lnP s ++ [lnE s] := by
  have h := cutS_pos 10 s
  unfold lnP lnE
  generalize cutS 10 s = l at h
  cases l with
  | nil => simp at h
  | cons x t =>
    rw [List.getLastD_cons]
    conv => lhs; rw [← List.dropLast_concat_getLast (l := x :: t) (by simp)]
    congr 2
    exact List.getLast_eq_getLastD ..
theorem ln_len (s : ByteArray) : (cutS 10 s).length = (lnP s).length + 1 := by rw [ln_eq]; simp
theorem ln_none {s : ByteArray} (h : s = ⟨#[]⟩) : lnP s = [] ∧ lnE s = ⟨#[]⟩ := by subst h; exact ⟨rfl, rfl⟩
theorem mk_list (s : ByteArray) : (⟨s.data.toList.toArray⟩ : ByteArray) = s := by cases s; simp
theorem ln_ends {s r : ByteArray} (h : s.data.toList = r.data.toList ++ [10]) : lnE s = ⟨#[]⟩ ∧ lnP s = cutS 10 r := by
  have e : cutS 10 s = cutS 10 r ++ [⟨#[]⟩] := by
    unfold cutS
    rw [h, cutF_snoc, List.map_append]
    rfl
  rw [ln_eq] at e
  have := List.append_inj' e rfl
  exact ⟨by simpa using this.2, this.1⟩
theorem ln_not {s : ByteArray} {a : List UInt8} {x : UInt8} (h : s.data.toList = a ++ [x]) (hx : x ≠ 10) : lnE s ≠ ⟨#[]⟩ := by
  obtain ⟨p, l, e, hl⟩ := cutF_last hx a
  have e2 : cutS 10 s = p.map (fun l => (⟨l.toArray⟩ : ByteArray)) ++ [⟨l.toArray⟩] := by
    unfold cutS
    rw [h, e, List.map_append]
    rfl
  rw [ln_eq] at e2
  have := (List.append_inj' e2 rfl).2
  simp only [List.cons.injEq, and_true] at this
  rw [this]
  intro h2
  have h3 : l.toArray = #[] := congrArg ByteArray.data h2
  exact hl (by simpa using h3)
/-- a line that counts as useless; how many of the first k are so -/
def badL (b : ByteArray) : Bool := (b.toList == ([110, 111] : List UInt8)) || (b.toList == ([119, 104, 97, 116] : List UInt8))
def usN (l : List ByteArray) (k : Nat) : Nat := ((l.take k).filter badL).length
theorem usN_step {l : List ByteArray} {k : Nat} {b : ByteArray} (h : l[k]? = some b) : usN l (k + 1) = usN l k + (if badL b then 1 else 0) := by
  obtain ⟨hk, e⟩ := List.getElem?_eq_some_iff.1 h
  unfold usN
  rw [List.take_succ_eq_append_getElem hk, e, List.filter_append, List.length_append]
  cases hb : badL b <;> simp [hb]
theorem usN_le (l : List ByteArray) (k : Nat) : usN l k ≤ k := by
  unfold usN
  refine Nat.le_trans (List.length_filter_le _ _) ?_
  rw [List.length_take]
  omega
def coO (s : ByteArray) : Bool := decide (s.size ≤ 16000) && decide (lnE s = ⟨#[]⟩)
def coU (s : ByteArray) : Nat := if coO s then usN (lnP s) (lnP s).length else 0
def coV (s : ByteArray) : Nat := if coO s then (lnP s).length - usN (lnP s) (lnP s).length else 0
end Go.Proofs.YtoadccmkcjnjmaaDoor
