/- What makes a profile valid: both sides. No statement is proved here. -/
import Derived.Test.YtpmjikchlofebaaProf
import Derived.Deep.QuietTactic
import Derived.BigQuiet
namespace Go.Proofs.Ytpmjikchlofebaa
open Go Go.RowKit
theorem sized_of {a l d : List Nat} (h : validP a l d = true) : sized a l d := by
  unfold validP at h
  rw [Bool.and_eq_true] at h
  exact of_decide_eq_true h.1
theorem validP_no {a l d : List Nat} (h : ¬ sized a l d) : validP a l d = false := by unfold validP; rw [decide_eq_false h]; rfl
theorem validP_yes {a l d : List Nat} (h : sized a l d) : validP a l d = (angs a a.length && (fins l l.length && amts d d.length)) := by
  unfold validP; rw [decide_eq_true h, Bool.true_and, oks_eq, h.2.2.1, h.2.2.2]
theorem Fl.same {w : World} {A : Option Addr} {xs : List Nat} (h : Fl w A xs) {b off : Nat} (e : A = some ⟨b, off, none⟩) {k : Nat} (hk : k < xs.length) : w.cell? ⟨b, off + k, none⟩ = some (.float .f32 (xs.getD k 0)) := by
  obtain ⟨b', off', e', -, hc⟩ := h.at_ hk
  rw [e] at e'
  simp only [Option.some.injEq, Addr.mk.injEq] at e'
  obtain ⟨rfl, rfl, -⟩ := e'
  exact hc
end Go.Proofs.Ytpmjikchlofebaa
