/- Farms that came in, with the words of their numbers. No statement is proved here. -/
import Derived.Test.YtmadlabnhjhfiaaOpenW
import Derived.OpenShut
namespace Go.Proofs.Ytmadlabnhjhfiaa
open Go Go.RowKit
section
variable {H : Type} {enc : TypeId × Value → H} {P : Program} {w : World} {base : Nat} {spare : Nat → Bool} {held : Bool}
open Go.ChangeShapes Go.WideShapes Go.Joins Go.Deep
theorem open_farm {r : Reach} {b0 : Nat} {t e : TypeId} {f0 f1 f2 f3 f4 : Field} {v : Value} {d : DataW H} {p : List MemPlace} (hs : P.underlying t = some (.struct #[f0, f1, f2, f3, f4])) (hone : oneCellFields P #[f0, f1, f2, f3, f4] = true) (hC : P.cellsOf t = 5)
    (h0 : P.underlying f0.type = some (.slice e)) (h1 : P.underlying f1.type = some (.slice e)) (he : P.underlying e = some (.float .f32)) (hc : P.cellsOf e = 1)
    (h2 : P.underlying f2.type = some (.float .f32)) (h3 : P.underlying f3.type = some (.float .f32)) (h4 : P.underlying f4.type = some (.float .f32))
    (hv : Value.okWide P w r b0 t v) (h : DataW.Trod enc P w base spare held t v d p) :
    ∃ (X Y : Option Addr) (cx cy : Nat) (fx fy : List Nat) (fr fd fs : Nat), v = .agg #[.slice X fx.length cx, .slice Y fy.length cy, .float .f32 fr, .float .f32 fd, .float .f32 fs] ∧
      (fx.length ≤ maxLen ∧ Fl w X fx ∧ ∀ x ∈ fx, x < words .f32) ∧ (fy.length ≤ maxLen ∧ Fl w Y fy ∧ ∀ x ∈ fy, x < words .f32) ∧ (Lit.float .f32 fr).wf = true ∧ (Lit.float .f32 fd).wf = true ∧ (Lit.float .f32 fs).wf = true := by
  obtain ⟨cs, rfl, hsz⟩ := okWide_struct hs hv
  obtain ⟨l⟩ := cs
  match l, hsz.trans hC with
  | [c0, c1, c2, c3, c4], _ =>
    obtain ⟨fuel, hf⟩ := h
    obtain ⟨xs, m, _, hx, _, hlen, hg⟩ := DataW.trod_struct hs hf
    obtain ⟨o0, k0⟩ := hone_of hone 0 f0 rfl
    obtain ⟨o1, k1⟩ := hone_of hone 1 f1 rfl
    obtain ⟨o2, k2⟩ := hone_of hone 2 f2 rfl
    obtain ⟨o3, k3⟩ := hone_of hone 3 f3 rfl
    obtain ⟨o4, k4⟩ := hone_of hone 4 f4 rfl
    match xs, hlen with
    | [y0, y1, y2, y3, y4], _ =>
      obtain ⟨X, cx, fx, e0, m0, w0, n0⟩ := open_f32sW h0 he hc (show DataW.trod enc P w base spare held m f0.type [c0] = some y0 by simpa [Value.cells, o0, k0] using hg 0 f0 rfl)
      cases e0
      obtain ⟨Y, cy, fy, e1, m1, w1, n1⟩ := open_f32sW h1 he hc (show DataW.trod enc P w base spare held m f1.type [c1] = some y1 by simpa [Value.cells, o1, k1] using hg 1 f1 rfl)
      cases e1
      obtain ⟨b2, e2, w2⟩ := trod_float h2 (show DataW.trod enc P w base spare held m f2.type [c2] = some y2 by simpa [Value.cells, o2, k2] using hg 2 f2 rfl)
      cases e2
      obtain ⟨b3, e3, w3⟩ := trod_float h3 (show DataW.trod enc P w base spare held m f3.type [c3] = some y3 by simpa [Value.cells, o3, k3] using hg 3 f3 rfl)
      cases e3
      obtain ⟨b4, e4, w4⟩ := trod_float h4 (show DataW.trod enc P w base spare held m f4.type [c4] = some y4 by simpa [Value.cells, o4, k4] using hg 4 f4 rfl)
      cases e4
      exact ⟨X, Y, cx, cy, fx, fy, b2, b3, b4, rfl, ⟨m0, w0, n0⟩, ⟨m1, w1, n1⟩, w2, w3, w4⟩
end
end Go.Proofs.Ytmadlabnhjhfiaa
