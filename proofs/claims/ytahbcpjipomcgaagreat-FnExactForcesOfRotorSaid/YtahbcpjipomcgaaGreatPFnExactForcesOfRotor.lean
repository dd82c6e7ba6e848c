/- FnExactForcesOfRotor: whatever the input, the call returns true and the input reads as it did. No condition. -/
import Derived.Test.YtahbcpjipomcgaaGreatRows
import Derived.Test.YtahbcpjipomcgaaGreatLawFor
import Derived.WalkKit
import Derived.ProofKit
import Derived.OpenShut
namespace Go.Proofs.YtahbcpjipomcgaaGreat.PFnExactForcesOfRotor
open Go.Joins Go.ChangeShapes Go.WideShapes Go.ChangeAt Go.RowKit Go.ChangeMaps
theorem laidOut : laidOutB Tryz.prog = true := by kernel_rfl
theorem own : ownKnob Tryz.prog.godebug = none := by kernel_rfl
set_option linter.unusedVariables false
set_option maxRecDepth 100000 in
theorem lifted (os : Os) (started : os.Started) (H : Type) (enc : TypeId × Value → H) :
    ReturnsInHanded {} Tryz.checked os 3 .any (Rows.fnExactForcesOfRotorSpec.pre6 enc Tryz.prog Tryz.f3 Rows.fnExactForcesOfRotorRow.domain false) (Rows.fnExactForcesOfRotorSpec.post enc Tryz.prog Tryz.f3 false true false false) := by
  refine returnsInHanded_of_change (C := Tryz.checked) own started (by kernel_rfl) Tryz.func3
    (ChangeSpec.witness6 (enc := enc) (C := Tryz.checked) false ⟨#[], #[.agg #[.slice none 0 0, .slice none 0 0, .slice none 0 0, .slice none 0 0, .int .i64 0, .float .f32 0, .float .f32 0], .float .f32 0, .float .f32 0, .float .f32 0, .float .f32 0], []⟩ 8 (by kernel_rfl) (by kernel_rfl) (by kernel_rfl) (by kernel_rfl)) ?_
  intro W base args ds gs before hval0 hW hcnd _
  have hval : ∀ (j : Nat) t v, Tryz.f3.params[j]? = some t → args[j]? = some v → Value.okWide Tryz.prog W .any base t v := hval0
  have hW' := hW
  obtain ⟨p, q, hA0, hV, rfl, hfz, hnd⟩ := hW
  have hA : DataW.TrodAll enc Tryz.prog W 0 (fun _ => true) true Tryz.f3.params.toList args.toList ds p := hA0
  rw [Tryz.params3] at hA hval
  obtain ⟨v0, vs0, d0, ds0, p0, q0, hargs, rfl, rfl, h0, r0⟩ := trodAll_cons hA
  obtain ⟨v1, vs1, d1, ds1, p1, q1, rfl, rfl, rfl, h1, r1⟩ := trodAll_cons r0
  obtain ⟨v2, vs2, d2, ds2, p2, q2, rfl, rfl, rfl, h2, r2⟩ := trodAll_cons r1
  obtain ⟨v3, vs3, d3, ds3, p3, q3, rfl, rfl, rfl, h3, r3⟩ := trodAll_cons r2
  obtain ⟨v4, vs4, d4, ds4, p4, q4, rfl, rfl, rfl, h4, r4⟩ := trodAll_cons r3
  obtain ⟨rfl, rfl, rfl⟩ := trodAll_nil r4
  obtain rfl : args = #[v0, v1, v2, v3, v4] := by cases args; simp_all
  obtain ⟨rfl, rfl⟩ := trodVars_none hV
  have k0 := h0
  have lt0 : ∀ x ∈ p0, x.block < W.heap.size := by obtain ⟨m, hm⟩ := k0; exact DataW.trod_lt m _ _ _ hm
  obtain ⟨cA0, cL0, cD0, cS0, cC0, cH0, cT0, yP0, yS0, yC0, yH0, yT0, m0, rfl, tfp0, tfs0, tfc0, tfh0, tft0⟩ := open_agg31111 Tryz.underlying28 (by kernel_rfl) (by kernel_rfl : Tryz.prog.cellsOf 28 = 7) (hval 0 28 v0 rfl rfl) h0
  obtain ⟨mp0, yA0, yL0, yD0, tfa0, tfl0, tfd0⟩ := open_cells3 Tryz.underlying24 (by kernel_rfl) tfp0
  obtain ⟨A0, ca0, xa0, rfl, ma0, wa0⟩ := open_f32sT Tryz.underlying22 Tryz.underlying26 (by kernel_rfl) tfa0
  obtain ⟨L0, cl0, xl0, rfl, ml0, wl0⟩ := open_f32sT Tryz.underlying22 Tryz.underlying26 (by kernel_rfl) tfl0
  obtain ⟨D0, cd0, xd0, rfl, md0, wd0⟩ := open_f32sT Tryz.underlying22 Tryz.underlying26 (by kernel_rfl) tfd0
  obtain ⟨S0, n0, cs0, xs0, rfl, ms0, es0, ws0⟩ := open_rows3 Tryz.underlying25 Tryz.underlying95 (by kernel_rfl) (by kernel_rfl) (by intro j f hj; rcases j with _ | _ | _ | j <;> simp at hj <;> subst hj <;> exact Tryz.underlying26) tfs0
  obtain ⟨c0, hc0, wc0⟩ := trod_int1 Tryz.underlying2 tfc0
  cases hc0
  obtain ⟨hb0, hh0, wh0⟩ := trod_float Tryz.underlying26 tfh0
  cases hh0
  obtain ⟨tp0, ht0, wt0⟩ := trod_float Tryz.underlying26 tft0
  cases ht0
  obtain ⟨a1, rfl, rfl, rfl, w1⟩ := open_float Tryz.underlying26 (hval 1 26 v1 rfl rfl) h1
  obtain ⟨a2, rfl, rfl, rfl, w2⟩ := open_float Tryz.underlying26 (hval 2 26 v2 rfl rfl) h2
  obtain ⟨a3, rfl, rfl, rfl, w3⟩ := open_float Tryz.underlying26 (hval 3 26 v3 rfl rfl) h3
  obtain ⟨a4, rfl, rfl, rfl, w4⟩ := open_float Tryz.underlying26 (hval 4 26 v4 rfl rfl) h4
  clear hA0 hval0

  refine (law_FnExactForcesOfRotor A0 L0 D0 S0 ca0 cl0 cd0 n0 cs0 c0 hb0 tp0 xa0 xl0 xd0 xs0 a1 a2 a3 a4 W ⟨⟨wa0, wl0, wd0⟩, ws0⟩ es0 ma0 ml0 md0 ms0 (lt_of_wf w1) (lt_of_wf w2) (lt_of_wf w3) (lt_of_wf w4)).mono fun e W' ⟨he, hg⟩ => ?_
  subst he
  exact ⟨_, rfl, _, _, _, [], _, [], hW', trodAll_mk1 (shut_bool Tryz.underlying4 _), (trodAll_cons_mk (Below.trod laidOut (by kernel_rfl) (of_decide_eq_true (by kernel_rfl)) k0 hg lt0) (trodAll_cons_mk (shut_float Tryz.underlying26 w1) (trodAll_cons_mk (shut_float Tryz.underlying26 w2) (trodAll_cons_mk (shut_float Tryz.underlying26 w3) (trodAll_cons_mk (shut_float Tryz.underlying26 w4) trodAll_mk0))))), rfl, hg.frame _, fun h => by cases h⟩

theorem proved : Rows.FnExactForcesOfRotorSaid :=
  OpenClaim.holds_of_wide 3 Tryz.f3 rfl rfl rfl rfl rfl rfl rfl ⟨rfl, rfl, rfl, rfl, rfl⟩ rfl rfl rfl rfl rfl (by kernel_rfl) Tryz.func3 (by kernel_rfl)
    (of_decide_eq_true (by kernel_rfl)) (by unfold Func.isWrapper; first | (rw [if_pos (by decide +kernel)]; kernel_rfl) | (rw [if_neg (by decide +kernel)]; exact ⟨rfl, rfl⟩))
    (fun os started H enc _ => lifted os started H enc)
end Go.Proofs.YtahbcpjipomcgaaGreat.PFnExactForcesOfRotor
