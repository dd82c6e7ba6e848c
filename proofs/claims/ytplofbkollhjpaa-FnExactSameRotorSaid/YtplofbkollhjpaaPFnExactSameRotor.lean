/- FnExactSameRotor: whatever the input, the call returns true and the input reads as it did. No condition. -/
import Derived.Test.YtplofbkollhjpaaRows
import Derived.Test.YtplofbkollhjpaaLawSmT
import Derived.WalkKit
import Derived.ProofKit
import Derived.OpenShut
namespace Go.Proofs.Ytplofbkollhjpaa.PFnExactSameRotor
open Go.Joins Go.ChangeShapes Go.WideShapes Go.ChangeAt Go.RowKit Go.ChangeMaps
theorem laidOut : laidOutB Try.prog = true := by kernel_rfl
theorem own : ownKnob Try.prog.godebug = none := by kernel_rfl
set_option linter.unusedVariables false
set_option maxRecDepth 100000 in
theorem lifted (os : Os) (started : os.Started) (H : Type) (enc : TypeId × Value → H) :
    ReturnsInHanded {} Try.checked os 10 .any (Rows.fnExactSameRotorSpec.pre6 enc Try.prog Try.f10 Rows.fnExactSameRotorRow.domain false) (Rows.fnExactSameRotorSpec.post enc Try.prog Try.f10 false true false false) := by
  refine returnsInHanded_of_change (C := Try.checked) own started (by kernel_rfl) Try.func10
    (ChangeSpec.witness6 (enc := enc) (C := Try.checked) false ⟨#[], #[.agg #[.slice none 0 0, .slice none 0 0, .slice none 0 0, .slice none 0 0, .int .i64 0, .float .f32 0, .float .f32 0], .agg #[.slice none 0 0, .slice none 0 0, .slice none 0 0, .slice none 0 0, .int .i64 0, .float .f32 0, .float .f32 0]], []⟩ 8 (by kernel_rfl) (by kernel_rfl) (by kernel_rfl) (by kernel_rfl)) ?_
  intro W base args ds gs before hval0 hW hcnd _
  have hval : ∀ (j : Nat) t v, Try.f10.params[j]? = some t → args[j]? = some v → Value.okWide Try.prog W .any base t v := hval0
  have hW' := hW
  obtain ⟨p, q, hA0, hV, rfl, hfz, hnd⟩ := hW
  have hA : DataW.TrodAll enc Try.prog W 0 (fun _ => true) true Try.f10.params.toList args.toList ds p := hA0
  rw [Try.params10] at hA hval
  obtain ⟨v0, vs0, d0, ds0, p0, q0, hargs, rfl, rfl, h0, r0⟩ := trodAll_cons hA
  obtain ⟨v1, vs1, d1, ds1, p1, q1, rfl, rfl, rfl, h1, r1⟩ := trodAll_cons r0
  obtain ⟨rfl, rfl, rfl⟩ := trodAll_nil r1
  obtain rfl : args = #[v0, v1] := by cases args; simp_all
  obtain ⟨rfl, rfl⟩ := trodVars_none hV
  have k0 := h0
  have lt0 : ∀ x ∈ p0, x.block < W.heap.size := by obtain ⟨m, hm⟩ := k0; exact DataW.trod_lt m _ _ _ hm
  obtain ⟨cA0, cL0, cD0, cS0, cC0, cH0, cT0, yP0, yS0, yC0, yH0, yT0, m0, rfl, tfp0, tfs0, tfc0, tfh0, tft0⟩ := open_agg31111 Try.underlying46 (by kernel_rfl) (by kernel_rfl : Try.prog.cellsOf 46 = 7) (hval 0 46 v0 rfl rfl) h0
  obtain ⟨mp0, yA0, yL0, yD0, tfa0, tfl0, tfd0⟩ := open_cells3 Try.underlying30 (by kernel_rfl) tfp0
  obtain ⟨A0, ca0, xa0, rfl, ma0, wa0, na0⟩ := open_f32sW Try.underlying22 Try.underlying31 (by kernel_rfl) tfa0
  obtain ⟨L0, cl0, xl0, rfl, ml0, wl0, nl0⟩ := open_f32sW Try.underlying22 Try.underlying31 (by kernel_rfl) tfl0
  obtain ⟨D0, cd0, xd0, rfl, md0, wd0, nd0⟩ := open_f32sW Try.underlying22 Try.underlying31 (by kernel_rfl) tfd0
  obtain ⟨S0, n0, cs0, xs0, rfl, ms0, es0, ws0, ns0⟩ := open_rows3W Try.underlying44 Try.underlying59 (by kernel_rfl) (by kernel_rfl) (by intro j f hj; rcases j with _ | _ | _ | j <;> simp at hj <;> subst hj <;> exact Try.underlying31) tfs0
  obtain ⟨c0, hc0, wc0⟩ := trod_int1 Try.underlying2 tfc0
  cases hc0
  obtain ⟨hb0, hh0, wh0⟩ := trod_float Try.underlying31 tfh0
  cases hh0
  obtain ⟨tp0, ht0, wt0⟩ := trod_float Try.underlying31 tft0
  cases ht0
  have k1 := h1
  have lt1 : ∀ x ∈ p1, x.block < W.heap.size := by obtain ⟨m, hm⟩ := k1; exact DataW.trod_lt m _ _ _ hm
  obtain ⟨cA1, cL1, cD1, cS1, cC1, cH1, cT1, yP1, yS1, yC1, yH1, yT1, m1, rfl, tfp1, tfs1, tfc1, tfh1, tft1⟩ := open_agg31111 Try.underlying46 (by kernel_rfl) (by kernel_rfl : Try.prog.cellsOf 46 = 7) (hval 1 46 v1 rfl rfl) h1
  obtain ⟨mp1, yA1, yL1, yD1, tfa1, tfl1, tfd1⟩ := open_cells3 Try.underlying30 (by kernel_rfl) tfp1
  obtain ⟨A1, ca1, xa1, rfl, ma1, wa1, na1⟩ := open_f32sW Try.underlying22 Try.underlying31 (by kernel_rfl) tfa1
  obtain ⟨L1, cl1, xl1, rfl, ml1, wl1, nl1⟩ := open_f32sW Try.underlying22 Try.underlying31 (by kernel_rfl) tfl1
  obtain ⟨D1, cd1, xd1, rfl, md1, wd1, nd1⟩ := open_f32sW Try.underlying22 Try.underlying31 (by kernel_rfl) tfd1
  obtain ⟨S1, n1, cs1, xs1, rfl, ms1, es1, ws1, ns1⟩ := open_rows3W Try.underlying44 Try.underlying59 (by kernel_rfl) (by kernel_rfl) (by intro j f hj; rcases j with _ | _ | _ | j <;> simp at hj <;> subst hj <;> exact Try.underlying31) tfs1
  obtain ⟨c1, hc1, wc1⟩ := trod_int1 Try.underlying2 tfc1
  cases hc1
  obtain ⟨hb1, hh1, wh1⟩ := trod_float Try.underlying31 tfh1
  cases hh1
  obtain ⟨tp1, ht1, wt1⟩ := trod_float Try.underlying31 tft1
  cases ht1
  clear hA0 hval0

  refine (law_FnExactSameRotor A0 L0 D0 S0 ca0 cl0 cd0 n0 cs0 c0 hb0 tp0 xa0 xl0 xd0 xs0 A1 L1 D1 S1 ca1 cl1 cd1 n1 cs1 c1 hb1 tp1 xa1 xl1 xd1 xs1 W ⟨⟨wa0, wl0, wd0⟩, ws0⟩ es0 ma0 ml0 md0 ms0 ⟨na0, nl0, nd0⟩ ns0 wc0 (lt_of_wf wh0) (lt_of_wf wt0) ⟨⟨wa1, wl1, wd1⟩, ws1⟩ es1 ma1 ml1 md1 ms1 ⟨na1, nl1, nd1⟩ ns1 wc1 (lt_of_wf wh1) (lt_of_wf wt1)).mono fun e W' ⟨he, hg⟩ => ?_
  subst he
  exact ⟨_, rfl, _, _, _, [], _, [], hW', trodAll_mk1 (shut_bool Try.underlying4 _), (trodAll_cons_mk (Below.trod laidOut (by kernel_rfl) (of_decide_eq_true (by kernel_rfl)) k0 hg lt0) (trodAll_cons_mk (Below.trod laidOut (by kernel_rfl) (of_decide_eq_true (by kernel_rfl)) k1 hg lt1) trodAll_mk0)), rfl, hg.frame _, fun h => by cases h⟩

theorem proved : Rows.FnExactSameRotorSaid :=
  OpenClaim.holds_of_wide 10 Try.f10 rfl rfl rfl rfl rfl rfl rfl ⟨rfl, rfl, rfl, rfl, rfl⟩ rfl rfl rfl rfl rfl (by kernel_rfl) Try.func10 (by kernel_rfl)
    (of_decide_eq_true (by kernel_rfl)) (by unfold Func.isWrapper; first | (rw [if_pos (by decide +kernel)]; kernel_rfl) | (rw [if_neg (by decide +kernel)]; exact ⟨rfl, rfl⟩))
    (fun os started H enc _ => lifted os started H enc)
end Go.Proofs.Ytplofbkollhjpaa.PFnExactSameRotor
