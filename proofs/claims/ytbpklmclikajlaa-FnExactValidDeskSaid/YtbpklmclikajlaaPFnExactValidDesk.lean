/- FnExactValidDesk: whatever the input, the call returns true and the input reads as it did. No condition. -/
import Derived.Test.YtbpklmclikajlaaRows
import Derived.Test.YtbpklmclikajlaaLawVDsk
import Derived.Test.YtbpklmclikajlaaOpenK
import Derived.WalkKit
import Derived.ProofKit
import Derived.OpenShut
namespace Go.Proofs.Ytbpklmclikajlaa.PFnExactValidDesk
open Go.Joins Go.ChangeShapes Go.WideShapes Go.ChangeAt Go.RowKit Go.ChangeMaps
theorem laidOut : laidOutB Try.prog = true := by kernel_rfl
theorem own : ownKnob Try.prog.godebug = none := by kernel_rfl
set_option linter.unusedVariables false
set_option maxRecDepth 100000 in
theorem lifted (os : Os) (started : os.Started) (H : Type) (enc : TypeId × Value → H) :
    ReturnsInHanded {} Try.checked os 3 .any (Rows.fnExactValidDeskSpec.pre6 enc Try.prog Try.f3 Rows.fnExactValidDeskRow.domain false) (Rows.fnExactValidDeskSpec.post enc Try.prog Try.f3 false true false false) := by
  refine returnsInHanded_of_change (C := Try.checked) own started (by kernel_rfl) Try.func3
    (ChangeSpec.witness6 (enc := enc) (C := Try.checked) false ⟨#[], #[.agg #[.slice none 0 0, .slice none 0 0, .slice none 0 0, .slice none 0 0, .int .i64 0, .float .f32 0, .float .f32 0, .float .f32 0, .float .f32 0, .float .f32 0, .float .f32 0, .float .f32 0, .float .f32 0, .float .f32 0, .float .f32 0, .float .f32 0, .float .f32 0, .float .f32 0, .float .f32 0, .int .i64 0, .float .f32 0, .float .f32 0, .float .f32 0, .slice none 0 0, .slice none 0 0, .float .f32 0, .float .f32 0, .float .f32 0]], []⟩ 8 (by kernel_rfl) (by kernel_rfl) (by kernel_rfl) (by kernel_rfl)) ?_
  intro W base args ds gs before hval0 hW hcnd _
  have hval : ∀ (j : Nat) t v, Try.f3.params[j]? = some t → args[j]? = some v → Value.okWide Try.prog W .any base t v := hval0
  have hW' := hW
  obtain ⟨p, q, hA0, hV, rfl, hfz, hnd⟩ := hW
  have hA : DataW.TrodAll enc Try.prog W 0 (fun _ => true) true Try.f3.params.toList args.toList ds p := hA0
  rw [Try.params3] at hA hval
  obtain ⟨v0, vs0, d0, ds0, p0, q0, hargs, rfl, rfl, h0, r0⟩ := trodAll_cons hA
  obtain ⟨rfl, rfl, rfl⟩ := trodAll_nil r0
  obtain rfl : args = #[v0] := by cases args; simp_all
  obtain ⟨rfl, rfl⟩ := trodVars_none hV
  have k0 := h0
  have lt0 : ∀ x ∈ p0, x.block < W.heap.size := by obtain ⟨m, hm⟩ := k0; exact DataW.trod_lt m _ _ _ hm
  obtain ⟨c0x0, c1x0, c2x0, c3x0, c4x0, c5x0, c6x0, c7x0, c8x0, c9x0, c10x0, c11x0, c12x0, c13x0, c14x0, c15x0, c16x0, c17x0, c18x0, c19x0, c20x0, c21x0, c22x0, c23x0, c24x0, c25x0, c26x0, c27x0, mm0, yr0, ya0, yd0, yf0, rfl, tr0, ta0, td0, tf0⟩ := open_desk Try.underlying38 (by kernel_rfl) (by kernel_rfl : Try.prog.cellsOf 38 = 28) (hval 0 38 v0 rfl rfl) h0
  obtain ⟨mr0, yP0, yS0, yC0, yH0, yT0, tfp0, tfs0, tfc0, tfh0, tft0⟩ := part_rotor Try.underlying28 (by kernel_rfl) tr0
  obtain ⟨mp0, yA0, yL0, yD0, tfa0, tfl0, tfd0⟩ := open_cells3 Try.underlying24 (by kernel_rfl) tfp0
  obtain ⟨A0, ca0, xa0, rfl, ma0, wa0⟩ := open_f32sT Try.underlying22 Try.underlying26 (by kernel_rfl) tfa0
  obtain ⟨L0, cl0, xl0, rfl, ml0, wl0⟩ := open_f32sT Try.underlying22 Try.underlying26 (by kernel_rfl) tfl0
  obtain ⟨D0, cd0, xd0, rfl, md0, wd0⟩ := open_f32sT Try.underlying22 Try.underlying26 (by kernel_rfl) tfd0
  obtain ⟨S0, n0, cs0, xs0, rfl, ms0, es0, ws0⟩ := open_rows3 Try.underlying25 Try.underlying148 (by kernel_rfl) (by kernel_rfl) (by intro j f hj; rcases j with _ | _ | _ | j <;> simp at hj <;> subst hj <;> exact Try.underlying26) tfs0
  obtain ⟨c0, hc0, wc0⟩ := trod_int1 Try.underlying2 tfc0
  cases hc0
  obtain ⟨hb0, ehb0, whb0⟩ := trod_float Try.underlying26 tfh0
  cases ehb0
  obtain ⟨tp0, etp0, wtp0⟩ := trod_float Try.underlying26 tft0
  cases etp0
  obtain ⟨mq0, yq0, yq1, yq2, yq3, tq0, tq1, tq2, tq3⟩ := part_air Try.underlying30 (by kernel_rfl) ta0
  obtain ⟨ea0x0, eea0x0, wea0x0⟩ := trod_float Try.underlying26 tq0
  cases eea0x0
  obtain ⟨ea1x0, eea1x0, wea1x0⟩ := trod_float Try.underlying26 tq1
  cases eea1x0
  obtain ⟨ea2x0, eea2x0, wea2x0⟩ := trod_float Try.underlying26 tq2
  cases eea2x0
  obtain ⟨ea3x0, eea3x0, wea3x0⟩ := trod_float Try.underlying26 tq3
  cases eea3x0
  obtain ⟨mv0, yv0, yv1, yv2, yv3, yv4, tv0, tv1, tv2, tv3, tv4⟩ := part_drive Try.underlying34 (by kernel_rfl) td0
  obtain ⟨p0x0, p1x0, p2x0, p3x0, p4x0, p5x0, p6x0, p7x0, epl0, wpl0⟩ := cells_plant Try.underlying32 (by kernel_rfl) (by intro j f hj; rcases j with _ | _ | _ | _ | _ | _ | _ | _ | j <;> simp at hj <;> subst hj <;> exact Try.underlying26) tv0
  cases epl0
  obtain ⟨st0, est0, wst0⟩ := trod_int1 Try.underlying2 tv1
  cases est0
  obtain ⟨sp0, esp0, wsp0⟩ := trod_float Try.underlying26 tv2
  cases esp0
  obtain ⟨pi0, epi0, wpi0⟩ := trod_float Try.underlying26 tv3
  cases epi0
  obtain ⟨en0, een0, wen0⟩ := trod_float Try.underlying26 tv4
  cases een0
  obtain ⟨mf0, yg0, yg1, yg2, yg3, yg4, tg0, tg1, tg2, tg3, tg4⟩ := part_farm Try.underlying36 (by kernel_rfl) tf0
  obtain ⟨X0, cx0, fx0, rfl, mx0, wx0⟩ := open_f32sT Try.underlying22 Try.underlying26 (by kernel_rfl) tg0
  obtain ⟨Y0, cy0, fy0, rfl, my0, wy0⟩ := open_f32sT Try.underlying22 Try.underlying26 (by kernel_rfl) tg1
  obtain ⟨fr0, efr0, wfr0⟩ := trod_float Try.underlying26 tg2
  cases efr0
  obtain ⟨fd0, efd0, wfd0⟩ := trod_float Try.underlying26 tg3
  cases efd0
  obtain ⟨fs0, efs0, wfs0⟩ := trod_float Try.underlying26 tg4
  cases efs0
  clear hA0 hval0

  refine (law_FnExactValidDesk A0 L0 D0 S0 ca0 cl0 cd0 n0 cs0 c0 hb0 tp0 xa0 xl0 xd0 xs0 ea0x0 ea1x0 ea2x0 ea3x0 p0x0 p1x0 p2x0 p3x0 p4x0 p5x0 p6x0 p7x0 st0 sp0 pi0 en0 X0 Y0 cx0 cy0 fx0 fy0 fr0 fd0 fs0 W ⟨⟨wa0, wl0, wd0⟩, ws0⟩ es0 ma0 ml0 md0 ms0 ⟨wx0, wy0⟩ mx0 my0).mono fun e W' ⟨he, hg⟩ => ?_
  subst he
  exact ⟨_, rfl, _, _, _, [], _, [], hW', trodAll_mk1 (shut_bool Try.underlying4 _), (trodAll_cons_mk (Below.trod laidOut (by kernel_rfl) (of_decide_eq_true (by kernel_rfl)) k0 hg lt0) trodAll_mk0), rfl, hg.frame _, fun h => by cases h⟩

theorem proved : Rows.FnExactValidDeskSaid :=
  OpenClaim.holds_of_wide 3 Try.f3 rfl rfl rfl rfl rfl rfl rfl ⟨rfl, rfl, rfl, rfl, rfl⟩ rfl rfl rfl rfl rfl (by kernel_rfl) Try.func3 (by kernel_rfl)
    (of_decide_eq_true (by kernel_rfl)) (by unfold Func.isWrapper; first | (rw [if_pos (by decide +kernel)]; kernel_rfl) | (rw [if_neg (by decide +kernel)]; exact ⟨rfl, rfl⟩))
    (fun os started H enc _ => lifted os started H enc)
end Go.Proofs.Ytbpklmclikajlaa.PFnExactValidDesk
