/- FnExactRotorText: whatever the input, the call returns true and the input reads as it did. No condition. -/
import Derived.Test.YtpjgmfkjpkeohaaDoorRows
import Derived.Test.YtpjgmfkjpkeohaaDoorLawRotT
import Derived.Test.YtpjgmfkjpkeohaaDoorTie
import Derived.Test.YtpjgmfkjpkeohaaDoorCards
import Derived.Test.YtpjgmfkjpkeohaaDoorTabs
import Derived.SevenTiedAt
import Derived.LaidMore
import Derived.WalkKit
import Derived.ProofKit
import Derived.OpenShut
namespace Go.Proofs.YtpjgmfkjpkeohaaDoor.PFnExactRotorText
open Go.Joins Go.ChangeShapes Go.WideShapes Go.ChangeAt Go.RowKit Go.ChangeMaps
theorem laidOut : laidOutB Tryd.prog = true := by kernel_rfl
theorem own : ownKnob Tryd.prog.godebug = none := by kernel_rfl
set_option linter.unusedVariables false
set_option maxRecDepth 100000 in
theorem lifted (os : Os) (started : os.Started) (H : Type) (enc : TypeId × Value → H) :
    ReturnsInHanded {} Tryd.checked os 4 .any (fun w args => (Rows.fnExactRotorTextSpec.pre enc Tryd.prog Tryd.f4 [] false w args ∧ laidMetH Tryd.prog Rows.fnExactRotorTextRow.laid w) ∧ sizedMet enc Tryd.prog Tryd.f4 (OpenSpec.ofChange Rows.fnExactRotorTextSpec) false w args)
      (Rows.fnExactRotorTextSpec.post enc Tryd.prog Tryd.f4 false true false false) := by
  refine returnsInHanded_of_change_and (C := Tryd.checked) (X := fun w _ => laidMetH Tryd.prog Rows.fnExactRotorTextRow.laid w) (fun _ _ _ hh h => h.of_heap hh) own started (by kernel_rfl) Tryd.func4
    (ChangeSpec.witness_shaped (enc := enc) (C := Tryd.checked) (os := os) (X := fun w _ => laidMetH Tryd.prog Rows.fnExactRotorTextRow.laid w) false (World.doorLaid Tryd.prog 34 os) #[.agg #[.slice none 0 0, .slice none 0 0, .slice none 0 0, .slice none 0 0, .int .i64 0, .float .f32 0, .float .f32 0]] 8 rfl (World.shaped_of_RefB (by kernel_rfl) (by kernel_rfl)) (by kernel_rfl) (by kernel_rfl) (by kernel_rfl) (door_met os _)) ?_
  intro W base args ds gs before hval0 hW _ _ hL _
  have hval : ∀ (j : Nat) t v, Tryd.f4.params[j]? = some t → args[j]? = some v → Value.okWide Tryd.prog W .any base t v := hval0
  have hW' := hW
  obtain ⟨p, q, hA0, hV, rfl, hfz, hnd⟩ := hW
  have hA : DataW.TrodAll enc Tryd.prog W 0 (fun _ => true) true Tryd.f4.params.toList args.toList ds p := hA0
  rw [Tryd.params4] at hA hval
  obtain ⟨v0, vs0, d0, ds0, p0, q0, hargs, rfl, rfl, h0, r0⟩ := trodAll_cons hA
  obtain ⟨rfl, rfl, rfl⟩ := trodAll_nil r0
  obtain rfl : args = #[v0] := by cases args; simp_all
  obtain ⟨rfl, rfl⟩ := trodVars_none hV
  have k0 := h0
  have lt0 : ∀ x ∈ p0, x.block < W.heap.size := by obtain ⟨m, hm⟩ := k0; exact DataW.trod_lt m _ _ _ hm
  obtain ⟨cA0, cL0, cD0, cS0, cC0, cH0, cT0, yP0, yS0, yC0, yH0, yT0, m0, rfl, tfp0, tfs0, tfc0, tfh0, tft0⟩ := open_agg31111 Tryd.underlying35 (by kernel_rfl) (by kernel_rfl : Tryd.prog.cellsOf 35 = 7) (hval 0 35 v0 rfl rfl) h0
  obtain ⟨mp0, yA0, yL0, yD0, tfa0, tfl0, tfd0⟩ := open_cells3 Tryd.underlying24 (by kernel_rfl) tfp0
  obtain ⟨A0, ca0, xa0, rfl, ma0, wa0, na0⟩ := open_f32sW Tryd.underlying22 Tryd.underlying33 (by kernel_rfl) tfa0
  obtain ⟨L0, cl0, xl0, rfl, ml0, wl0, nl0⟩ := open_f32sW Tryd.underlying22 Tryd.underlying33 (by kernel_rfl) tfl0
  obtain ⟨D0, cd0, xd0, rfl, md0, wd0, nd0⟩ := open_f32sW Tryd.underlying22 Tryd.underlying33 (by kernel_rfl) tfd0
  obtain ⟨S0, n0, cs0, xs0, rfl, ms0, es0, ws0, ns0⟩ := open_rows3W Tryd.underlying32 Tryd.underlying159 (by kernel_rfl) (by kernel_rfl) (by intro j f hj; rcases j with _ | _ | _ | j <;> simp at hj <;> subst hj <;> exact Tryd.underlying33) tfs0
  obtain ⟨c0, hc0, wc0⟩ := trod_int1 Tryd.underlying2 tfc0
  cases hc0
  obtain ⟨hb0, hh0, wh0⟩ := trod_float Tryd.underlying33 tfh0
  cases hh0
  obtain ⟨tp0, ht0, wt0⟩ := trod_float Tryd.underlying33 tft0
  cases ht0
  clear hA0 hval0

  refine (law_FnExactRotorText A0 L0 D0 S0 ca0 cl0 cd0 n0 cs0 c0 hb0 tp0 xa0 xl0 xd0 xs0 W ⟨⟨wa0, wl0, wd0⟩, ws0⟩ es0 ma0 ml0 md0 ms0 ⟨na0, nl0, nd0⟩ ns0 wc0 (lt_of_wf wh0) (lt_of_wf wt0) (tabs_of_laid hL)).mono fun e W' ⟨he, hg⟩ => ?_
  subst he
  exact ⟨_, rfl, _, _, _, [], _, [], hW', trodAll_mk1 (shut_bool Tryd.underlying4 _), (trodAll_cons_mk (Below.trod laidOut (by kernel_rfl) (of_decide_eq_true (by kernel_rfl)) k0 hg lt0) trodAll_mk0), rfl, hg.frame _, fun h => by cases h⟩

theorem row_holds : Rows.FnExactRotorTextSaid :=
  OpenClaim.holds_of_wide 4 Tryd.f4 rfl rfl rfl rfl rfl rfl rfl ⟨rfl, rfl, rfl, rfl, rfl⟩ rfl rfl rfl rfl rfl (by kernel_rfl) Tryd.func4 (by kernel_rfl)
    (of_decide_eq_true (by kernel_rfl)) (by unfold Func.isWrapper; first | (rw [if_pos (by decide +kernel)]; kernel_rfl) | (rw [if_neg (by decide +kernel)]; exact ⟨rfl, rfl⟩))
    (fun os started H enc _ => lifted os started H enc)

theorem proved : Rows.FnExactRotorTextCardSaid :=
  Claim7.holds_tied_plain_at .later [] [.data, .data, .data] true (true, "6922b5b7289b7e5866460d68c89914d52dfbec24ee179c822f1b356acdd7be88") false
    row_holds (fun _ h => by cases h) (by kernel_rfl) (fun _ h => by cases h) fnExactRotorText_row_tie rfl ⟨rfl, rfl⟩ (by kernel_rfl) rfl
    (fun f fn hf hfn => by
      obtain rfl : f = 4 := Option.some.inj ((show Tryd.prog.funcNamed "loop.example/g01256/laws.FnExactRotorText" = some 4 by kernel_rfl).symm.trans hf) |>.symm
      obtain rfl : fn = Tryd.f4 := (Option.some.inj (Tryd.func4.symm.trans hfn)).symm
      exact ⟨by kernel_rfl, fun j t ht => by
        rw [Tryd.params4] at ht
        have hm := Array.mem_of_getElem? ht
        have hall : (Tryd.f4.params.all fun u => !Tryd.prog.wantsStandIn u) = true := by kernel_rfl
        rw [Tryd.params4] at hall
        exact (show Tryd.prog.wantsStandIn t = false by simpa using Array.all_eq_true'.1 hall t hm)⟩)
    (by kernel_rfl)
end Go.Proofs.YtpjgmfkjpkeohaaDoor.PFnExactRotorText
