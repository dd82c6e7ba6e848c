/- FnExactFarmShare: whatever the input, the call returns true and the input reads as it did. No condition. -/
import Derived.Test.YtmadlabnhjhfiaaRows
import Derived.Test.YtmadlabnhjhfiaaLawFsh
import Derived.WalkKit
import Derived.ProofKit
import Derived.OpenShut
namespace Go.Proofs.Ytmadlabnhjhfiaa.PFnExactFarmShare
open Go.Joins Go.ChangeShapes Go.WideShapes Go.ChangeAt Go.RowKit Go.ChangeMaps
theorem laidOut : laidOutB Try.prog = true := by kernel_rfl
theorem own : ownKnob Try.prog.godebug = none := by kernel_rfl
set_option linter.unusedVariables false
set_option maxRecDepth 100000 in
theorem lifted (os : Os) (started : os.Started) (H : Type) (enc : TypeId × Value → H) :
    ReturnsInHanded {} Try.checked os 9 .any (Rows.fnExactFarmShareSpec.pre6 enc Try.prog Try.f9 Rows.fnExactFarmShareRow.domain false) (Rows.fnExactFarmShareSpec.post enc Try.prog Try.f9 false true false false) := by
  refine returnsInHanded_of_change (C := Try.checked) own started (by kernel_rfl) Try.func9
    (ChangeSpec.witness6 (enc := enc) (C := Try.checked) false ⟨#[], #[.agg #[.slice none 0 0, .slice none 0 0, .float .f32 0, .float .f32 0, .float .f32 0], .agg #[.slice none 0 0, .slice none 0 0]], []⟩ 8 (by kernel_rfl) (by kernel_rfl) (by kernel_rfl) (by kernel_rfl)) ?_
  intro W base args ds gs before hval0 hW hcnd _
  have hval : ∀ (j : Nat) t v, Try.f9.params[j]? = some t → args[j]? = some v → Value.okWide Try.prog W .any base t v := hval0
  have hW' := hW
  obtain ⟨p, q, hA0, hV, rfl, hfz, hnd⟩ := hW
  have hA : DataW.TrodAll enc Try.prog W 0 (fun _ => true) true Try.f9.params.toList args.toList ds p := hA0
  rw [Try.params9] at hA hval
  obtain ⟨v0, vs0, d0, ds0, p0, q0, hargs, rfl, rfl, h0, r0⟩ := trodAll_cons hA
  obtain ⟨v1, vs1, d1, ds1, p1, q1, rfl, rfl, rfl, h1, r1⟩ := trodAll_cons r0
  obtain ⟨rfl, rfl, rfl⟩ := trodAll_nil r1
  obtain rfl : args = #[v0, v1] := by cases args; simp_all
  obtain ⟨rfl, rfl⟩ := trodVars_none hV
  have k0 := h0
  have lt0 : ∀ x ∈ p0, x.block < W.heap.size := by obtain ⟨m, hm⟩ := k0; exact DataW.trod_lt m _ _ _ hm
  obtain ⟨X0, Y0, cx0, cy0, fx0, fy0, fr0, fd0, fs0, rfl, ⟨mx0, wx0, nx0⟩, ⟨my0, wy0, ny0⟩, wr0, wd0, ws0⟩ := open_farm Try.underlying47 (by kernel_rfl) (by kernel_rfl : Try.prog.cellsOf 47 = 5) Try.underlying32 Try.underlying32 Try.underlying22 (by kernel_rfl) Try.underlying22 Try.underlying22 Try.underlying22 (hval 0 47 v0 rfl rfl) h0
  have k1 := h1
  have lt1 : ∀ x ∈ p1, x.block < W.heap.size := by obtain ⟨m, hm⟩ := k1; exact DataW.trod_lt m _ _ _ hm
  obtain ⟨cA1, cL1, yA1, yL1, m1, rfl, hdd1, hpp1, tfa1, tfl1⟩ := open_agg2 Try.underlying56 (by kernel_rfl) (by kernel_rfl : Try.prog.cellsOf 56 = 2) (hval 1 56 v1 rfl rfl) h1
  obtain ⟨A1, ca1, xa1, rfl, ma1, wa1⟩ := open_f32sT Try.underlying32 Try.underlying22 (by kernel_rfl) tfa1
  obtain ⟨L1, cl1, xl1, rfl, ml1, wl1⟩ := open_f32sT Try.underlying32 Try.underlying22 (by kernel_rfl) tfl1
  clear hA0 hval0

  refine (law_FnExactFarmShare X0 Y0 cx0 cy0 fx0 fy0 fr0 fd0 fs0 A1 L1 ca1 cl1 xa1 xl1 W ⟨wx0, wy0⟩ mx0 my0 ⟨nx0, ny0⟩ ⟨lt_of_wf wr0, lt_of_wf wd0, lt_of_wf ws0⟩ ⟨wa1, wl1⟩ ma1 ml1).mono fun e W' ⟨he, hg⟩ => ?_
  subst he
  exact ⟨_, rfl, _, _, _, [], _, [], hW', trodAll_mk1 (shut_bool Try.underlying4 _), (trodAll_cons_mk (Below.trod laidOut (by kernel_rfl) (of_decide_eq_true (by kernel_rfl)) k0 hg lt0) (trodAll_cons_mk (Below.trod laidOut (by kernel_rfl) (of_decide_eq_true (by kernel_rfl)) k1 hg lt1) trodAll_mk0)), rfl, hg.frame _, fun h => by cases h⟩

theorem proved : Rows.FnExactFarmShareSaid :=
  OpenClaim.holds_of_wide 9 Try.f9 rfl rfl rfl rfl rfl rfl rfl ⟨rfl, rfl, rfl, rfl, rfl⟩ rfl rfl rfl rfl rfl (by kernel_rfl) Try.func9 (by kernel_rfl)
    (of_decide_eq_true (by kernel_rfl)) (by unfold Func.isWrapper; first | (rw [if_pos (by decide +kernel)]; kernel_rfl) | (rw [if_neg (by decide +kernel)]; exact ⟨rfl, rfl⟩))
    (fun os started H enc _ => lifted os started H enc)
end Go.Proofs.Ytmadlabnhjhfiaa.PFnExactFarmShare
