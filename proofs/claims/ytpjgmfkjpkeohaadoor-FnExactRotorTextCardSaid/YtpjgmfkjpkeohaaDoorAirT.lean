/- The text of air, both sides. No statement is proved here. -/
import Derived.Test.YtpjgmfkjpkeohaaDoorTxt
import Derived.Test.YtpjgmfkjpkeohaaDoorAir
import Derived.StillTailTactics
namespace Go.Proofs.YtpjgmfkjpkeohaaDoor
open Go Go.RowKit
/-- a list that has just been laid -/
theorem fl_lit (w : World) (xs : List Nat) (t : TypeId) : Fl (w.alloc (.cells (xs.map (Value.float .f32)).toArray t)) (some ⟨w.heap.size, 0, none⟩) xs := by
  refine .inr ⟨w.heap.size, 0, rfl, by simp, fun k hk => ?_⟩
  rw [World.cell?_alloc_at (w := w) (hn := rfl)]
  simp [List.getD, hk]
/-- the text of air, if it is valid -/
def airT (d h s k : Nat) : ByteArray := if airV d h s k then textS [d, h, s, k] else ⟨#[]⟩
theorem words4 {d h s k : Nat} (hd : canon .f32 d < 4294967296) (hh : canon .f32 h < 4294967296) (hs : canon .f32 s < 4294967296) (hk : canon .f32 k < 4294967296) : ∀ x ∈ [d, h, s, k], canon .f32 x < 4294967296 := by
  intro x hx
  simp only [List.mem_cons, List.not_mem_nil, or_false] at hx
  rcases hx with rfl | rfl | rfl | rfl <;> assumption
set_option maxHeartbeats 1000000 in
set_option maxRecDepth 100000 in
theorem i_airText (d h s k : Nat) (w : World) (hw : ∀ x ∈ [d, h, s, k], canon .f32 x < 4294967296) (hT : T64 w) :
    Calls Tryd.prog 64 #[.agg #[.float .f32 d, .float .f32 h, .float .f32 s, .float .f32 k]] w fun e w' => e = .returned (.string (textS [d, h, s, k])) ∧ Below w.heap.size w w' := by
  have HB1 : Hid (Below w.heap.size w (w.alloc (.cells #[.float .f32 d, .float .f32 h, .float .f32 s, .float .f32 k] 47))) := Lib.hid ((Below.refl _ _).alloc (Nat.le_refl _) _)
  have HB2 : Hid (Below w.heap.size w ((w.alloc (.cells #[.float .f32 d, .float .f32 h, .float .f32 s, .float .f32 k] 47)).alloc (.cells #[.float .f32 d, .float .f32 h, .float .f32 s, .float .f32 k] 33))) := Lib.hid (HB1.out.alloc HB1.out.size _)
  have HC : Hid (Calls Tryd.prog 97 #[.slice (some ⟨w.heap.size + 1, 0, none⟩) 4 4] ((w.alloc (.cells #[.float .f32 d, .float .f32 h, .float .f32 s, .float .f32 k] 47)).alloc (.cells #[.float .f32 d, .float .f32 h, .float .f32 s, .float .f32 k] 33)) fun e w' => e = .returned (.string (textS [d, h, s, k])) ∧ Below ((w.alloc (.cells #[.float .f32 d, .float .f32 h, .float .f32 s, .float .f32 k] 47)).alloc (.cells #[.float .f32 d, .float .f32 h, .float .f32 s, .float .f32 k] 33)).heap.size ((w.alloc (.cells #[.float .f32 d, .float .f32 h, .float .f32 s, .float .f32 k] 47)).alloc (.cells #[.float .f32 d, .float .f32 h, .float .f32 s, .float .f32 k] 33)) w') :=
    Lib.hid (by
    rw [show w.heap.size + 1 = (w.alloc (.cells #[.float .f32 d, .float .f32 h, .float .f32 s, .float .f32 k] 47)).heap.size by simp]
    exact i_numbersText _ 4 [d, h, s, k] _ (fl_lit (w.alloc (.cells #[.float .f32 d, .float .f32 h, .float .f32 s, .float .f32 k] 47)) [d, h, s, k] 33) (by simp) hw (hT.below HB2.out))
  clear hw hT
  go_enter Tryd.func64, Tryd.ntmps64
  go_wp2_with fail
  refine HC.out.mono ?_
  rintro e w1 ⟨rfl, hb⟩
  have HB3 : Hid (Below w.heap.size w w1) := Lib.hid (below_of HB2.out HB2.out.size hb)
  clear hb
  go_wp2
  go_ret
  exact ⟨rfl, HB3.out⟩
theorem i_AirText (d h s k : Nat) (w : World) (hw : ∀ x ∈ [d, h, s, k], canon .f32 x < 4294967296) (hT : T64 w) :
    Calls Tryd.prog 23 #[.agg #[.float .f32 d, .float .f32 h, .float .f32 s, .float .f32 k]] w fun e w' => e = .returned (.tuple #[.string (airT d h s k), .bool (airV d h s k)]) ∧ Below w.heap.size w w' := by
  have HW := Lib.hid hw
  have HT := Lib.hid hT
  clear hw hT
  have HV : Calls Tryd.prog 62 #[.agg #[.float .f32 d, .float .f32 h, .float .f32 s, .float .f32 k], .func (.func 63) #[] #[], .func (.func 64) #[] #[]] (w.alloc (.cells #[.float .f32 d, .float .f32 h, .float .f32 s, .float .f32 k] 47)) fun e w' => e = .returned (.tuple #[.string (airT d h s k), .bool (airV d h s k)]) ∧ Below w.heap.size w w' := by
    have HB1 : Hid (Below w.heap.size w (w.alloc (.cells #[.float .f32 d, .float .f32 h, .float .f32 s, .float .f32 k] 47))) := Lib.hid ((Below.refl _ _).alloc (Nat.le_refl _) _)
    generalize w.alloc (.cells #[.float .f32 d, .float .f32 h, .float .f32 s, .float .f32 k] 47) = w1 at HB1 ⊢
    have HB2 : Hid (Below w.heap.size w (w1.alloc (.cells #[.float .f32 d, .float .f32 h, .float .f32 s, .float .f32 k] 47))) := Lib.hid (HB1.out.alloc HB1.out.size _)
    have HK : Hid (BlkL (w1.alloc (.cells #[.float .f32 d, .float .f32 h, .float .f32 s, .float .f32 k] 47)) w1.heap.size [.float .f32 d, .float .f32 h, .float .f32 s, .float .f32 k]) := Lib.hid (blkL_at _ _ _ rfl)
    go_enter Tryd.func62, Tryd.ntmps62
    go_wp2_with fail
    generalize w1.alloc (.cells #[.float .f32 d, .float .f32 h, .float .f32 s, .float .f32 k] 47) = w2 at HB2 HK ⊢
    refine (i_ValidAir d h s k _).mono ?_
    rintro e w3 ⟨rfl, hb⟩
    have HB3 : Hid (Below w.heap.size w w3) := Lib.hid (below_of HB2.out HB2.out.size hb)
    have HK3 := Lib.hid (HK.out.below hb)
    clear hb
    cases hv : airV d h s k
    · have HR : Hid (airT d h s k = ⟨#[]⟩) := Lib.hid (by unfold airT; rw [hv]; rfl)
      have HQ := Lib.hid hv
      go_wp2
      go_ret2
      exact ⟨by rw [HR.out, HQ.out]; rfl, HB3.out⟩
    · have HR : Hid (airT d h s k = textS [d, h, s, k]) := Lib.hid (by unfold airT; rw [hv]; rfl)
      have HQ := Lib.hid hv
      obtain ⟨k0, k1, k2, k3⟩ := HK3.out.four
      go_wp2_with fail
      refine (i_airText d h s k _ HW.out (HT.out.below HB3.out)).mono ?_
      rintro e w4 ⟨rfl, hb⟩
      have HB4 : Hid (Below w.heap.size w w4) := Lib.hid (below_of HB3.out HB3.out.size hb)
      clear hb
      go_wp2
      go_ret2
      exact ⟨by rw [HR.out, HQ.out]; rfl, HB4.out⟩
  go_enter Tryd.func23, Tryd.ntmps23
  go_wp2_with fail
  refine HV.mono ?_
  rintro e w1 ⟨rfl, hb⟩
  have HB := Lib.hid hb
  clear hb
  go_wp2
  go_ret2
  exact ⟨rfl, HB.out⟩
set_option maxHeartbeats 2000000 in
set_option maxRecDepth 100000 in
theorem s_l08Air (d h s k B : Nat) (w : World) (hk : BlkL w B [.float .f32 d, .float .f32 h, .float .f32 s, .float .f32 k]) (hw : ∀ x ∈ [d, h, s, k], canon .f32 x < 4294967296) :
    Calls Tryd.prog 61 #[.pointer (some ⟨B, 0, none⟩)] w fun e w' => e = .returned (.string (textS [d, h, s, k])) ∧ Below w.heap.size w w' := by
  have HB1 : Hid (Below w.heap.size w w.drew) := Lib.hid (Below.refl _ _).drew
  have HC : ∀ W, Below w.heap.size w W → Hid (Below w.heap.size w (W.alloc (.cells #[.float .f32 d, .float .f32 h, .float .f32 s, .float .f32 k] 33)) ∧ Calls Tryd.prog 91 #[.slice (some ⟨W.heap.size, 0, none⟩) 4 4] (W.alloc (.cells #[.float .f32 d, .float .f32 h, .float .f32 s, .float .f32 k] 33)) fun e w' => e = .returned (.string (textS [d, h, s, k])) ∧ Below (W.alloc (.cells #[.float .f32 d, .float .f32 h, .float .f32 s, .float .f32 k] 33)).heap.size (W.alloc (.cells #[.float .f32 d, .float .f32 h, .float .f32 s, .float .f32 k] 33)) w') :=
    fun W hb => Lib.hid ⟨hb.alloc hb.size _, s_l01NText _ 4 [d, h, s, k] _ (fl_lit W [d, h, s, k] 33) (by simp) hw⟩
  have HX := Lib.hid (HC _ HB1.out)
  obtain ⟨k0, k1, k2, k3⟩ := hk.four
  clear hk hw HC
  go_enter Tryd.func61, Tryd.ntmps61
  go_wp2_with fail
  refine wp_region_still_tail 16 (by kernel_rfl) (by kernel_rfl) ?_
  simp only [List.take_succ_cons, List.take_zero, List.drop_succ_cons, List.drop_zero]
  repeat (refine wpStill_step (fun K hK => ?_); go_simp; first | (refine hK _ ?_; clear hK K) | (refine ⟨rfl, hK _ ?_⟩; clear hK K))
  try refine wpStill_nil ?_
  change wpList _ _ _ _ _ w.drew
  clear k0 k1 k2 k3
  generalize w.drew = w1 at HX HB1 ⊢
  go_wp2_with fail
  refine HX.out.out.2.mono ?_
  rintro e w2 ⟨rfl, hb⟩
  have HB2 : Hid (Below w.heap.size w w2) := Lib.hid (below_of HX.out.out.1 HX.out.out.1.size hb)
  clear hb
  go_wp2
  go_ret
  exact ⟨rfl, HB2.out⟩
theorem s_AirText (d h s k : Nat) (w : World) (hw : ∀ x ∈ [d, h, s, k], canon .f32 x < 4294967296) :
    Calls Tryd.prog 21 #[.agg #[.float .f32 d, .float .f32 h, .float .f32 s, .float .f32 k]] w fun e w' => e = .returned (.tuple #[.string (airT d h s k), .bool (airV d h s k)]) ∧ Below w.heap.size w w' := by
  have HW := Lib.hid hw
  clear hw
  have HB1 : Hid (Below w.heap.size w (w.alloc (.cells #[.float .f32 d, .float .f32 h, .float .f32 s, .float .f32 k] 47))) := Lib.hid ((Below.refl _ _).alloc (Nat.le_refl _) _)
  have HK : Hid (BlkL (w.alloc (.cells #[.float .f32 d, .float .f32 h, .float .f32 s, .float .f32 k] 47)) w.heap.size [.float .f32 d, .float .f32 h, .float .f32 s, .float .f32 k]) := Lib.hid (blkL_at _ _ _ rfl)
  go_enter Tryd.func21, Tryd.ntmps21
  go_wp2_with fail
  generalize w.alloc (.cells #[.float .f32 d, .float .f32 h, .float .f32 s, .float .f32 k] 47) = w1 at HB1 HK ⊢
  refine (s_l04Is d h s k _ _ HK.out).mono ?_
  rintro e w2 ⟨n, rfl, hw⟩
  have HB2 : Hid (Below w.heap.size w w2) := Lib.hid (by rw [hw]; exact below_draws HB1.out _)
  have HK2 : Hid (BlkL w2 w.heap.size [.float .f32 d, .float .f32 h, .float .f32 s, .float .f32 k]) := Lib.hid (by rw [hw]; exact HK.out)
  clear hw
  cases hv : airV d h s k
  · have HR : Hid (airT d h s k = ⟨#[]⟩) := Lib.hid (by unfold airT; rw [hv]; rfl)
    have HQ := Lib.hid hv
    go_wp2
    go_ret2
    exact ⟨by rw [HR.out, HQ.out]; rfl, HB2.out⟩
  · have HR : Hid (airT d h s k = textS [d, h, s, k]) := Lib.hid (by unfold airT; rw [hv]; rfl)
    have HQ := Lib.hid hv
    go_wp2_with fail
    refine (s_l08Air d h s k _ _ HK2.out HW.out).mono ?_
    rintro e w3 ⟨rfl, hb⟩
    have HB3 : Hid (Below w.heap.size w w3) := Lib.hid (below_of HB2.out HB2.out.size hb)
    clear hb
    go_wp2
    go_ret2
    exact ⟨by rw [HR.out, HQ.out]; rfl, HB3.out⟩
end Go.Proofs.YtpjgmfkjpkeohaaDoor
