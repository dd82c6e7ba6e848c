/- Lifts and drags at angles: the program's side. No statement is proved here. -/
import Derived.Test.YtahbcpjipomcgaaGreatSpanI
import Derived.Test.YtahbcpjipomcgaaGreatLiftS
namespace Go.Proofs.YtahbcpjipomcgaaGreat
open Go Go.RowKit
theorem can_eq (a l d : List Nat) (x : Nat) : canSpan a l d x = canSpan' a l d x := rfl
theorem spT_eq (a : List Nat) (x : Nat) : spT a x = spT' a x := rfl
theorem i_between (a b s : Nat) (w : World) :
    Calls Tryz.prog 133 #[.float .f32 a, .float .f32 b, .float .f32 s] w fun e w' => ∃ r n, e = .returned (.float .f32 r) ∧ canon .f32 r = fop .add .f32 (canon .f32 a) (fop .mul .f32 (canon .f32 s) (fop .sub .f32 (canon .f32 b) (canon .f32 a))) ∧ w' = w.drewN n := by
  go_enter Tryz.func133, Tryz.ntmps133
  go_wp2_with fail
  refine (i_mulNumbers _ _ _).mono ?_
  rintro e w' ⟨rfl, rfl⟩
  go_wp2
  go_ret
  exact ⟨_, _, rfl, by simp only [canon_fopV], rfl⟩
set_option maxHeartbeats 4000000 in
theorem i_spanAt_no (A L D : Option Addr) (ca cl cd : Nat) (a l d : List Nat) (x : Nat) (w : World) (h : Pf w A L D a l d) (hn : Few a l d) (hcan : canSpan a l d x = false) :
    Calls Tryz.prog 132 #[.agg #[.slice A a.length ca, .slice L l.length cl, .slice D d.length cd], .float .f32 x] w fun e w' => e = .returned (.tuple #[.agg #[.int .i64 0, .int .i64 0, .float .f32 0, .float .f32 0], .bool false]) ∧ Below w.heap.size w w' := by
  have HP := Lib.hid h; clear h
  have HN := Lib.hid hn; clear hn
  have HB : ∀ o1 o2, Hid (Below w.heap.size w ((w.alloc o1).alloc o2)) := fun _ _ => Lib.hid (((Below.refl _ _).alloc (Nat.le_refl _) _).alloc (by simp) _)
  cases hx : fin .f32 x
  · have HX := Lib.hid hx
    clear hx hcan
    go_enter Tryz.func132, Tryz.ntmps132
    go_wp2_with fail
    go_step3
    go_wp2_with fail
    refine (i_WrapAngle_no x HX.out _).mono ?_
    rintro e w' ⟨n0, rfl, rfl⟩
    go_wp2
    try rw [Exit.noGoto_ret]
    refine bodyPost_ret (v := .tuple #[.agg #[.int .i64 0, .int .i64 0, .float .f32 0, .float .f32 0], .bool false]) (by simp [results, Tryz.results132, go_sem]) rfl ⟨rfl, ?_⟩
    first
      | exact below_draws (HB _ _).out _
      | exact ((((below_draws (HB _ _).out _).setCell (by show w.heap.size ≤ w.heap.size + 1; omega) _).setCell (by show w.heap.size ≤ w.heap.size + 1; omega) _).setCell (by show w.heap.size ≤ w.heap.size + 1; omega) _).setCell (by show w.heap.size ≤ w.heap.size + 1; omega) _
  · have HV : Hid (validP a l d = false) := Lib.hid (by unfold canSpan at hcan; rw [hx] at hcan; simpa using hcan)
    have HX := Lib.hid hx
    clear hx hcan
    go_enter Tryz.func132, Tryz.ntmps132
    go_wp2_with fail
    go_step3
    go_wp2_with fail
    refine (i_WrapAngle x HX.out _).mono ?_
    rintro e w' ⟨n0, rfl, rfl⟩
    go_wp2_with fail
    refine (i_ValidProfile A L D ca cl cd a l d _ (HP.out.below (below_draws (HB _ _).out _)) HN.out).mono ?_
    rintro e w1 ⟨rfl, b1⟩
    rw [show validP a l d = _ from HV.out]
    have R1 : Hid (Blk4 w1 (w.heap.size + 1) _ _ _ _) := Lib.hid ((Blk4.draws (blk4_at (w.alloc _) _ _ _ _ _ (by simp)) _).below b1)
    have B1 : Hid (Below w.heap.size w w1) := Lib.hid (below_of (below_draws (HB _ _).out _) (by simp <;> omega) b1)
    clear b1
    obtain ⟨-, ⟨r0, r1, r2, r3⟩, r4, r5, r6, r7⟩ := R1.out
    go_wp2
    try rw [Exit.noGoto_ret]
    refine bodyPost_ret (v := .tuple #[.agg #[.int .i64 0, .int .i64 0, .float .f32 0, .float .f32 0], .bool false]) (by simp [results, Tryz.results132, go_sem, r0, r1, r2, r3]) rfl ⟨rfl, ?_⟩
    first
      | exact B1.out
      | exact (((B1.out.setCell (by show w.heap.size ≤ w.heap.size + 1; omega) _).setCell (by show w.heap.size ≤ w.heap.size + 1; omega) _).setCell (by show w.heap.size ≤ w.heap.size + 1; omega) _).setCell (by show w.heap.size ≤ w.heap.size + 1; omega) _
set_option maxHeartbeats 16000000 in
theorem i_numberAt (A L D M : Option Addr) (ca cl cd cm : Nat) (a l d m : List Nat) (x : Nat) (w : World) (h : Pf w A L D a l d) (hn : Few a l d) (hm : Fl w M m) (hml : validP a l d = true → m.length = a.length) :
    Calls Tryz.prog 129 #[.agg #[.slice A a.length ca, .slice L l.length cl, .slice D d.length cd], .slice M m.length cm, .float .f32 x] w fun e w' => ∃ r, e = .returned (.tuple #[.float .f32 r, .bool (atO a l d m x)]) ∧ canon .f32 r = atR a l d m x ∧ Below w.heap.size w w' := by
  have HP := Lib.hid h; clear h
  have HN := Lib.hid hn; clear hn
  have HB : ∀ o1, Hid (Below w.heap.size w (w.alloc o1)) := fun _ => Lib.hid ((Below.refl _ _).alloc (Nat.le_refl _) _)
  cases hv : canSpan a l d x
  · have HV := Lib.hid hv; clear hv hml
    go_enter Tryz.func129, Tryz.ntmps129
    go_wp2_with fail
    refine (i_spanAt_no A L D ca cl cd a l d x _ (HP.out.below (HB _).out) HN.out HV.out).mono ?_
    rintro e w1 ⟨rfl, b1⟩
    have B1 : Hid (Below w.heap.size w w1) := Lib.hid (below_of (HB _).out (by simp) b1)
    clear b1
    go_wp2
    go_ret2
    exact ⟨_, by unfold atO; rw [← can_eq, HV.out]; rfl, by unfold atR; rw [← can_eq, HV.out]; exact canon_zero, by first | exact B1.out | exact B1.out.alloc B1.out.size _⟩
  · have HV := Lib.hid hv
    have s := can_sized (x := x) hv
    have hml' : m.length = a.length := hml (by unfold canSpan at hv; rw [Bool.and_eq_true] at hv; exact hv.1)
    have hi := spI_lt (a := a) (x := x) s.1
    have hj := spJ_lt (a := a) (x := x) s.1
    have HVa : Hid (atV a m x = fop .add .f32 (canon .f32 (m.getD (spI a (spT' a x)) 0)) (fop .mul .f32 (canon .f32 (spF (spLo a (spT' a x)) (spHi a (spT' a x)) (wrapT x))) (fop .sub .f32 (canon .f32 (m.getD (spJ a (spT' a x)) 0)) (canon .f32 (m.getD (spI a (spT' a x)) 0))))) := rfl
    have HSp : ∀ W, Pf W A L D a l d → Hid (Calls Tryz.prog 132 #[.agg #[.slice A a.length ca, .slice L l.length cl, .slice D d.length cd], .float .f32 x] W fun e w' => e = .returned (.tuple #[.agg #[.int .i64 (spI a (spT' a x)), .int .i64 (spJ a (spT' a x)), .float .f32 (spW (spLo a (spT' a x)) (spHi a (spT' a x))), .float .f32 (spF (spLo a (spT' a x)) (spHi a (spT' a x)) (wrapT x))], .bool true]) ∧ Below W.heap.size W w') := fun W hW => Lib.hid (i_spanAt A L D ca cl cd a l d x W hW HN.out HV.out)
    clear hv s hml
    generalize spF (spLo a (spT' a x)) (spHi a (spT' a x)) (wrapT x) = f at HSp HVa
    generalize spW (spLo a (spT' a x)) (spHi a (spT' a x)) = dd at HSp
    generalize spI a (spT' a x) = i at HSp HVa hi
    generalize spJ a (spT' a x) = j at HSp HVa hj
    have hi' : i < m.length := by omega
    have hj' : j < m.length := by omega
    clear hi hj hml'
    go_enter Tryz.func129, Tryz.ntmps129
    go_wp2_with fail
    refine (HSp _ (HP.out.below (HB _).out)).out.mono ?_
    rintro e w1 ⟨rfl, b1⟩
    have B1 : Hid (Below w.heap.size w w1) := Lib.hid (below_of (HB _).out (by simp) b1)
    clear b1
    obtain ⟨b, off, rfl, hb, hci⟩ := (hm.below B1.out).at_ hi'
    have hcj := (hm.below B1.out).same rfl hj'
    clear hm
    generalize m.getD i 0 = y at hci HVa
    generalize m.getD j 0 = z at hcj HVa
    go_wp2_with fail
    go_region_with (first | (go_at_call 133; refine (i_between _ _ _ _).mono ?_; rintro e w' ⟨r, q, rfl, hr, rfl⟩; have HR := Lib.hid hr; clear hr) | (go_at_call 53; refine (i_onlyFinite _ _).mono ?_; rintro e w' ⟨q, rfl, rfl⟩))
    all_goals
      go_wp2
      go_ret2
      exact ⟨onlyN r, by unfold atO; rw [← can_eq, HV.out, HVa.out, ← HR.out, fin_canon]; rfl, by rw [canon_onlyN, HR.out, ← HVa.out]; unfold atR; rw [← can_eq, HV.out]; rfl, below_draws (B1.out.alloc B1.out.size _) _⟩
theorem i_LiftAt (A L D : Option Addr) (ca cl cd : Nat) (a l d : List Nat) (x : Nat) (w : World) (h : Pf w A L D a l d) (hn : Few a l d) :
    Calls Tryz.prog 121 #[.agg #[.slice A a.length ca, .slice L l.length cl, .slice D d.length cd], .float .f32 x] w fun e w' => ∃ r, e = .returned (.tuple #[.float .f32 r, .bool (atO a l d l x)]) ∧ canon .f32 r = atR a l d l x ∧ Below w.heap.size w w' := by
  have HP := Lib.hid h; clear h
  have HN := Lib.hid hn; clear hn
  have HB : ∀ o1, Hid (Below w.heap.size w (w.alloc o1)) := fun _ => Lib.hid ((Below.refl _ _).alloc (Nat.le_refl _) _)
  go_enter Tryz.func121, Tryz.ntmps121
  go_wp2_with fail
  refine (i_numberAt A L D L ca cl cd cl a l d l x _ (HP.out.below (HB _).out) HN.out (HP.out.2.1.below (HB _).out) (fun hv => (sized_of hv).2.2.1)).mono ?_
  rintro e w1 ⟨r, rfl, hr, b1⟩
  have HR := Lib.hid hr
  have B1 : Hid (Below w.heap.size w w1) := Lib.hid (below_of (HB _).out (by simp) b1)
  clear hr b1
  go_wp2
  go_ret2
  exact ⟨_, rfl, HR.out, B1.out⟩
theorem i_DragAt (A L D : Option Addr) (ca cl cd : Nat) (a l d : List Nat) (x : Nat) (w : World) (h : Pf w A L D a l d) (hn : Few a l d) :
    Calls Tryz.prog 122 #[.agg #[.slice A a.length ca, .slice L l.length cl, .slice D d.length cd], .float .f32 x] w fun e w' => ∃ r, e = .returned (.tuple #[.float .f32 r, .bool (atO a l d d x)]) ∧ canon .f32 r = atR a l d d x ∧ Below w.heap.size w w' := by
  have HP := Lib.hid h; clear h
  have HN := Lib.hid hn; clear hn
  have HB : ∀ o1, Hid (Below w.heap.size w (w.alloc o1)) := fun _ => Lib.hid ((Below.refl _ _).alloc (Nat.le_refl _) _)
  go_enter Tryz.func122, Tryz.ntmps122
  go_wp2_with fail
  refine (i_numberAt A L D D ca cl cd cd a l d d x _ (HP.out.below (HB _).out) HN.out (HP.out.2.2.below (HB _).out) (fun hv => (sized_of hv).2.2.2)).mono ?_
  rintro e w1 ⟨r, rfl, hr, b1⟩
  have HR := Lib.hid hr
  have B1 : Hid (Below w.heap.size w w1) := Lib.hid (below_of (HB _).out (by simp) b1)
  clear hr b1
  go_wp2
  go_ret2
  exact ⟨_, rfl, HR.out, B1.out⟩
end Go.Proofs.YtahbcpjipomcgaaGreat
