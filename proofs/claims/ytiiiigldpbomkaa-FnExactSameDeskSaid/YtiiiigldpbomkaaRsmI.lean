/- The same rotors: the program's side. No statement is proved here. -/
import Derived.Test.YtiiiigldpbomkaaBos
import Derived.Test.YtiiiigldpbomkaaSameS
import Derived.Test.YtiiiigldpbomkaaGd
namespace Go.Proofs.Ytiiiigldpbomkaa
open Go Go.RowKit
theorem BlkL.seven {w : World} {B : Nat} {v0 v1 v2 v3 v4 v5 v6 : Value} (h : BlkL w B [v0, v1, v2, v3, v4, v5, v6]) : w.cell? ⟨B, 0, none⟩ = some v0 ∧ w.cell? ⟨B, 1, none⟩ = some v1 ∧ w.cell? ⟨B, 2, none⟩ = some v2 ∧ w.cell? ⟨B, 3, none⟩ = some v3 ∧ w.cell? ⟨B, 4, none⟩ = some v4 ∧ w.cell? ⟨B, 5, none⟩ = some v5 ∧ w.cell? ⟨B, 6, none⟩ = some v6 :=
  ⟨(h.2 0 _ rfl).1, (h.2 1 _ rfl).1, (h.2 2 _ rfl).1, (h.2 3 _ rfl).1, (h.2 4 _ rfl).1, (h.2 5 _ rfl).1, (h.2 6 _ rfl).1⟩
def rotE (a l d s : List Nat) (n : Nat) (c : Int) (hub tip : Nat) (a' l' d' s' : List Nat) (n' : Nat) (c' : Int) (hub' tip' : Nat) : Bool :=
  sameP a l d a' l' d' && (sameSt s s' n n' && ((c == c') && (decide (canon .f32 hub = canon .f32 hub') && decide (canon .f32 tip = canon .f32 tip'))))
set_option maxHeartbeats 16000000 in
set_option maxRecDepth 100000 in
theorem i_SameRotor (A L D S : Option Addr) (ca cl cd n cs : Nat) (c : Int) (hub tip : Nat) (a l d s : List Nat) (A' L' D' S' : Option Addr) (ca' cl' cd' n' cs' : Nat) (c' : Int) (hub' tip' : Nat) (a' l' d' s' : List Nat) (w : World) (h : Rt w A L D S a l d s) (h' : Rt w A' L' D' S' a' l' d' s') (hn : FewR a l d s n) (hn' : FewR a' l' d' s' n') (hw : WordsP a l d) (hw' : WordsP a' l' d') (hs : Words s) (hs' : Words s') (hv : canon .f32 hub < 4294967296 ∧ canon .f32 tip < 4294967296) (hv' : canon .f32 hub' < 4294967296 ∧ canon .f32 tip' < 4294967296) :
    Calls Try.prog 141 #[.agg #[.slice A a.length ca, .slice L l.length cl, .slice D d.length cd, .slice S n cs, .int .i64 c, .float .f32 hub, .float .f32 tip], .agg #[.slice A' a'.length ca', .slice L' l'.length cl', .slice D' d'.length cd', .slice S' n' cs', .int .i64 c', .float .f32 hub', .float .f32 tip']] w fun e w' => e = .returned (.bool (rotE a l d s n c hub tip a' l' d' s' n' c' hub' tip')) ∧ Below w.heap.size w w' := by
  obtain ⟨w1, hw1⟩ : ∃ w1, w1 = (w.alloc (.cells #[.slice A a.length ca, .slice L l.length cl, .slice D d.length cd, .slice S n cs, .int .i64 c, .float .f32 hub, .float .f32 tip] 30)).alloc (.cells #[.slice A' a'.length ca', .slice L' l'.length cl', .slice D' d'.length cd', .slice S' n' cs', .int .i64 c', .float .f32 hub', .float .f32 tip'] 30) := ⟨_, rfl⟩
  have B1 : Hid (Below w.heap.size w w1) := Lib.hid (by rw [hw1]; exact ((Below.refl _ _).alloc (Nat.le_refl _) _).alloc (by simp) _)
  have K1 := Lib.hid (show BlkL w1 w.heap.size [.slice A a.length ca, .slice L l.length cl, .slice D d.length cd, .slice S n cs, .int .i64 c, .float .f32 hub, .float .f32 tip] by rw [hw1]; exact (blkL_at w #[.slice A a.length ca, .slice L l.length cl, .slice D d.length cd, .slice S n cs, .int .i64 c, .float .f32 hub, .float .f32 tip] _ rfl).alloc _)
  have K2 := Lib.hid (show BlkL w1 (w.heap.size + 1) [.slice A' a'.length ca', .slice L' l'.length cl', .slice D' d'.length cd', .slice S' n' cs', .int .i64 c', .float .f32 hub', .float .f32 tip'] by rw [hw1]; exact blkL_at (w.alloc _) #[.slice A' a'.length ca', .slice L' l'.length cl', .slice D' d'.length cd', .slice S' n' cs', .int .i64 c', .float .f32 hub', .float .f32 tip'] _ (by simp))
  have A0 : ∀ W, Below w.heap.size w W → Hid (Calls Try.prog 181 #[.agg #[.slice A a.length ca, .slice L l.length cl, .slice D d.length cd], .agg #[.slice A' a'.length ca', .slice L' l'.length cl', .slice D' d'.length cd']] W fun e w' => e = .returned (.bool (sameP a l d a' l' d')) ∧ Below W.heap.size W w') := fun W hb => Lib.hid (i_SameProfile A L D A' L' D' ca cl cd ca' cl' cd' a l d a' l' d' W (h.1.below hb) (h'.1.below hb) hn.few hw hw')
  have A1 : ∀ W, Below w.heap.size w W → Hid (Calls Try.prog 182 #[.slice S n cs, .slice S' n' cs', .func (.func 183) #[] #[]] W fun e w' => e = .returned (.bool (sameSt s s' n n')) ∧ Below W.heap.size W w') := fun W hb => Lib.hid (lib_EqualFunc_station S S' n n' cs cs' s s' W (h.2.below hb) (h'.2.below hb) hn.1 hn'.1 (by have := hn.2; omega) (by have := hn'.2; omega) hs hs')
  have Q0 : ∀ W, Hid (Calls Try.prog 184 #[.float .f32 hub, .float .f32 hub'] W fun e w' => ∃ n, e = .returned (.bool (decide (canon .f32 hub = canon .f32 hub'))) ∧ w' = W.drewN n) := fun W => Lib.hid (i_SameNumber _ _ _ hv.1 hv'.1)
  have Q1 : ∀ W, Hid (Calls Try.prog 184 #[.float .f32 tip, .float .f32 tip'] W fun e w' => ∃ n, e = .returned (.bool (decide (canon .f32 tip = canon .f32 tip'))) ∧ w' = W.drewN n) := fun W => Lib.hid (i_SameNumber _ _ _ hv.2 hv'.2)
  have HE : Hid (rotE a l d s n c hub tip a' l' d' s' n' c' hub' tip' = (sameP a l d a' l' d' && (sameSt s s' n n' && ((c == c') && (decide (canon .f32 hub = canon .f32 hub') && decide (canon .f32 tip = canon .f32 tip')))))) := rfl
  have HU : Hid ((c == c') = (c == c')) := rfl
  clear h h' hw hw' hv hv' hn hn' hs hs'
  generalize rotE a l d s n c hub tip a' l' d' s' n' c' hub' tip' = ev at HE ⊢
  obtain ⟨ub, hub0⟩ : ∃ x, x = (c == c') := ⟨_, rfl⟩
  rw [← hub0] at HE
  replace HU : Hid ((c == c') = ub) := Lib.hid hub0.symm
  clear hub0
  generalize sameP a l d a' l' d' = u0 at A0 HE
  generalize sameSt s s' n n' = u1 at A1 HE
  generalize decide (canon .f32 hub = canon .f32 hub') = t0 at Q0 HE
  generalize decide (canon .f32 tip = canon .f32 tip') = t1 at Q1 HE
  go_enter Try.func141, Try.ntmps141
  go_wp2_with fail
  rw [← hw1]
  clear hw1
  refine (A0 _ B1.out).out.mono ?_
  rintro e w2 ⟨rfl, b2⟩
  have B2 : Hid (Below w.heap.size w w2) := Lib.hid (below_of B1.out B1.out.size b2)
  have K3 := Lib.hid (K1.out.below b2)
  have K4 := Lib.hid (K2.out.below b2)
  clear b2 K1 K2
  cases u0
  · go_wp2
    go_ret
    exact ⟨by rw [HE.out]; rfl, B2.out⟩
  · obtain ⟨-, -, -, k3, -, -, -⟩ := K3.out.seven
    obtain ⟨-, -, -, l3, -, -, -⟩ := K4.out.seven
    go_wp2_with fail
    refine (A1 _ B2.out).out.mono ?_
    rintro e w3 ⟨rfl, b3⟩
    have B3 : Hid (Below w.heap.size w w3) := Lib.hid (below_of B2.out B2.out.size b3)
    have K5 := Lib.hid (K3.out.below b3)
    have K6 := Lib.hid (K4.out.below b3)
    clear b3 K3 K4 k3 l3
    cases u1
    · go_wp2
      go_ret
      exact ⟨by rw [HE.out]; rfl, B3.out⟩
    · obtain ⟨-, -, -, -, k4, k5, k6⟩ := K5.out.seven
      obtain ⟨-, -, -, -, l4, l5, l6⟩ := K6.out.seven
      have hu := HU.out
      cases ub
      · go_wp2
        go_ret
        exact ⟨by rw [HE.out]; rfl, B3.out⟩
      · go_wp2_with fail
        refine (Q0 _).out.mono ?_
        rintro e w4 ⟨n4, rfl, rfl⟩
        obtain ⟨-, -, -, -, m4, m5, m6⟩ := (K5.out.draws n4).seven
        obtain ⟨-, -, -, -, o4, o5, o6⟩ := (K6.out.draws n4).seven
        clear k4 k5 k6 l4 l5 l6
        have B4 : Hid (Below w.heap.size w (w3.drewN n4)) := Lib.hid (below_draws B3.out _)
        cases t0
        · go_wp2
          go_ret
          exact ⟨by rw [HE.out]; rfl, B4.out⟩
        · go_wp2_with fail
          refine (Q1 _).out.mono ?_
          rintro e w5 ⟨n5, rfl, rfl⟩
          go_wp2
          go_ret
          exact ⟨by rw [HE.out]; rfl, below_draws B3.out _⟩
end Go.Proofs.Ytiiiigldpbomkaa
