/- Lifts and drags at angles: the specification's side. No statement is proved here. -/
import Derived.Test.YtahbcpjipomcgaaGreatSpanS
namespace Go.Proofs.YtahbcpjipomcgaaGreat
open Go Go.RowKit

/-- the number of a list at an angle -/
def atV (a m : List Nat) (x : Nat) : Nat :=
  fop .add .f32 (canon .f32 (m.getD (spI a (spT' a x)) 0)) (fop .mul .f32 (canon .f32 (spF (spLo a (spT' a x)) (spHi a (spT' a x)) (wrapT x))) (fop .sub .f32 (canon .f32 (m.getD (spJ a (spT' a x)) 0)) (canon .f32 (m.getD (spI a (spT' a x)) 0))))
theorem spI_lt {a : List Nat} {x : Nat} (h : 2 ≤ a.length) : spI a (spT' a x) < a.length := by
  have := spC_le a (wrapT x) a.length
  unfold spI spT'
  split <;> omega
theorem spJ_lt {a : List Nat} {x : Nat} (h : 2 ≤ a.length) : spJ a (spT' a x) < a.length := by
  have := spC_le a (wrapT x) a.length
  unfold spJ spT'
  split
  · omega
  · split <;> omega
theorem can_sized {a l d : List Nat} {x : Nat} (h : canSpan' a l d x = true) : sized a l d := by
  unfold canSpan' at h; rw [Bool.and_eq_true] at h; exact sized_of h.1
set_option maxHeartbeats 8000000 in
theorem s_l02At (A L D M : Option Addr) (ca cl cd cm : Nat) (a l d m : List Nat) (x B : Nat) (w : World) (h : Pf w A L D a l d) (hm : Fl w M m) (hml : m.length = a.length) (hk : Blk3 w B (.slice A a.length ca) (.slice L l.length cl) (.slice D d.length cd)) (hcan : canSpan' a l d x = true) :
    Calls Tryz.prog 128 #[.pointer (some ⟨B, 0, none⟩), .slice M m.length cm, .float .f32 x] w fun e w' => ∃ r n, e = .returned (.float .f32 r) ∧ canon .f32 r = atV a m x ∧ w' = w.drewN n := by
  have s := can_sized hcan
  have hi := spI_lt (a := a) (x := x) s.1
  have hj := spJ_lt (a := a) (x := x) s.1
  have HH := Lib.hid (s_l02Pair A L D ca cl cd a l d x B w h hk hcan)
  have HV : Hid (atV a m x = fop .add .f32 (canon .f32 (m.getD (spI a (spT' a x)) 0)) (fop .mul .f32 (canon .f32 (spF (spLo a (spT' a x)) (spHi a (spT' a x)) (wrapT x))) (fop .sub .f32 (canon .f32 (m.getD (spJ a (spT' a x)) 0)) (canon .f32 (m.getD (spI a (spT' a x)) 0))))) := rfl
  clear h hk hcan s
  generalize spF (spLo a (spT' a x)) (spHi a (spT' a x)) (wrapT x) = f at HH HV
  generalize spD (spLo a (spT' a x)) (spHi a (spT' a x)) = dd at HH
  generalize spI a (spT' a x) = i at HH HV hi
  generalize spJ a (spT' a x) = j at HH HV hj
  have hi' : i < m.length := by omega
  have hj' : j < m.length := by omega
  clear hi hj hml
  obtain ⟨b, off, rfl, hb, hci⟩ := hm.at_ hi'
  have hcj := hm.same rfl hj'
  clear hm hb
  generalize m.getD i 0 = y at hci HV
  generalize m.getD j 0 = z at hcj HV
  go_enter Tryz.func128, Tryz.ntmps128
  go_wp2_with fail
  refine HH.out.mono ?_
  rintro e w' ⟨rfl, rfl⟩
  go_wp2_with fail
  go_region_with (fail)
  all_goals
    go_wp2
    go_ret
    exact ⟨_, _, rfl, by simp only [canon_fopV]; rw [HV.out], rfl⟩
theorem s_l02Lift (A L D : Option Addr) (ca cl cd : Nat) (a l d : List Nat) (x B : Nat) (w : World) (h : Pf w A L D a l d) (hk : Blk3 w B (.slice A a.length ca) (.slice L l.length cl) (.slice D d.length cd)) (hcan : canSpan' a l d x = true) :
    Calls Tryz.prog 117 #[.pointer (some ⟨B, 0, none⟩), .float .f32 x] w fun e w' => ∃ r n, e = .returned (.float .f32 r) ∧ canon .f32 r = atV a l x ∧ w' = w.drewN n := by
  have HK := Lib.hid hk
  have HP := Lib.hid h
  obtain ⟨-, ⟨k0, k1, k2⟩, -, -, -⟩ := hk
  have HS : Hid (l.length = a.length) := Lib.hid (can_sized hcan).2.2.1
  have HC := Lib.hid hcan
  clear h hcan
  go_enter Tryz.func117, Tryz.ntmps117
  go_wp2_with fail
  refine (s_l02At A L D L ca cl cd cl a l d l x B _ HP.out HP.out.2.1 HS.out HK.out HC.out).mono ?_
  rintro e w' ⟨r, n, rfl, hr, rfl⟩
  have HR := Lib.hid hr; clear hr
  go_wp2
  go_ret
  exact ⟨_, _, rfl, HR.out, rfl⟩
theorem s_l02Drag (A L D : Option Addr) (ca cl cd : Nat) (a l d : List Nat) (x B : Nat) (w : World) (h : Pf w A L D a l d) (hk : Blk3 w B (.slice A a.length ca) (.slice L l.length cl) (.slice D d.length cd)) (hcan : canSpan' a l d x = true) :
    Calls Tryz.prog 118 #[.pointer (some ⟨B, 0, none⟩), .float .f32 x] w fun e w' => ∃ r n, e = .returned (.float .f32 r) ∧ canon .f32 r = atV a d x ∧ w' = w.drewN n := by
  have HK := Lib.hid hk
  have HP := Lib.hid h
  obtain ⟨-, ⟨k0, k1, k2⟩, -, -, -⟩ := hk
  have HS : Hid (d.length = a.length) := Lib.hid (can_sized hcan).2.2.2
  have HC := Lib.hid hcan
  clear h hcan
  go_enter Tryz.func118, Tryz.ntmps118
  go_wp2_with fail
  refine (s_l02At A L D D ca cl cd cd a l d d x B _ HP.out HP.out.2.2 HS.out HK.out HC.out).mono ?_
  rintro e w' ⟨r, n, rfl, hr, rfl⟩
  have HR := Lib.hid hr; clear hr
  go_wp2
  go_ret
  exact ⟨_, _, rfl, HR.out, rfl⟩
def atO (a l d m : List Nat) (x : Nat) : Bool := canSpan' a l d x && fin .f32 (atV a m x)
def atR (a l d m : List Nat) (x : Nat) : Nat := if canSpan' a l d x then onlyN (atV a m x) else 0
end Go.Proofs.YtahbcpjipomcgaaGreat
