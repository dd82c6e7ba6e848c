/- Calms: both sides. No statement is proved here. -/
import Derived.Test.YteligfbbofgonaaWin
import Derived.Test.YteligfbbofgonaaJumps
import Derived.Test.YteligfbbofgonaaInv3
namespace Go.Proofs.Yteligfbbofgonaa
open Go Go.RowKit
def ltr32 (x y : Nat) : Bool := FloatKind.f32.format.order x y == some .lt
/-- how long the calm is that ends with the first k winds; how many calms they have; how long the longest one is -/
def calL (xs : List Nat) (lv : Nat) : Nat → Nat
  | 0 => 0
  | k + 1 => if ltr32 (xs.getD k 0) lv then calL xs lv k + 1 else 0
def calN (xs : List Nat) (lv : Nat) : Nat → Nat
  | 0 => 0
  | k + 1 => if ltr32 (xs.getD k 0) lv && decide (calL xs lv k = 0) then calN xs lv k + 1 else calN xs lv k
def calM (xs : List Nat) (lv : Nat) : Nat → Nat
  | 0 => 0
  | k + 1 => if ltr32 (xs.getD k 0) lv then Nat.max (calM xs lv k) (calL xs lv k + 1) else calM xs lv k
theorem cal_le (xs : List Nat) (lv : Nat) : ∀ k, calL xs lv k ≤ k ∧ calN xs lv k ≤ k ∧ calM xs lv k ≤ k := by
  intro k; induction k with
  | zero => exact ⟨Nat.le_refl _, Nat.le_refl _, Nat.le_refl _⟩
  | succ k ih =>
    obtain ⟨h1, h2, h3⟩ := ih
    refine ⟨?_, ?_, ?_⟩
    · simp only [calL]; split <;> omega
    · simp only [calN]; split <;> omega
    · simp only [calM]; split
      · exact Nat.max_le.2 ⟨by omega, by omega⟩
      · omega
theorem cal_no {xs : List Nat} {lv k : Nat} (h : ltr32 (xs.getD k 0) lv = false) : calL xs lv (k + 1) = 0 ∧ calN xs lv (k + 1) = calN xs lv k ∧ calM xs lv (k + 1) = calM xs lv k := by
  simp only [calL, calN, calM, h]; exact ⟨rfl, rfl, rfl⟩
theorem cal_yes {xs : List Nat} {lv k : Nat} (h : ltr32 (xs.getD k 0) lv = true) : calL xs lv (k + 1) = calL xs lv k + 1 ∧ calM xs lv (k + 1) = Nat.max (calM xs lv k) (calL xs lv k + 1) := by
  simp only [calL, calM, h]; exact ⟨rfl, rfl⟩
theorem cal_new {xs : List Nat} {lv k : Nat} (h : ltr32 (xs.getD k 0) lv = true) (h0 : calL xs lv k = 0) : calN xs lv (k + 1) = calN xs lv k + 1 := by
  simp only [calN, h, h0]; rfl
theorem cal_old {xs : List Nat} {lv k : Nat} (h0 : calL xs lv k ≠ 0) : calN xs lv (k + 1) = calN xs lv k := by
  simp only [calN, decide_eq_false h0, Bool.and_false]; rfl
/-- the slots at a label -/
def calS (A : Option Addr) (len cap lv : Nat) (n m l k : Nat) (a : Act) : Prop :=
  a.defers = [] ∧ a.tmps.size = 45 ∧ a.tmps[0]?.getD undef = .slice A len cap ∧ a.tmps[1]?.getD undef = .float .f32 lv ∧ a.tmps[6]?.getD undef = .int .i64 n ∧ a.tmps[7]?.getD undef = .int .i64 m ∧ a.tmps[8]?.getD undef = .int .i64 l ∧ a.tmps[9]?.getD undef = .int .i64 k
/-- what holds at a label -/
def calJ (A : Option Addr) (cap lv : Nat) (xs : List Nat) (w : World) (lab : Nat) (a : Act) (w' : World) : Prop :=
  w' = w ∧ match lab with
    | 0 => ∃ k l, k ≤ xs.length ∧ (k = xs.length ∨ calL xs lv k = 0 ∨ ltr32 (xs.getD k 0) lv = false) ∧ calS A xs.length cap lv (calN xs lv k) (calM xs lv k) l k a
    | 1 => ∃ k, k < xs.length ∧ ltr32 (xs.getD k 0) lv = true ∧ calS A xs.length cap lv (calN xs lv (k + 1)) (calM xs lv k) (calL xs lv k) k a
    | _ => False
set_option maxHeartbeats 4000000 in
theorem i_calmsIn (A : Option Addr) (cap lv : Nat) (xs : List Nat) (w : World) (h : Fl w A xs) (hn : xs.length ≤ 256) :
    Calls Try.prog 76 #[.slice A xs.length cap, .float .f32 lv] w fun e w' => e = .returned (.tuple #[.int .i64 (calN xs lv xs.length), .int .i64 (calM xs lv xs.length)]) ∧ w' = w := by
  go_enter Try.func76, Try.ntmps76
  go_wp2
  refine wp_scope_jumpsL (calJ A cap lv xs w) (fun l a _ => 2 * (xs.length - (intOf (a.tmps.getD 9 undef)).toNat) - l) ?pass ?first
  case first =>
    intro hp
    go_wp2
    go_step3
    rename_i K hK
    exact hK _ _ (hp 0 _ _ _ rfl ⟨rfl, 0, 0, Nat.zero_le _, .inr (.inl rfl), rfl, rfl, rfl, rfl, rfl, rfl, rfl, rfl⟩)
  case pass =>
    rintro lab act w' hJ
    rcases lab with _ | _ | lab
    · obtain ⟨rfl, k, l, hk, hor, hd, hsz, g0, g1, g6, g7, g8, g9⟩ := hJ
      refine ⟨_, rfl, ?_⟩
      have HU : Hid (2 * (xs.length - (intOf (act.tmps.getD 9 undef)).toNat) = 2 * (xs.length - k)) := Lib.hid (by rw [Array.getD_eq_getD_getElem?, g9]; rfl)
      rw [HU.out]
      clear HU
      by_cases hlt : k < xs.length
      · obtain ⟨b, off, rfl, hb, hc⟩ := h.at_ hlt
        have HF := Lib.hid h; clear h hb
        have HOr := Lib.hid hor; clear hor
        obtain ⟨q1, q2, q3⟩ := cal_le xs lv k
        cases hg : ltr32 (xs.getD k 0) lv
        · obtain ⟨z1, z2, z3⟩ := cal_no hg
          have HG := Lib.hid hg; clear hg
          have Z1 := Lib.hid z1; clear z1
          have Z2 := Lib.hid z2; clear z2
          have Z3 := Lib.hid z3; clear z3
          generalize hN : calN xs lv k = n at g6 q2 Z2
          generalize hM : calM xs lv k = m at g7 q3 Z3
          have hf : (FloatKind.f32.format.order (xs.getD k 0) lv == some .lt) = false := HG.out
          clear hN hM
          generalize hx : xs.getD k 0 = x at hc hf
          clear hx q1
          obtain ⟨tt, dd⟩ := act
          simp only at g0 g1 g6 g7 g8 g9 hsz hd
          subst hd
          have hl : tt = #[tt[0]?.getD undef, tt[1]?.getD undef, tt[2]?.getD undef, tt[3]?.getD undef, tt[4]?.getD undef, tt[5]?.getD undef, tt[6]?.getD undef, tt[7]?.getD undef, tt[8]?.getD undef, tt[9]?.getD undef, tt[10]?.getD undef, tt[11]?.getD undef, tt[12]?.getD undef, tt[13]?.getD undef, tt[14]?.getD undef, tt[15]?.getD undef, tt[16]?.getD undef, tt[17]?.getD undef, tt[18]?.getD undef, tt[19]?.getD undef, tt[20]?.getD undef, tt[21]?.getD undef, tt[22]?.getD undef, tt[23]?.getD undef, tt[24]?.getD undef, tt[25]?.getD undef, tt[26]?.getD undef, tt[27]?.getD undef, tt[28]?.getD undef, tt[29]?.getD undef, tt[30]?.getD undef, tt[31]?.getD undef, tt[32]?.getD undef, tt[33]?.getD undef, tt[34]?.getD undef, tt[35]?.getD undef, tt[36]?.getD undef, tt[37]?.getD undef, tt[38]?.getD undef, tt[39]?.getD undef, tt[40]?.getD undef, tt[41]?.getD undef, tt[42]?.getD undef, tt[43]?.getD undef, tt[44]?.getD undef] := (arr_lit hsz).trans rfl
          rw [g0, g1, g6, g7, g8, g9] at hl
          clear g0 g1 g6 g7 g8 g9 hsz
          generalize tt[2]?.getD undef = y2 at hl
          generalize tt[3]?.getD undef = y3 at hl
          generalize tt[4]?.getD undef = y4 at hl
          generalize tt[5]?.getD undef = y5 at hl
          generalize tt[10]?.getD undef = y10 at hl
          generalize tt[11]?.getD undef = y11 at hl
          generalize tt[12]?.getD undef = y12 at hl
          generalize tt[13]?.getD undef = y13 at hl
          generalize tt[14]?.getD undef = y14 at hl
          generalize tt[15]?.getD undef = y15 at hl
          generalize tt[16]?.getD undef = y16 at hl
          generalize tt[17]?.getD undef = y17 at hl
          generalize tt[18]?.getD undef = y18 at hl
          generalize tt[19]?.getD undef = y19 at hl
          generalize tt[20]?.getD undef = y20 at hl
          generalize tt[21]?.getD undef = y21 at hl
          generalize tt[22]?.getD undef = y22 at hl
          generalize tt[23]?.getD undef = y23 at hl
          generalize tt[24]?.getD undef = y24 at hl
          generalize tt[25]?.getD undef = y25 at hl
          generalize tt[26]?.getD undef = y26 at hl
          generalize tt[27]?.getD undef = y27 at hl
          generalize tt[28]?.getD undef = y28 at hl
          generalize tt[29]?.getD undef = y29 at hl
          generalize tt[30]?.getD undef = y30 at hl
          generalize tt[31]?.getD undef = y31 at hl
          generalize tt[32]?.getD undef = y32 at hl
          generalize tt[33]?.getD undef = y33 at hl
          generalize tt[34]?.getD undef = y34 at hl
          generalize tt[35]?.getD undef = y35 at hl
          generalize tt[36]?.getD undef = y36 at hl
          generalize tt[37]?.getD undef = y37 at hl
          generalize tt[38]?.getD undef = y38 at hl
          generalize tt[39]?.getD undef = y39 at hl
          generalize tt[40]?.getD undef = y40 at hl
          generalize tt[41]?.getD undef = y41 at hl
          generalize tt[42]?.getD undef = y42 at hl
          generalize tt[43]?.getD undef = y43 at hl
          generalize tt[44]?.getD undef = y44 at hl
          subst hl
          go_wp2
          go_step3
          refine And.intro (And.intro rfl ⟨k + 1, l, hlt, .inr (.inl Z1.out), rfl, rfl, rfl, rfl, by rw [Z2.out]; rfl, by rw [Z3.out]; rfl, rfl, by go_num⟩) ?_
          simp [intOf]; omega
        · have HG := Lib.hid hg; clear hg
          have h0 : calL xs lv k = 0 := by rcases HOr.out with h | h | h <;> first | omega | exact h | (rw [HG.out] at h; cases h)
          have Z2 := Lib.hid (cal_new HG.out h0)
          have H0 := Lib.hid h0; clear h0
          generalize hN : calN xs lv k = n at g6 q2 Z2
          generalize hM : calM xs lv k = m at g7 q3
          have HM := Lib.hid hM
          have hf : (FloatKind.f32.format.order (xs.getD k 0) lv == some .lt) = true := HG.out
          clear hN hM
          generalize hx : xs.getD k 0 = x at hc hf
          clear hx q1
          obtain ⟨tt, dd⟩ := act
          simp only at g0 g1 g6 g7 g8 g9 hsz hd
          subst hd
          have hl : tt = #[tt[0]?.getD undef, tt[1]?.getD undef, tt[2]?.getD undef, tt[3]?.getD undef, tt[4]?.getD undef, tt[5]?.getD undef, tt[6]?.getD undef, tt[7]?.getD undef, tt[8]?.getD undef, tt[9]?.getD undef, tt[10]?.getD undef, tt[11]?.getD undef, tt[12]?.getD undef, tt[13]?.getD undef, tt[14]?.getD undef, tt[15]?.getD undef, tt[16]?.getD undef, tt[17]?.getD undef, tt[18]?.getD undef, tt[19]?.getD undef, tt[20]?.getD undef, tt[21]?.getD undef, tt[22]?.getD undef, tt[23]?.getD undef, tt[24]?.getD undef, tt[25]?.getD undef, tt[26]?.getD undef, tt[27]?.getD undef, tt[28]?.getD undef, tt[29]?.getD undef, tt[30]?.getD undef, tt[31]?.getD undef, tt[32]?.getD undef, tt[33]?.getD undef, tt[34]?.getD undef, tt[35]?.getD undef, tt[36]?.getD undef, tt[37]?.getD undef, tt[38]?.getD undef, tt[39]?.getD undef, tt[40]?.getD undef, tt[41]?.getD undef, tt[42]?.getD undef, tt[43]?.getD undef, tt[44]?.getD undef] := (arr_lit hsz).trans rfl
          rw [g0, g1, g6, g7, g8, g9] at hl
          clear g0 g1 g6 g7 g8 g9 hsz
          generalize tt[2]?.getD undef = y2 at hl
          generalize tt[3]?.getD undef = y3 at hl
          generalize tt[4]?.getD undef = y4 at hl
          generalize tt[5]?.getD undef = y5 at hl
          generalize tt[10]?.getD undef = y10 at hl
          generalize tt[11]?.getD undef = y11 at hl
          generalize tt[12]?.getD undef = y12 at hl
          generalize tt[13]?.getD undef = y13 at hl
          generalize tt[14]?.getD undef = y14 at hl
          generalize tt[15]?.getD undef = y15 at hl
          generalize tt[16]?.getD undef = y16 at hl
          generalize tt[17]?.getD undef = y17 at hl
          generalize tt[18]?.getD undef = y18 at hl
          generalize tt[19]?.getD undef = y19 at hl
          generalize tt[20]?.getD undef = y20 at hl
          generalize tt[21]?.getD undef = y21 at hl
          generalize tt[22]?.getD undef = y22 at hl
          generalize tt[23]?.getD undef = y23 at hl
          generalize tt[24]?.getD undef = y24 at hl
          generalize tt[25]?.getD undef = y25 at hl
          generalize tt[26]?.getD undef = y26 at hl
          generalize tt[27]?.getD undef = y27 at hl
          generalize tt[28]?.getD undef = y28 at hl
          generalize tt[29]?.getD undef = y29 at hl
          generalize tt[30]?.getD undef = y30 at hl
          generalize tt[31]?.getD undef = y31 at hl
          generalize tt[32]?.getD undef = y32 at hl
          generalize tt[33]?.getD undef = y33 at hl
          generalize tt[34]?.getD undef = y34 at hl
          generalize tt[35]?.getD undef = y35 at hl
          generalize tt[36]?.getD undef = y36 at hl
          generalize tt[37]?.getD undef = y37 at hl
          generalize tt[38]?.getD undef = y38 at hl
          generalize tt[39]?.getD undef = y39 at hl
          generalize tt[40]?.getD undef = y40 at hl
          generalize tt[41]?.getD undef = y41 at hl
          generalize tt[42]?.getD undef = y42 at hl
          generalize tt[43]?.getD undef = y43 at hl
          generalize tt[44]?.getD undef = y44 at hl
          subst hl
          go_wp2
          go_step3
          refine And.intro (And.intro rfl ⟨k, hlt, HG.out, rfl, rfl, rfl, rfl, by rw [Z2.out]; go_num, by rw [HM.out]; rfl, by rw [H0.out]; rfl, rfl⟩) ?_
          simp [intOf]; omega
      · have hkk : k = xs.length := by omega
        subst hkk
        have HF := Lib.hid h; clear h hor
        obtain ⟨q1, q2, q3⟩ := cal_le xs lv xs.length
        generalize hN : calN xs lv xs.length = n at g6 q2
        generalize hM : calM xs lv xs.length = m at g7 q3
        have HN := Lib.hid hN
        have HM := Lib.hid hM
        clear q1 hN hM
        obtain ⟨tt, dd⟩ := act
        simp only at g0 g1 g6 g7 g8 g9 hsz hd
        subst hd
        have hl : tt = #[tt[0]?.getD undef, tt[1]?.getD undef, tt[2]?.getD undef, tt[3]?.getD undef, tt[4]?.getD undef, tt[5]?.getD undef, tt[6]?.getD undef, tt[7]?.getD undef, tt[8]?.getD undef, tt[9]?.getD undef, tt[10]?.getD undef, tt[11]?.getD undef, tt[12]?.getD undef, tt[13]?.getD undef, tt[14]?.getD undef, tt[15]?.getD undef, tt[16]?.getD undef, tt[17]?.getD undef, tt[18]?.getD undef, tt[19]?.getD undef, tt[20]?.getD undef, tt[21]?.getD undef, tt[22]?.getD undef, tt[23]?.getD undef, tt[24]?.getD undef, tt[25]?.getD undef, tt[26]?.getD undef, tt[27]?.getD undef, tt[28]?.getD undef, tt[29]?.getD undef, tt[30]?.getD undef, tt[31]?.getD undef, tt[32]?.getD undef, tt[33]?.getD undef, tt[34]?.getD undef, tt[35]?.getD undef, tt[36]?.getD undef, tt[37]?.getD undef, tt[38]?.getD undef, tt[39]?.getD undef, tt[40]?.getD undef, tt[41]?.getD undef, tt[42]?.getD undef, tt[43]?.getD undef, tt[44]?.getD undef] := (arr_lit hsz).trans rfl
        rw [g0, g1, g6, g7, g8, g9] at hl
        clear g0 g1 g6 g7 g8 g9 hsz
        generalize tt[2]?.getD undef = y2 at hl
        generalize tt[3]?.getD undef = y3 at hl
        generalize tt[4]?.getD undef = y4 at hl
        generalize tt[5]?.getD undef = y5 at hl
        generalize tt[10]?.getD undef = y10 at hl
        generalize tt[11]?.getD undef = y11 at hl
        generalize tt[12]?.getD undef = y12 at hl
        generalize tt[13]?.getD undef = y13 at hl
        generalize tt[14]?.getD undef = y14 at hl
        generalize tt[15]?.getD undef = y15 at hl
        generalize tt[16]?.getD undef = y16 at hl
        generalize tt[17]?.getD undef = y17 at hl
        generalize tt[18]?.getD undef = y18 at hl
        generalize tt[19]?.getD undef = y19 at hl
        generalize tt[20]?.getD undef = y20 at hl
        generalize tt[21]?.getD undef = y21 at hl
        generalize tt[22]?.getD undef = y22 at hl
        generalize tt[23]?.getD undef = y23 at hl
        generalize tt[24]?.getD undef = y24 at hl
        generalize tt[25]?.getD undef = y25 at hl
        generalize tt[26]?.getD undef = y26 at hl
        generalize tt[27]?.getD undef = y27 at hl
        generalize tt[28]?.getD undef = y28 at hl
        generalize tt[29]?.getD undef = y29 at hl
        generalize tt[30]?.getD undef = y30 at hl
        generalize tt[31]?.getD undef = y31 at hl
        generalize tt[32]?.getD undef = y32 at hl
        generalize tt[33]?.getD undef = y33 at hl
        generalize tt[34]?.getD undef = y34 at hl
        generalize tt[35]?.getD undef = y35 at hl
        generalize tt[36]?.getD undef = y36 at hl
        generalize tt[37]?.getD undef = y37 at hl
        generalize tt[38]?.getD undef = y38 at hl
        generalize tt[39]?.getD undef = y39 at hl
        generalize tt[40]?.getD undef = y40 at hl
        generalize tt[41]?.getD undef = y41 at hl
        generalize tt[42]?.getD undef = y42 at hl
        generalize tt[43]?.getD undef = y43 at hl
        generalize tt[44]?.getD undef = y44 at hl
        subst hl
        go_wp2
        unfold jumps
        refine bodyPost_ret (results_tmp2 rfl _ _ _) rfl ?_
        exact ⟨by rw [HN.out, HM.out]; rfl, rfl⟩
    · obtain ⟨rfl, k, hlt, hg, hd, hsz, g0, g1, g6, g7, g8, g9⟩ := hJ
      refine ⟨_, rfl, ?_⟩
      have HU : Hid (2 * (xs.length - (intOf (act.tmps.getD 9 undef)).toNat) = 2 * (xs.length - k)) := Lib.hid (by rw [Array.getD_eq_getD_getElem?, g9]; rfl)
      rw [HU.out]
      clear HU
      obtain ⟨q1, -, q3⟩ := cal_le xs lv k
      obtain ⟨-, q2, -⟩ := cal_le xs lv (k + 1)
      obtain ⟨z1, z3⟩ := cal_yes hg
      have Z1 := Lib.hid z1; clear z1 hg
      have HMl := Lib.hid (cal_le xs lv (k + 1)).2.2
      have Z3 := Lib.hid z3; clear z3
      generalize hL : calL xs lv k = l at g8 q1 Z1 Z3
      generalize hM : calM xs lv k = m at g7 q3 Z3
      generalize hN : calN xs lv (k + 1) = n at g6 q2
      have HN := Lib.hid hN
      clear hL hM hN
      by_cases hm : l + 1 ≤ m
      · have Z3 : Hid (calM xs lv (k + 1) = m) := Lib.hid (Z3.out.trans (Nat.max_eq_left hm))
        by_cases hlt2 : k + 1 < xs.length
        · obtain ⟨b, off, rfl, hb, hc⟩ := h.at_ hlt2
          have HF := Lib.hid h; clear h hb
          cases hg : ltr32 (xs.getD (k + 1) 0) lv
          · have HG := Lib.hid hg; clear hg
            have hf : (FloatKind.f32.format.order (xs.getD (k + 1) 0) lv == some .lt) = false := HG.out
            generalize hx : xs.getD (k + 1) 0 = x at hc hf
            clear hx
            obtain ⟨tt, dd⟩ := act
            simp only at g0 g1 g6 g7 g8 g9 hsz hd
            subst hd
            have hl : tt = #[tt[0]?.getD undef, tt[1]?.getD undef, tt[2]?.getD undef, tt[3]?.getD undef, tt[4]?.getD undef, tt[5]?.getD undef, tt[6]?.getD undef, tt[7]?.getD undef, tt[8]?.getD undef, tt[9]?.getD undef, tt[10]?.getD undef, tt[11]?.getD undef, tt[12]?.getD undef, tt[13]?.getD undef, tt[14]?.getD undef, tt[15]?.getD undef, tt[16]?.getD undef, tt[17]?.getD undef, tt[18]?.getD undef, tt[19]?.getD undef, tt[20]?.getD undef, tt[21]?.getD undef, tt[22]?.getD undef, tt[23]?.getD undef, tt[24]?.getD undef, tt[25]?.getD undef, tt[26]?.getD undef, tt[27]?.getD undef, tt[28]?.getD undef, tt[29]?.getD undef, tt[30]?.getD undef, tt[31]?.getD undef, tt[32]?.getD undef, tt[33]?.getD undef, tt[34]?.getD undef, tt[35]?.getD undef, tt[36]?.getD undef, tt[37]?.getD undef, tt[38]?.getD undef, tt[39]?.getD undef, tt[40]?.getD undef, tt[41]?.getD undef, tt[42]?.getD undef, tt[43]?.getD undef, tt[44]?.getD undef] := (arr_lit hsz).trans rfl
            rw [g0, g1, g6, g7, g8, g9] at hl
            clear g0 g1 g6 g7 g8 g9 hsz
            generalize tt[2]?.getD undef = y2 at hl
            generalize tt[3]?.getD undef = y3 at hl
            generalize tt[4]?.getD undef = y4 at hl
            generalize tt[5]?.getD undef = y5 at hl
            generalize tt[10]?.getD undef = y10 at hl
            generalize tt[11]?.getD undef = y11 at hl
            generalize tt[12]?.getD undef = y12 at hl
            generalize tt[13]?.getD undef = y13 at hl
            generalize tt[14]?.getD undef = y14 at hl
            generalize tt[15]?.getD undef = y15 at hl
            generalize tt[16]?.getD undef = y16 at hl
            generalize tt[17]?.getD undef = y17 at hl
            generalize tt[18]?.getD undef = y18 at hl
            generalize tt[19]?.getD undef = y19 at hl
            generalize tt[20]?.getD undef = y20 at hl
            generalize tt[21]?.getD undef = y21 at hl
            generalize tt[22]?.getD undef = y22 at hl
            generalize tt[23]?.getD undef = y23 at hl
            generalize tt[24]?.getD undef = y24 at hl
            generalize tt[25]?.getD undef = y25 at hl
            generalize tt[26]?.getD undef = y26 at hl
            generalize tt[27]?.getD undef = y27 at hl
            generalize tt[28]?.getD undef = y28 at hl
            generalize tt[29]?.getD undef = y29 at hl
            generalize tt[30]?.getD undef = y30 at hl
            generalize tt[31]?.getD undef = y31 at hl
            generalize tt[32]?.getD undef = y32 at hl
            generalize tt[33]?.getD undef = y33 at hl
            generalize tt[34]?.getD undef = y34 at hl
            generalize tt[35]?.getD undef = y35 at hl
            generalize tt[36]?.getD undef = y36 at hl
            generalize tt[37]?.getD undef = y37 at hl
            generalize tt[38]?.getD undef = y38 at hl
            generalize tt[39]?.getD undef = y39 at hl
            generalize tt[40]?.getD undef = y40 at hl
            generalize tt[41]?.getD undef = y41 at hl
            generalize tt[42]?.getD undef = y42 at hl
            generalize tt[43]?.getD undef = y43 at hl
            generalize tt[44]?.getD undef = y44 at hl
            subst hl
            go_wp2
            go_step3
            refine And.intro (And.intro rfl ⟨k + 1, l + 1, hlt, .inr (.inr HG.out), rfl, rfl, rfl, rfl, by rw [HN.out]; rfl, by rw [Z3.out]; go_num, by go_num, by go_num⟩) ?_
            simp [intOf]; omega
          · have HG := Lib.hid hg; clear hg
            have hf : (FloatKind.f32.format.order (xs.getD (k + 1) 0) lv == some .lt) = true := HG.out
            have Z2 := Lib.hid (cal_old (xs := xs) (lv := lv) (k := k + 1) (by rw [Z1.out]; omega))
            generalize hx : xs.getD (k + 1) 0 = x at hc hf
            clear hx
            obtain ⟨tt, dd⟩ := act
            simp only at g0 g1 g6 g7 g8 g9 hsz hd
            subst hd
            have hl : tt = #[tt[0]?.getD undef, tt[1]?.getD undef, tt[2]?.getD undef, tt[3]?.getD undef, tt[4]?.getD undef, tt[5]?.getD undef, tt[6]?.getD undef, tt[7]?.getD undef, tt[8]?.getD undef, tt[9]?.getD undef, tt[10]?.getD undef, tt[11]?.getD undef, tt[12]?.getD undef, tt[13]?.getD undef, tt[14]?.getD undef, tt[15]?.getD undef, tt[16]?.getD undef, tt[17]?.getD undef, tt[18]?.getD undef, tt[19]?.getD undef, tt[20]?.getD undef, tt[21]?.getD undef, tt[22]?.getD undef, tt[23]?.getD undef, tt[24]?.getD undef, tt[25]?.getD undef, tt[26]?.getD undef, tt[27]?.getD undef, tt[28]?.getD undef, tt[29]?.getD undef, tt[30]?.getD undef, tt[31]?.getD undef, tt[32]?.getD undef, tt[33]?.getD undef, tt[34]?.getD undef, tt[35]?.getD undef, tt[36]?.getD undef, tt[37]?.getD undef, tt[38]?.getD undef, tt[39]?.getD undef, tt[40]?.getD undef, tt[41]?.getD undef, tt[42]?.getD undef, tt[43]?.getD undef, tt[44]?.getD undef] := (arr_lit hsz).trans rfl
            rw [g0, g1, g6, g7, g8, g9] at hl
            clear g0 g1 g6 g7 g8 g9 hsz
            generalize tt[2]?.getD undef = y2 at hl
            generalize tt[3]?.getD undef = y3 at hl
            generalize tt[4]?.getD undef = y4 at hl
            generalize tt[5]?.getD undef = y5 at hl
            generalize tt[10]?.getD undef = y10 at hl
            generalize tt[11]?.getD undef = y11 at hl
            generalize tt[12]?.getD undef = y12 at hl
            generalize tt[13]?.getD undef = y13 at hl
            generalize tt[14]?.getD undef = y14 at hl
            generalize tt[15]?.getD undef = y15 at hl
            generalize tt[16]?.getD undef = y16 at hl
            generalize tt[17]?.getD undef = y17 at hl
            generalize tt[18]?.getD undef = y18 at hl
            generalize tt[19]?.getD undef = y19 at hl
            generalize tt[20]?.getD undef = y20 at hl
            generalize tt[21]?.getD undef = y21 at hl
            generalize tt[22]?.getD undef = y22 at hl
            generalize tt[23]?.getD undef = y23 at hl
            generalize tt[24]?.getD undef = y24 at hl
            generalize tt[25]?.getD undef = y25 at hl
            generalize tt[26]?.getD undef = y26 at hl
            generalize tt[27]?.getD undef = y27 at hl
            generalize tt[28]?.getD undef = y28 at hl
            generalize tt[29]?.getD undef = y29 at hl
            generalize tt[30]?.getD undef = y30 at hl
            generalize tt[31]?.getD undef = y31 at hl
            generalize tt[32]?.getD undef = y32 at hl
            generalize tt[33]?.getD undef = y33 at hl
            generalize tt[34]?.getD undef = y34 at hl
            generalize tt[35]?.getD undef = y35 at hl
            generalize tt[36]?.getD undef = y36 at hl
            generalize tt[37]?.getD undef = y37 at hl
            generalize tt[38]?.getD undef = y38 at hl
            generalize tt[39]?.getD undef = y39 at hl
            generalize tt[40]?.getD undef = y40 at hl
            generalize tt[41]?.getD undef = y41 at hl
            generalize tt[42]?.getD undef = y42 at hl
            generalize tt[43]?.getD undef = y43 at hl
            generalize tt[44]?.getD undef = y44 at hl
            subst hl
            go_wp2
            go_step3
            refine And.intro (And.intro rfl ⟨k + 1, hlt2, HG.out, rfl, rfl, rfl, rfl, by rw [Z2.out, HN.out]; rfl, by rw [Z3.out]; go_num, by rw [Z1.out]; go_num, by go_num⟩) ?_
            simp [intOf]; omega
        · have HF := Lib.hid h; clear h
          have hkk : k + 1 = xs.length := by omega
          have HK := Lib.hid hkk; clear hkk
          obtain ⟨tt, dd⟩ := act
          simp only at g0 g1 g6 g7 g8 g9 hsz hd
          subst hd
          have hl : tt = #[tt[0]?.getD undef, tt[1]?.getD undef, tt[2]?.getD undef, tt[3]?.getD undef, tt[4]?.getD undef, tt[5]?.getD undef, tt[6]?.getD undef, tt[7]?.getD undef, tt[8]?.getD undef, tt[9]?.getD undef, tt[10]?.getD undef, tt[11]?.getD undef, tt[12]?.getD undef, tt[13]?.getD undef, tt[14]?.getD undef, tt[15]?.getD undef, tt[16]?.getD undef, tt[17]?.getD undef, tt[18]?.getD undef, tt[19]?.getD undef, tt[20]?.getD undef, tt[21]?.getD undef, tt[22]?.getD undef, tt[23]?.getD undef, tt[24]?.getD undef, tt[25]?.getD undef, tt[26]?.getD undef, tt[27]?.getD undef, tt[28]?.getD undef, tt[29]?.getD undef, tt[30]?.getD undef, tt[31]?.getD undef, tt[32]?.getD undef, tt[33]?.getD undef, tt[34]?.getD undef, tt[35]?.getD undef, tt[36]?.getD undef, tt[37]?.getD undef, tt[38]?.getD undef, tt[39]?.getD undef, tt[40]?.getD undef, tt[41]?.getD undef, tt[42]?.getD undef, tt[43]?.getD undef, tt[44]?.getD undef] := (arr_lit hsz).trans rfl
          rw [g0, g1, g6, g7, g8, g9] at hl
          clear g0 g1 g6 g7 g8 g9 hsz
          generalize tt[2]?.getD undef = y2 at hl
          generalize tt[3]?.getD undef = y3 at hl
          generalize tt[4]?.getD undef = y4 at hl
          generalize tt[5]?.getD undef = y5 at hl
          generalize tt[10]?.getD undef = y10 at hl
          generalize tt[11]?.getD undef = y11 at hl
          generalize tt[12]?.getD undef = y12 at hl
          generalize tt[13]?.getD undef = y13 at hl
          generalize tt[14]?.getD undef = y14 at hl
          generalize tt[15]?.getD undef = y15 at hl
          generalize tt[16]?.getD undef = y16 at hl
          generalize tt[17]?.getD undef = y17 at hl
          generalize tt[18]?.getD undef = y18 at hl
          generalize tt[19]?.getD undef = y19 at hl
          generalize tt[20]?.getD undef = y20 at hl
          generalize tt[21]?.getD undef = y21 at hl
          generalize tt[22]?.getD undef = y22 at hl
          generalize tt[23]?.getD undef = y23 at hl
          generalize tt[24]?.getD undef = y24 at hl
          generalize tt[25]?.getD undef = y25 at hl
          generalize tt[26]?.getD undef = y26 at hl
          generalize tt[27]?.getD undef = y27 at hl
          generalize tt[28]?.getD undef = y28 at hl
          generalize tt[29]?.getD undef = y29 at hl
          generalize tt[30]?.getD undef = y30 at hl
          generalize tt[31]?.getD undef = y31 at hl
          generalize tt[32]?.getD undef = y32 at hl
          generalize tt[33]?.getD undef = y33 at hl
          generalize tt[34]?.getD undef = y34 at hl
          generalize tt[35]?.getD undef = y35 at hl
          generalize tt[36]?.getD undef = y36 at hl
          generalize tt[37]?.getD undef = y37 at hl
          generalize tt[38]?.getD undef = y38 at hl
          generalize tt[39]?.getD undef = y39 at hl
          generalize tt[40]?.getD undef = y40 at hl
          generalize tt[41]?.getD undef = y41 at hl
          generalize tt[42]?.getD undef = y42 at hl
          generalize tt[43]?.getD undef = y43 at hl
          generalize tt[44]?.getD undef = y44 at hl
          subst hl
          go_wp2
          go_step3
          refine And.intro (And.intro rfl ⟨k + 1, l + 1, hlt, .inl HK.out, rfl, rfl, rfl, rfl, by rw [HN.out]; rfl, by rw [Z3.out]; go_num, by go_num, by go_num⟩) ?_
          simp [intOf]; omega
      · have Z3 : Hid (calM xs lv (k + 1) = l + 1) := Lib.hid (Z3.out.trans (Nat.max_eq_right (by omega)))
        by_cases hlt2 : k + 1 < xs.length
        · obtain ⟨b, off, rfl, hb, hc⟩ := h.at_ hlt2
          have HF := Lib.hid h; clear h hb
          cases hg : ltr32 (xs.getD (k + 1) 0) lv
          · have HG := Lib.hid hg; clear hg
            have hf : (FloatKind.f32.format.order (xs.getD (k + 1) 0) lv == some .lt) = false := HG.out
            generalize hx : xs.getD (k + 1) 0 = x at hc hf
            clear hx
            obtain ⟨tt, dd⟩ := act
            simp only at g0 g1 g6 g7 g8 g9 hsz hd
            subst hd
            have hl : tt = #[tt[0]?.getD undef, tt[1]?.getD undef, tt[2]?.getD undef, tt[3]?.getD undef, tt[4]?.getD undef, tt[5]?.getD undef, tt[6]?.getD undef, tt[7]?.getD undef, tt[8]?.getD undef, tt[9]?.getD undef, tt[10]?.getD undef, tt[11]?.getD undef, tt[12]?.getD undef, tt[13]?.getD undef, tt[14]?.getD undef, tt[15]?.getD undef, tt[16]?.getD undef, tt[17]?.getD undef, tt[18]?.getD undef, tt[19]?.getD undef, tt[20]?.getD undef, tt[21]?.getD undef, tt[22]?.getD undef, tt[23]?.getD undef, tt[24]?.getD undef, tt[25]?.getD undef, tt[26]?.getD undef, tt[27]?.getD undef, tt[28]?.getD undef, tt[29]?.getD undef, tt[30]?.getD undef, tt[31]?.getD undef, tt[32]?.getD undef, tt[33]?.getD undef, tt[34]?.getD undef, tt[35]?.getD undef, tt[36]?.getD undef, tt[37]?.getD undef, tt[38]?.getD undef, tt[39]?.getD undef, tt[40]?.getD undef, tt[41]?.getD undef, tt[42]?.getD undef, tt[43]?.getD undef, tt[44]?.getD undef] := (arr_lit hsz).trans rfl
            rw [g0, g1, g6, g7, g8, g9] at hl
            clear g0 g1 g6 g7 g8 g9 hsz
            generalize tt[2]?.getD undef = y2 at hl
            generalize tt[3]?.getD undef = y3 at hl
            generalize tt[4]?.getD undef = y4 at hl
            generalize tt[5]?.getD undef = y5 at hl
            generalize tt[10]?.getD undef = y10 at hl
            generalize tt[11]?.getD undef = y11 at hl
            generalize tt[12]?.getD undef = y12 at hl
            generalize tt[13]?.getD undef = y13 at hl
            generalize tt[14]?.getD undef = y14 at hl
            generalize tt[15]?.getD undef = y15 at hl
            generalize tt[16]?.getD undef = y16 at hl
            generalize tt[17]?.getD undef = y17 at hl
            generalize tt[18]?.getD undef = y18 at hl
            generalize tt[19]?.getD undef = y19 at hl
            generalize tt[20]?.getD undef = y20 at hl
            generalize tt[21]?.getD undef = y21 at hl
            generalize tt[22]?.getD undef = y22 at hl
            generalize tt[23]?.getD undef = y23 at hl
            generalize tt[24]?.getD undef = y24 at hl
            generalize tt[25]?.getD undef = y25 at hl
            generalize tt[26]?.getD undef = y26 at hl
            generalize tt[27]?.getD undef = y27 at hl
            generalize tt[28]?.getD undef = y28 at hl
            generalize tt[29]?.getD undef = y29 at hl
            generalize tt[30]?.getD undef = y30 at hl
            generalize tt[31]?.getD undef = y31 at hl
            generalize tt[32]?.getD undef = y32 at hl
            generalize tt[33]?.getD undef = y33 at hl
            generalize tt[34]?.getD undef = y34 at hl
            generalize tt[35]?.getD undef = y35 at hl
            generalize tt[36]?.getD undef = y36 at hl
            generalize tt[37]?.getD undef = y37 at hl
            generalize tt[38]?.getD undef = y38 at hl
            generalize tt[39]?.getD undef = y39 at hl
            generalize tt[40]?.getD undef = y40 at hl
            generalize tt[41]?.getD undef = y41 at hl
            generalize tt[42]?.getD undef = y42 at hl
            generalize tt[43]?.getD undef = y43 at hl
            generalize tt[44]?.getD undef = y44 at hl
            subst hl
            go_wp2
            go_step3
            refine And.intro (And.intro rfl ⟨k + 1, l + 1, hlt, .inr (.inr HG.out), rfl, rfl, rfl, rfl, by rw [HN.out]; rfl, by rw [Z3.out]; go_num, by go_num, by go_num⟩) ?_
            simp [intOf]; omega
          · have HG := Lib.hid hg; clear hg
            have hf : (FloatKind.f32.format.order (xs.getD (k + 1) 0) lv == some .lt) = true := HG.out
            have Z2 := Lib.hid (cal_old (xs := xs) (lv := lv) (k := k + 1) (by rw [Z1.out]; omega))
            generalize hx : xs.getD (k + 1) 0 = x at hc hf
            clear hx
            obtain ⟨tt, dd⟩ := act
            simp only at g0 g1 g6 g7 g8 g9 hsz hd
            subst hd
            have hl : tt = #[tt[0]?.getD undef, tt[1]?.getD undef, tt[2]?.getD undef, tt[3]?.getD undef, tt[4]?.getD undef, tt[5]?.getD undef, tt[6]?.getD undef, tt[7]?.getD undef, tt[8]?.getD undef, tt[9]?.getD undef, tt[10]?.getD undef, tt[11]?.getD undef, tt[12]?.getD undef, tt[13]?.getD undef, tt[14]?.getD undef, tt[15]?.getD undef, tt[16]?.getD undef, tt[17]?.getD undef, tt[18]?.getD undef, tt[19]?.getD undef, tt[20]?.getD undef, tt[21]?.getD undef, tt[22]?.getD undef, tt[23]?.getD undef, tt[24]?.getD undef, tt[25]?.getD undef, tt[26]?.getD undef, tt[27]?.getD undef, tt[28]?.getD undef, tt[29]?.getD undef, tt[30]?.getD undef, tt[31]?.getD undef, tt[32]?.getD undef, tt[33]?.getD undef, tt[34]?.getD undef, tt[35]?.getD undef, tt[36]?.getD undef, tt[37]?.getD undef, tt[38]?.getD undef, tt[39]?.getD undef, tt[40]?.getD undef, tt[41]?.getD undef, tt[42]?.getD undef, tt[43]?.getD undef, tt[44]?.getD undef] := (arr_lit hsz).trans rfl
            rw [g0, g1, g6, g7, g8, g9] at hl
            clear g0 g1 g6 g7 g8 g9 hsz
            generalize tt[2]?.getD undef = y2 at hl
            generalize tt[3]?.getD undef = y3 at hl
            generalize tt[4]?.getD undef = y4 at hl
            generalize tt[5]?.getD undef = y5 at hl
            generalize tt[10]?.getD undef = y10 at hl
            generalize tt[11]?.getD undef = y11 at hl
            generalize tt[12]?.getD undef = y12 at hl
            generalize tt[13]?.getD undef = y13 at hl
            generalize tt[14]?.getD undef = y14 at hl
            generalize tt[15]?.getD undef = y15 at hl
            generalize tt[16]?.getD undef = y16 at hl
            generalize tt[17]?.getD undef = y17 at hl
            generalize tt[18]?.getD undef = y18 at hl
            generalize tt[19]?.getD undef = y19 at hl
            generalize tt[20]?.getD undef = y20 at hl
            generalize tt[21]?.getD undef = y21 at hl
            generalize tt[22]?.getD undef = y22 at hl
            generalize tt[23]?.getD undef = y23 at hl
            generalize tt[24]?.getD undef = y24 at hl
            generalize tt[25]?.getD undef = y25 at hl
            generalize tt[26]?.getD undef = y26 at hl
            generalize tt[27]?.getD undef = y27 at hl
            generalize tt[28]?.getD undef = y28 at hl
            generalize tt[29]?.getD undef = y29 at hl
            generalize tt[30]?.getD undef = y30 at hl
            generalize tt[31]?.getD undef = y31 at hl
            generalize tt[32]?.getD undef = y32 at hl
            generalize tt[33]?.getD undef = y33 at hl
            generalize tt[34]?.getD undef = y34 at hl
            generalize tt[35]?.getD undef = y35 at hl
            generalize tt[36]?.getD undef = y36 at hl
            generalize tt[37]?.getD undef = y37 at hl
            generalize tt[38]?.getD undef = y38 at hl
            generalize tt[39]?.getD undef = y39 at hl
            generalize tt[40]?.getD undef = y40 at hl
            generalize tt[41]?.getD undef = y41 at hl
            generalize tt[42]?.getD undef = y42 at hl
            generalize tt[43]?.getD undef = y43 at hl
            generalize tt[44]?.getD undef = y44 at hl
            subst hl
            go_wp2
            go_step3
            refine And.intro (And.intro rfl ⟨k + 1, hlt2, HG.out, rfl, rfl, rfl, rfl, by rw [Z2.out, HN.out]; rfl, by rw [Z3.out]; go_num, by rw [Z1.out]; go_num, by go_num⟩) ?_
            simp [intOf]; omega
        · have HF := Lib.hid h; clear h
          have hkk : k + 1 = xs.length := by omega
          have HK := Lib.hid hkk; clear hkk
          obtain ⟨tt, dd⟩ := act
          simp only at g0 g1 g6 g7 g8 g9 hsz hd
          subst hd
          have hl : tt = #[tt[0]?.getD undef, tt[1]?.getD undef, tt[2]?.getD undef, tt[3]?.getD undef, tt[4]?.getD undef, tt[5]?.getD undef, tt[6]?.getD undef, tt[7]?.getD undef, tt[8]?.getD undef, tt[9]?.getD undef, tt[10]?.getD undef, tt[11]?.getD undef, tt[12]?.getD undef, tt[13]?.getD undef, tt[14]?.getD undef, tt[15]?.getD undef, tt[16]?.getD undef, tt[17]?.getD undef, tt[18]?.getD undef, tt[19]?.getD undef, tt[20]?.getD undef, tt[21]?.getD undef, tt[22]?.getD undef, tt[23]?.getD undef, tt[24]?.getD undef, tt[25]?.getD undef, tt[26]?.getD undef, tt[27]?.getD undef, tt[28]?.getD undef, tt[29]?.getD undef, tt[30]?.getD undef, tt[31]?.getD undef, tt[32]?.getD undef, tt[33]?.getD undef, tt[34]?.getD undef, tt[35]?.getD undef, tt[36]?.getD undef, tt[37]?.getD undef, tt[38]?.getD undef, tt[39]?.getD undef, tt[40]?.getD undef, tt[41]?.getD undef, tt[42]?.getD undef, tt[43]?.getD undef, tt[44]?.getD undef] := (arr_lit hsz).trans rfl
          rw [g0, g1, g6, g7, g8, g9] at hl
          clear g0 g1 g6 g7 g8 g9 hsz
          generalize tt[2]?.getD undef = y2 at hl
          generalize tt[3]?.getD undef = y3 at hl
          generalize tt[4]?.getD undef = y4 at hl
          generalize tt[5]?.getD undef = y5 at hl
          generalize tt[10]?.getD undef = y10 at hl
          generalize tt[11]?.getD undef = y11 at hl
          generalize tt[12]?.getD undef = y12 at hl
          generalize tt[13]?.getD undef = y13 at hl
          generalize tt[14]?.getD undef = y14 at hl
          generalize tt[15]?.getD undef = y15 at hl
          generalize tt[16]?.getD undef = y16 at hl
          generalize tt[17]?.getD undef = y17 at hl
          generalize tt[18]?.getD undef = y18 at hl
          generalize tt[19]?.getD undef = y19 at hl
          generalize tt[20]?.getD undef = y20 at hl
          generalize tt[21]?.getD undef = y21 at hl
          generalize tt[22]?.getD undef = y22 at hl
          generalize tt[23]?.getD undef = y23 at hl
          generalize tt[24]?.getD undef = y24 at hl
          generalize tt[25]?.getD undef = y25 at hl
          generalize tt[26]?.getD undef = y26 at hl
          generalize tt[27]?.getD undef = y27 at hl
          generalize tt[28]?.getD undef = y28 at hl
          generalize tt[29]?.getD undef = y29 at hl
          generalize tt[30]?.getD undef = y30 at hl
          generalize tt[31]?.getD undef = y31 at hl
          generalize tt[32]?.getD undef = y32 at hl
          generalize tt[33]?.getD undef = y33 at hl
          generalize tt[34]?.getD undef = y34 at hl
          generalize tt[35]?.getD undef = y35 at hl
          generalize tt[36]?.getD undef = y36 at hl
          generalize tt[37]?.getD undef = y37 at hl
          generalize tt[38]?.getD undef = y38 at hl
          generalize tt[39]?.getD undef = y39 at hl
          generalize tt[40]?.getD undef = y40 at hl
          generalize tt[41]?.getD undef = y41 at hl
          generalize tt[42]?.getD undef = y42 at hl
          generalize tt[43]?.getD undef = y43 at hl
          generalize tt[44]?.getD undef = y44 at hl
          subst hl
          go_wp2
          go_step3
          refine And.intro (And.intro rfl ⟨k + 1, l + 1, hlt, .inl HK.out, rfl, rfl, rfl, rfl, by rw [HN.out]; rfl, by rw [Z3.out]; go_num, by go_num, by go_num⟩) ?_
          simp [intOf]; omega
    · exact hJ.2.elim
def calO (xs : List Nat) : Bool := winV xs
def calRN (xs : List Nat) (lv : Nat) : Nat := if winV xs then calN xs lv xs.length else 0
def calRM (xs : List Nat) (lv : Nat) : Nat := if winV xs then calM xs lv xs.length else 0
theorem i_CalmsOf (A : Option Addr) (cap : Nat) (xs : List Nat) (lv : Nat) (w : World) (h : Fl w A xs) (hn : xs.length ≤ 1048576) :
    Calls Try.prog 36 #[.slice A xs.length cap, .float .f32 lv] w fun e w' => e = .returned (.tuple #[.int .i64 (calRN xs lv), .int .i64 (calRM xs lv), .bool (calO xs)]) ∧ ∃ n, w' = w.drewN n := by
  have HF := Lib.hid h; clear h
  go_enter Try.func36, Try.ntmps36
  go_wp2_with fail
  refine (i_areWinds A cap xs _ HF.out hn).mono ?_
  rintro e w' ⟨rfl, n1, rfl⟩
  cases v : winV xs
  · have V := Lib.hid v; clear v
    go_wp2
    refine bodyPost_ret (results_tmp3 rfl _ _ _) rfl ?_
    exact ⟨by unfold calO calRN calRM; rw [V.out]; rfl, n1, rfl⟩
  · have V := Lib.hid v; clear v
    go_wp2_with fail
    refine (i_calmsIn A cap lv xs _ (HF.out.draws _) (winV_len V.out).2).mono ?_
    rintro e w' ⟨rfl, rfl⟩
    go_wp2
    refine bodyPost_ret (results_tmp3 rfl _ _ _) rfl ?_
    exact ⟨by unfold calO calRN calRM; rw [V.out]; rfl, n1, rfl⟩
theorem s_l00Max (a b : Nat) (w : World) :
    Calls Try.prog 75 #[.int .i64 a, .int .i64 b] w fun e w' => e = .returned (.int .i64 (Nat.max a b)) ∧ w' = w := by
  by_cases h : b < a
  · have H : Hid (Nat.max a b = a) := Lib.hid (Nat.max_eq_left (by omega))
    go_enter Try.func75, Try.ntmps75
    go_wp2
    go_ret
    exact ⟨by rw [H.out]; rfl, rfl⟩
  · have H : Hid (Nat.max a b = b) := Lib.hid (Nat.max_eq_right (by omega))
    go_enter Try.func75, Try.ntmps75
    go_wp2
    go_ret
    exact ⟨by rw [H.out]; rfl, rfl⟩
set_option maxHeartbeats 4000000 in
theorem s_CalmsOf (A : Option Addr) (cap : Nat) (xs : List Nat) (lv : Nat) (w : World) (h : Fl w A xs) (hn : xs.length ≤ 1048576) :
    Calls Try.prog 35 #[.slice A xs.length cap, .float .f32 lv] w fun e w' => e = .returned (.tuple #[.int .i64 (calRN xs lv), .int .i64 (calRM xs lv), .bool (calO xs)]) ∧ ∃ n, w' = w.drewN n := by
  have HF := Lib.hid h; clear h
  go_enter Try.func35, Try.ntmps35
  go_wp2_with fail
  refine (s_l04Winds A cap xs _ HF.out hn).mono ?_
  rintro e w' ⟨rfl, n1, rfl⟩
  cases v : winV xs
  · have V := Lib.hid v; clear v
    go_wp2
    refine bodyPost_ret (results_tmp3 rfl _ _ _) rfl ?_
    exact ⟨by unfold calO calRN calRM; rw [V.out]; rfl, n1, rfl⟩
  · have V := Lib.hid v; clear v
    go_wp2
    go_loopw [7, 8, 9, 10] (fun n l m i wr => ∃ k cn cl cm : Nat, k ≤ xs.length ∧ i = .int .i64 k ∧ n = .int .i64 cn ∧ l = .int .i64 cl ∧ m = .int .i64 cm ∧ Hid (calN xs lv k = cn) ∧ Hid (calL xs lv k = cl) ∧ Hid (calM xs lv k = cm) ∧ cn ≤ k ∧ cl ≤ k ∧ cm ≤ k ∧ wr = w.drewN n1) (fun _ _ _ i _ => xs.length - (intOf i).toNat)
    case atStart => exact ⟨0, 0, 0, 0, Nat.zero_le _, rfl, rfl, rfl, rfl, rfl, rfl, rfl, Nat.le_refl _, Nat.le_refl _, Nat.le_refl _, rfl⟩
    case round =>
      obtain ⟨k, cn, cl, cm, hk, rfl, rfl, rfl, rfl, hN, hL, hM, b1, b2, b3, rfl⟩ := hrel
      by_cases hlt : k < xs.length
      · obtain ⟨b, off, rfl, hb, hc⟩ := (HF.out.draws n1).at_ hlt
        clear hb
        obtain ⟨c1, c2, c3⟩ := cal_le xs lv (k + 1)
        have C1 := Lib.hid c1; clear c1
        have C2 := Lib.hid c2; clear c2
        have C3 := Lib.hid c3; clear c3
        cases hg : ltr32 (xs.getD k 0) lv
        · obtain ⟨z1, z2, z3⟩ := cal_no hg
          have Z1 := Lib.hid z1; clear z1
          have Z2 := Lib.hid (z2.trans hN.out); clear z2
          have Z3 := Lib.hid (z3.trans hM.out); clear z3
          have hf : (FloatKind.f32.format.order (xs.getD k 0) lv == some .lt) = false := hg
          clear hg
          generalize hx : xs.getD k 0 = x at hc hf
          clear hx
          go_wp2
          go_roundw
          case rel => exact ⟨k + 1, cn, 0, cm, by omega, by go_num, rfl, rfl, rfl, Z2, Z1, Z3, by omega, by omega, by omega, by trivial⟩
          case measure => simp [intOf]; omega
        · obtain ⟨z1, z3⟩ := cal_yes hg
          have Z1 := Lib.hid (z1.trans (by rw [hL.out])); clear z1
          have Z3 := Lib.hid (z3.trans (by rw [hL.out, hM.out])); clear z3
          have hf : (FloatKind.f32.format.order (xs.getD k 0) lv == some .lt) = true := hg
          by_cases h0 : cl = 0
          · have Z2 := Lib.hid ((cal_new hg (hL.out.trans h0)).trans (by rw [hN.out])); clear hg
            generalize hx : xs.getD k 0 = x at hc hf
            clear hx
            subst h0
            go_wp2_with fail
            refine (s_l00Max cm 1 _).mono ?_
            rintro e w' ⟨rfl, rfl⟩
            go_wp2
            go_roundw
            case rel => exact ⟨k + 1, cn + 1, 1, Nat.max cm 1, by omega, by go_num, by go_num, rfl, rfl, Z2, Z1, Z3, by omega, by omega, by have := C3.out; rw [Z3.out] at this; exact this, by trivial⟩
            case measure => simp [intOf]; omega
          · have Z2 := Lib.hid ((cal_old (by rw [hL.out]; exact h0)).trans hN.out); clear hg
            generalize hx : xs.getD k 0 = x at hc hf
            clear hx
            go_wp2_with fail
            refine (s_l00Max cm (cl + 1) _).mono ?_
            rintro e w' ⟨rfl, rfl⟩
            go_wp2
            go_roundw
            case rel => exact ⟨k + 1, cn, cl + 1, Nat.max cm (cl + 1), by omega, by go_num, rfl, by go_num, rfl, Z2, Z1, Z3, by omega, by omega, by have := C3.out; rw [Z3.out] at this; exact this, by trivial⟩
            case measure => simp [intOf]; omega
      · have hkk : k = xs.length := by omega
        subst hkk
        go_wp2
        refine bodyPost_ret (results_tmp3 rfl _ _ _) rfl ?_
        exact ⟨by unfold calO calRN calRM; rw [V.out]; simp only [if_true]; rw [hN.out, hM.out]; rfl, n1, rfl⟩
end Go.Proofs.Yteligfbbofgonaa
