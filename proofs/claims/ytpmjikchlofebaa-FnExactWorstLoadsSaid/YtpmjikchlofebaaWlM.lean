/- The worst of loads: mathematics; the program's parts. No statement is proved here. -/
import Derived.Test.YtpmjikchlofebaaLoF
import Derived.Test.YtpmjikchlofebaaLoad
import Derived.Test.YtpmjikchlofebaaMarkI
import Derived.Test.YtpmjikchlofebaaApp
import Derived.BigQuiet
namespace Go.Proofs.Ytpmjikchlofebaa
open Go Go.RowKit
def rowL (ls : List (List Nat)) (i : Nat) : List Nat := ls.getD i []
def wlP (ls : List (List Nat)) (i : Nat) : Bool := ldV (rowL ls i) && decide ((rowL ls i).length = (rowL ls 0).length)
def wlC (ls : List (List Nat)) : Bool := decide (1 ≤ ls.length ∧ ls.length ≤ 32) && alls (wlP ls) ls.length
/-- whose load is the greatest among the first lists -/
def wlI (ls : List (List Nat)) (k : Nat) : Nat → Nat
  | 0 => 0
  | i + 1 => if gtr32 ((rowL ls i).getD k 0) ((rowL ls (wlI ls k i)).getD k 0) then i else wlI ls k i
theorem wlI_lt {ls : List (List Nat)} {k : Nat} (h : 1 ≤ ls.length) : ∀ i, i ≤ ls.length → wlI ls k i < ls.length := by
  intro i; induction i with
  | zero => intro _; exact h
  | succ i ih =>
    intro hi
    simp only [wlI]
    split
    · omega
    · exact ih (by omega)
def wlX (ls : List (List Nat)) (k : Nat) : Nat := (rowL ls (wlI ls k ls.length)).getD k 0
def wlN (ls : List (List Nat)) : Nat := if wlC ls then (rowL ls 0).length else 0
def wlA (ls : List (List Nat)) : List Nat := (List.range (wlN ls)).map (wlX ls)
def wlW (ls : List (List Nat)) : List Int := (List.range (wlN ls)).map fun k => ((wlI ls k ls.length : Nat) : Int)
theorem wlA_len (ls : List (List Nat)) : (wlA ls).length = wlN ls := by simp [wlA]
theorem wlW_len (ls : List (List Nat)) : (wlW ls).length = wlN ls := by simp [wlW]
theorem wlN_no {ls : List (List Nat)} (h : wlC ls = false) : wlN ls = 0 := by unfold wlN; rw [h]; rfl
theorem wlN_yes {ls : List (List Nat)} (h : wlC ls = true) : wlN ls = (rowL ls 0).length := by unfold wlN; rw [h]; rfl
theorem wlA_no {ls : List (List Nat)} (h : wlC ls = false) : wlA ls = [] := by unfold wlA; rw [wlN_no h]; rfl
theorem wlW_no {ls : List (List Nat)} (h : wlC ls = false) : wlW ls = [] := by unfold wlW; rw [wlN_no h]; rfl
theorem wlC_n {ls : List (List Nat)} (h : ¬ (1 ≤ ls.length ∧ ls.length ≤ 32)) : wlC ls = false := by unfold wlC; rw [decide_eq_false h]; rfl
theorem wlC_a {ls : List (List Nat)} {k : Nat} (h : alls (wlP ls) k = false) (hk : k ≤ ls.length) : wlC ls = false := by unfold wlC; rw [alls_no h hk, Bool.and_false]
theorem wlC_yes {ls : List (List Nat)} (h : 1 ≤ ls.length ∧ ls.length ≤ 32) (h2 : alls (wlP ls) ls.length = true) : wlC ls = true := by unfold wlC; rw [decide_eq_true h, h2]; rfl
theorem wlC_len {ls : List (List Nat)} (h : wlC ls = true) : 1 ≤ ls.length ∧ ls.length ≤ 32 := by unfold wlC at h; rw [Bool.and_eq_true] at h; exact of_decide_eq_true h.1
theorem wlC_row {ls : List (List Nat)} (h : wlC ls = true) {i : Nat} (hi : i < ls.length) : (rowL ls i).length = (rowL ls 0).length := by
  unfold wlC at h; rw [Bool.and_eq_true] at h
  have := alls_at h.2 i hi
  unfold wlP at this; rw [Bool.and_eq_true] at this
  exact of_decide_eq_true this.2
theorem wlC_row0 {ls : List (List Nat)} (h : wlC ls = true) : 1 ≤ (rowL ls 0).length ∧ (rowL ls 0).length ≤ 64 := by
  have hl := (wlC_len h).1
  unfold wlC at h; rw [Bool.and_eq_true] at h
  have := alls_at h.2 0 (by omega)
  unfold wlP at this; rw [Bool.and_eq_true] at this
  exact ldV_len this.1
theorem wlN_le (ls : List (List Nat)) : wlN ls ≤ 64 := by
  cases h : wlC ls
  · rw [wlN_no h]; omega
  · rw [wlN_yes h]; exact (wlC_row0 h).2
/-- what both sides return -/
def OwnW (w : World) (B0 : Nat) (A A' : Option Addr) (g g' : Nat) (ls : List (List Nat)) : Prop := OwnO w B0 A g (wlA ls) ∧ OwnOI w B0 A' g' (wlW ls) ∧ (1 ≤ wlN ls → g ≠ g')
theorem OwnW.no {w : World} {B0 : Nat} {ls : List (List Nat)} (h : wlC ls = false) : OwnW w B0 none none 0 0 ls := ⟨.inl (wlA_no h), .inl (wlW_no h), fun h1 => by rw [wlN_no h] at h1; omega⟩
theorem OwnI.putW {w : World} {B : Nat} {ys : List Int} (h : OwnI w B ys) {j : Nat} (hj : j < ys.length) (v : Int) : OwnI (w.setCell ⟨B, j, none⟩ (.int .i64 v)) B (ys.set j v) := by
  refine ⟨by simpa [World.setCell] using h.1, fun k hk => ⟨?_, ?_⟩⟩
  · rw [List.length_set] at hk
    by_cases e : k = j
    · subst e
      rw [World.cell?_setCell_same (h := (h.2 k hk).1)]
      simp [List.getD, hk]
    · rw [World.cell?_setCell_other (h := by intro hh; simp only [Addr.mk.injEq] at hh; omega), (h.2 k hk).1]
      simp [List.getD, List.getElem?_set_ne (Ne.symm e)]
  · rw [List.length_set] at hk
    rw [World.frozen?_setCell]; exact (h.2 k hk).2
theorem Own.putW {w : World} {B k x : Nat} {xs : List Nat} (h : Own w B xs) (hk : k < xs.length) : Own (w.setCell ⟨B, k, none⟩ (.float .f32 x)) B (xs.set k x) := by
  refine ⟨by simpa [World.setCell] using h.1, fun j hj => ?_⟩
  rw [List.length_set] at hj
  have e : (xs.set k x).getD j 0 = if k = j then x else xs.getD j 0 := by
    rw [List.getD_eq_getElem?_getD, List.getD_eq_getElem?_getD, List.getElem?_set]
    split
    · rename_i h; subst h; first | rfl | (rw [if_pos hk]; rfl)
    · rfl
  rw [e]
  refine ⟨?_, by rw [World.frozen?_setCell]; exact (h.2 j hj).2⟩
  by_cases hkj : k = j
  · subst hkj; rw [if_pos rfl, World.cell?_setCell_same (h := (h.2 k hk).1)]
  · rw [if_neg hkj, World.cell?_setCell_other (h := by intro hh; simp only [Addr.mk.injEq] at hh; omega)]; exact (h.2 j hj).1
theorem i_isBinCount (c : Int) (w : World) :
    Calls Try.prog 144 #[.int .i64 c] w fun e w' => e = .returned (.bool (decide (1 ≤ c ∧ c ≤ 32))) ∧ w' = w := by
  by_cases h : 1 ≤ c
  · go_enter Try.func144, Try.ntmps144
    go_wp2
    go_ret
    exact ⟨by simp [h], rfl⟩
  · go_enter Try.func144, Try.ntmps144
    go_wp2
    go_ret
    exact ⟨by simp; omega, rfl⟩
set_option maxHeartbeats 4000000 in
set_option maxRecDepth 100000 in
theorem i_arL1 (l : List Nat) (Ak : Option Addr) (ck Bx : Nat) (A : Option Addr) (cap : Nat) (ls : List (List Nat)) (w : World) (hl : Fl w Ak l) (hn : l.length ≤ 1048576) (hk : w.cell? ⟨Bx, 0, none⟩ = some (.slice A ls.length cap)) (h : FlLL w A ls) (h0 : 0 < ls.length) :
    Calls Try.prog 146 #[.slice Ak l.length ck, .pointer (some ⟨Bx, 0, none⟩)] w fun e w' => ∃ n, e = .returned (.bool (!(ldV l && decide (l.length = (rowL ls 0).length)))) ∧ w' = w.drewN n := by
  obtain ⟨b, off, A0, c0, rfl, -, hc, -⟩ := h.at_ h0
  have hc0 : w.cell? ⟨b, off, none⟩ = some (.slice A0 (rowL ls 0).length c0) := hc
  have HL := Lib.hid hl; clear hl h hc
  generalize (rowL ls 0).length = m at *
  by_cases he : l.length = m
  · have hd : decide (l.length = m) = true := decide_eq_true he
    have hi : (l.length : Int) = (m : Int) := by omega
    rw [hd]
    clear hd he
    go_enter Try.func146, Try.ntmps146
    go_wp2_with fail
    refine (i_areLoads Ak ck l _ HL.out hn).mono ?_
    rintro e w' ⟨he, n, hw⟩
    subst he
    subst hw
    cases hv : ldV l
    · go_wp2
      go_ret
      exact ⟨n, by rw [hv]; rfl, rfl⟩
    · go_wp2
      go_ret
      exact ⟨n, by rw [hv]; simp [hi], rfl⟩
  · have hd : decide (l.length = m) = false := decide_eq_false he
    have hi : ¬ (l.length : Int) = (m : Int) := by omega
    rw [hd]
    clear hd he
    go_enter Try.func146, Try.ntmps146
    go_wp2_with fail
    refine (i_areLoads Ak ck l _ HL.out hn).mono ?_
    rintro e w' ⟨he, n, hw⟩
    subst he
    subst hw
    cases hv : ldV l
    · go_wp2
      go_ret
      exact ⟨n, by rw [hv]; rfl, rfl⟩
    · go_wp2
      go_ret
      exact ⟨n, by rw [hv]; simp [hi], rfl⟩
set_option maxHeartbeats 4000000 in
theorem lib_IndexFunc_arL (Bx : Nat) (A : Option Addr) (cap : Nat) (ls : List (List Nat)) (w : World) (hk : w.cell? ⟨Bx, 0, none⟩ = some (.slice A ls.length cap)) (h : FlLL w A ls) (hn : totL ls ≤ 1048576) :
    Calls Try.prog 166 #[.slice A ls.length cap, .func (.func 146) #[] #[.pointer (some ⟨Bx, 0, none⟩)]] w fun e w' => ∃ (i : Int) (n : Nat), e = .returned (.int .i64 i) ∧ decide (0 ≤ i) = !alls (wlP ls) ls.length ∧ w' = w.drewN n := by
  have H := Lib.hid h; clear h
  have HK := Lib.hid hk; clear hk
  have HN := Lib.hid hn
  have hl : ls.length ≤ 1048576 := by unfold totL at hn; omega
  clear hn
  go_enter Try.func166, Try.ntmps166
  go_wp2
  go_loopw [8] (fun i wr => ∃ k n : Nat, k ≤ ls.length ∧ i = .int .i64 k ∧ Hid (alls (wlP ls) k = true) ∧ wr = w.drewN n) (fun i _ => ls.length - (intOf i).toNat)
  case atStart => exact ⟨0, 0, Nat.zero_le _, rfl, Lib.hid rfl, rfl⟩
  case round =>
    obtain ⟨k, n, hkl, rfl, hr, rfl⟩ := hrel
    by_cases hlt : k < ls.length
    · obtain ⟨b, off, Ak, ck, rfl, -, hc, hfl⟩ := H.out.at_ hlt
      have hle : (rowL ls k).length ≤ 1048576 := by have := sumL_at hlt; have := HN.out; unfold totL at this; unfold rowL; omega
      have HS : Hid (alls (wlP ls) (k + 1) = (ldV (rowL ls k) && decide ((rowL ls k).length = (rowL ls 0).length))) := Lib.hid (by simp only [alls]; rw [hr.out, Bool.true_and]; rfl)
      have HC := Lib.hid (i_arL1 (rowL ls k) Ak ck Bx _ cap ls (w.drewN n) hfl hle HK.out H.out (by omega))
      obtain ⟨p, hp⟩ : ∃ z, z = !(ldV (rowL ls k) && decide ((rowL ls k).length = (rowL ls 0).length)) := ⟨_, rfl⟩
      have HS : Hid (alls (wlP ls) (k + 1) = !p) := Lib.hid (by rw [HS.out, hp, Bool.not_not])
      rw [← hp] at HC
      clear hp
      obtain ⟨m, hm⟩ : ∃ z, z = (rowL ls k).length := ⟨_, rfl⟩
      have hc1 : (w.drewN n).cell? ⟨b, off + k, none⟩ = some (.slice Ak m ck) := by rw [hm]; exact hc
      rw [← hm] at HC
      clear hc hfl hle hm
      go_wp2_with fail
      refine HC.out.mono ?_
      rintro e w' ⟨n2, rfl, rfl⟩
      cases p
      rotate_left
      · have HNO : Hid (alls (wlP ls) ls.length = false) := Lib.hid (alls_no HS.out (by omega))
        go_wp2
        go_ret
        exact ⟨_, _, rfl, by rw [HNO.out]; simp, by first | rfl | exact World.drewN_drewN ..⟩
      · go_wp2
        go_roundw
        case rel => exact ⟨k + 1, _, by omega, by go_num, HS, by first | rfl | (simp only [World.drewN_drewN]; rfl)⟩
        case measure => simp [intOf]; omega
    · have hkk : k = ls.length := by omega
      subst hkk
      go_wp2
      go_ret
      exact ⟨_, n, rfl, by rw [hr.out]; rfl, rfl⟩
theorem lib_ContainsFunc_arL (Bx : Nat) (A : Option Addr) (cap : Nat) (ls : List (List Nat)) (w : World) (hk : w.cell? ⟨Bx, 0, none⟩ = some (.slice A ls.length cap)) (h : FlLL w A ls) (hn : totL ls ≤ 1048576) :
    Calls Try.prog 145 #[.slice A ls.length cap, .func (.func 146) #[] #[.pointer (some ⟨Bx, 0, none⟩)]] w fun e w' => ∃ n, e = .returned (.bool (!alls (wlP ls) ls.length)) ∧ w' = w.drewN n := by
  have H := Lib.hid (lib_IndexFunc_arL Bx A cap ls w hk h hn); clear h hk hn
  go_enter Try.func145, Try.ntmps145
  go_wp2_with fail
  refine H.out.mono ?_
  rintro e w' ⟨i, n, rfl, hi, rfl⟩
  have HI := Lib.hid hi; clear hi
  go_wp2
  go_ret
  exact ⟨n, by rw [← HI.out]; rfl, rfl⟩
theorem i_areListsOfLoads (A : Option Addr) (cap : Nat) (ls : List (List Nat)) (w : World) (h : FlLL w A ls) (hn : totL ls ≤ 1048576) :
    Calls Try.prog 101 #[.slice A ls.length cap] w fun e w' => e = .returned (.bool (wlC ls)) ∧ Below w.heap.size w w' := by
  obtain ⟨w0, hw0⟩ : ∃ z, z = w.alloc (.cells #[.slice A ls.length cap] 58) := ⟨_, rfl⟩
  have B0 : Hid (Below w.heap.size w w0) := Lib.hid (by rw [hw0]; exact (Below.refl _ _).alloc (Nat.le_refl _) _)
  have k0 : w0.cell? ⟨w.heap.size, 0, none⟩ = some (.slice A ls.length cap) := by rw [hw0]; exact ((blkL_at w #[.slice A ls.length cap] 58 rfl).2 0 _ rfl).1
  have HC := Lib.hid (lib_ContainsFunc_arL w.heap.size A cap ls w0 k0 (h.below B0.out) hn)
  clear h hn
  go_enter Try.func101, Try.ntmps101
  go_wp2_with fail
  rw [← hw0]
  clear hw0
  refine (i_isBinCount _ _).mono ?_
  rintro e w' ⟨rfl, hw⟩
  obtain rfl : w0 = w' := hw.symm
  by_cases hb : 1 ≤ ls.length ∧ ls.length ≤ 32
  · have e1 : decide ((1 : Int) ≤ (ls.length : Int) ∧ (ls.length : Int) ≤ 32) = true := decide_eq_true (by omega)
    rw [e1]
    clear e1
    go_wp2_with fail
    refine HC.out.mono ?_
    rintro e w' ⟨n, rfl, rfl⟩
    go_wp2
    go_ret
    exact ⟨by unfold wlC; rw [decide_eq_true hb]; simp, below_draws B0.out _⟩
  · have e1 : decide ((1 : Int) ≤ (ls.length : Int) ∧ (ls.length : Int) ≤ 32) = false := decide_eq_false (by omega)
    have HN := Lib.hid (wlC_n hb)
    rw [e1]
    clear e1 hb
    go_wp2
    go_ret
    exact ⟨by rw [HN.out]; rfl, B0.out⟩
set_option maxHeartbeats 4000000 in
theorem i_wl1 (la lb : List Nat) (Aa Ab : Option Addr) (ca cb Bi k : Nat) (w : World) (ha : Fl w Aa la) (hb : Fl w Ab lb) (hka : k < la.length) (hkb : k < lb.length) (hk : w.cell? ⟨Bi, 0, none⟩ = some (.int .i64 k)) :
    Calls Try.prog 103 #[.slice Aa la.length ca, .slice Ab lb.length cb, .pointer (some ⟨Bi, 0, none⟩)] w fun e w' => ∃ n, e = .returned (.bool (gtr32 (la.getD k 0) (lb.getD k 0))) ∧ w' = w.drewN n := by
  obtain ⟨ba, oa, rfl, -, hca⟩ := ha.at_ hka
  obtain ⟨bb, ob, rfl, -, hcb⟩ := hb.at_ hkb
  clear ha hb
  generalize la.getD k 0 = x at hca ⊢
  generalize lb.getD k 0 = y at hcb ⊢
  go_enter Try.func103, Try.ntmps103
  go_wp2_with fail
  go_quiet (fail)
  go_wp2
  go_ret
  exact ⟨_, rfl, rfl⟩
set_option maxHeartbeats 4000000 in
theorem i_wl2 (Bx gb gw i j n cw : Nat) (A : Option Addr) (cap : Nat) (ls : List (List Nat)) (w : World) (h : FlLL w A ls) (hx : w.cell? ⟨Bx, 0, none⟩ = some (.slice A ls.length cap)) (hb : w.cell? ⟨gb, 0, none⟩ = some (.slice (some ⟨gw, 0, none⟩) n cw)) (hi : i < n) (hw : w.cell? ⟨gw, i, none⟩ = some (.int .i64 j)) (hj : j < ls.length) (hr : i < (rowL ls j).length) :
    Calls Try.prog 104 #[.int .i64 i, .pointer (some ⟨Bx, 0, none⟩), .pointer (some ⟨gb, 0, none⟩)] w fun e w' => e = .returned (.float .f32 ((rowL ls j).getD i 0)) ∧ Below w.heap.size w w' := by
  obtain ⟨b, off, Aj, cj, rfl, -, hc, hfl⟩ := h.at_ hj
  obtain ⟨bj, oj, rfl, -, hcj⟩ := hfl.at_ hr
  have hw0 : w.cell? ⟨gw, 0 + i, none⟩ = some (.int .i64 j) := by rw [Nat.zero_add]; exact hw
  have hc1 : w.cell? ⟨b, off + j, none⟩ = some (.slice (some ⟨bj, oj, none⟩) (rowL ls j).length cj) := hc
  have hcj1 : w.cell? ⟨bj, oj + i, none⟩ = some (.float .f32 ((rowL ls j).getD i 0)) := hcj
  clear h hfl hc hcj
  generalize (rowL ls j).getD i 0 = x at *
  generalize (rowL ls j).length = m at *
  go_enter Try.func104, Try.ntmps104
  go_wp2_with fail
  go_quiet (fail)
  go_wp2
  go_ret
  exact ⟨rfl, by repeat (first | exact Below.refl _ _ | refine below_draws ?_ _)⟩
set_option maxHeartbeats 4000000 in
theorem i_listOf_wl (c0 c1 : Value) (q : Nat → Nat) (n : Nat) (w : World) (hn : n ≤ 1048576)
    (hat : ∀ k, k < n → ∀ wr, Below w.heap.size w wr → Calls Try.prog 104 #[.int .i64 k, c0, c1] wr fun e w' => e = .returned (.float .f32 (q k)) ∧ Below wr.heap.size wr w') :
    Calls Try.prog 66 #[.int .i64 n, .func (.func 104) #[] #[c0, c1]] w fun e w' => ∃ (A : Option Addr) (xs : List Nat), e = .returned (.slice A n n) ∧ xs.length = n ∧ (∀ k, k < n → xs.getD k 0 = q k) ∧ Below w.heap.size w w' ∧ A = some ⟨w.heap.size, 0, none⟩ ∧ Own w' w.heap.size xs := by
  have hmk := make_f32 n w hn
  have HA := Lib.hid hat; clear hat
  go_enter Try.func66, Try.ntmps66
  go_wp2
  go_loopw [11] (fun i wr => ∃ (k : Nat) (ys : List Nat), k ≤ n ∧ i = .int .i64 k ∧ FlNew w wr w.heap.size n k ys ∧ ys.length = n ∧ Hid (∀ j, j < k → ys.getD j 0 = q j)) (fun i _ => n - (intOf i).toNat)
  case atStart => exact ⟨0, List.replicate n 0, Nat.zero_le _, rfl, FlNew.start .., by simp, Lib.hid (fun j hj => absurd hj (Nat.not_lt_zero j))⟩
  case round =>
    obtain ⟨k, ys, hk, rfl, hnew, hlen, hq⟩ := hrel
    clear hmk
    by_cases hlt : k < n
    · have hcall := HA.out k hlt _ hnew.1
      have HN := Lib.hid hnew; clear hnew
      have hwr : IntKind.i64.wrap ((k : Int) + 1) = (k : Int) + 1 := IntWalk.i64_in _ (by omega)
      go_wp2_with fail
      refine hcall.mono ?_
      rintro e w1 ⟨rfl, b1⟩
      have hn1 := HN.out.below b1
      obtain ⟨hc2, hc3⟩ := hn1.2.2.2 k hlt
      rw [if_neg (by omega)] at hc2
      have hst := (hn1.congr (ys := ys.set k (q k)) (fun j hj => by rw [getD_lset (by omega), if_neg (by omega)])).step hlt
      rw [getD_lset (by omega), if_pos rfl] at hst
      have HS := Lib.hid hst
      have HQ : Hid (∀ j, j < k + 1 → (ys.set k (q k)).getD j 0 = q j) := Lib.hid (fun j hj => by
        rw [getD_lset (by omega)]
        by_cases e : k = j
        · rw [if_pos e, e]
        · rw [if_neg e]; exact hq.out j (by omega))
      clear hst hn1 b1 hcall
      go_wp2
      go_roundw
      case rel => exact ⟨k + 1, ys.set k (q k), by omega, by go_num, HS.out, by simp [hlen], HQ⟩
      case measure => simp [intOf]; omega
    · have HN := Lib.hid hnew; clear hnew
      have hkk : k = n := by omega
      subst hkk
      go_wp2
      go_ret
      exact ⟨_, ys, rfl, hlen, hq.out, HN.out.1, rfl, by subst hlen; exact Own.of_new HN.out (Nat.le_refl _)⟩
set_option maxHeartbeats 4000000 in
theorem i_leastW (Bi k : Nat) (A : Option Addr) (cap : Nat) (ls : List (List Nat)) (w : World) (h : FlLL w A ls) (hk : w.cell? ⟨Bi, 0, none⟩ = some (.int .i64 k)) (hall : ∀ i, i < ls.length → k < (rowL ls i).length) (h1 : 1 ≤ ls.length) (h2 : ls.length ≤ 32) :
    Calls Try.prog 102 #[.slice A ls.length cap, .func (.func 103) #[] #[.pointer (some ⟨Bi, 0, none⟩)]] w fun e w' => ∃ n, e = .returned (.int .i64 (wlI ls k ls.length : Nat)) ∧ w' = w.drewN n := by
  have H := Lib.hid h; clear h
  have HK := Lib.hid hk; clear hk
  have HA := Lib.hid hall; clear hall
  go_enter Try.func102, Try.ntmps102
  go_wp2
  go_loopw [5, 10] (fun l i wr => ∃ i0 n : Nat, i0 ≤ ls.length ∧ i = .int .i64 i0 ∧ l = .int .i64 (wlI ls k i0 : Nat) ∧ wr = w.drewN n) (fun _ i _ => ls.length - (intOf i).toNat)
  case atStart => exact ⟨0, 0, Nat.zero_le _, rfl, rfl, rfl⟩
  case round =>
    obtain ⟨i, n, hi, rfl, rfl, rfl⟩ := hrel
    by_cases hlt : i < ls.length
    · have hml : wlI ls k i < ls.length := wlI_lt h1 i (by omega)
      obtain ⟨b, off, Ai, ci, rfl, -, hc, hfl⟩ := H.out.at_ hlt
      obtain ⟨b', off', Am, cm, hE, -, hcm, hflm⟩ := H.out.at_ hml
      obtain ⟨rfl, rfl⟩ : b = b' ∧ off = off' := by simpa using hE
      clear hE
      have HC := Lib.hid (i_wl1 (rowL ls i) (rowL ls (wlI ls k i)) Ai Am ci cm Bi k (w.drewN n) hfl hflm (HA.out i hlt) (HA.out _ hml) HK.out)
      have HI : Hid (wlI ls k (i + 1) = if gtr32 ((rowL ls i).getD k 0) ((rowL ls (wlI ls k i)).getD k 0) then i else wlI ls k i) := Lib.hid rfl
      obtain ⟨n1, hn1⟩ : ∃ z, z = (rowL ls i).length := ⟨_, rfl⟩
      obtain ⟨n2, hn2⟩ : ∃ z, z = (rowL ls (wlI ls k i)).length := ⟨_, rfl⟩
      have hc1 : (w.drewN n).cell? ⟨b, off + i, none⟩ = some (.slice Ai n1 ci) := by rw [hn1]; exact hc
      have hc2 : (w.drewN n).cell? ⟨b, off + wlI ls k i, none⟩ = some (.slice Am n2 cm) := by rw [hn2]; exact hcm
      rw [← hn1, ← hn2] at HC
      clear hc hcm hfl hflm hn1 hn2
      generalize gtr32 ((rowL ls i).getD k 0) ((rowL ls (wlI ls k i)).getD k 0) = p at HC HI
      generalize wlI ls k i = m at *
      go_wp2_with fail
      refine HC.out.mono ?_
      rintro e w' ⟨n3, rfl, rfl⟩
      cases p
      · go_wp2
        go_roundw
        case rel => exact ⟨i + 1, _, by omega, by go_num, by rw [HI.out]; rfl, by first | rfl | (simp only [World.drewN_drewN]; rfl)⟩
        case measure => simp [intOf]; omega
      · go_wp2
        go_roundw
        case rel => exact ⟨i + 1, _, by omega, by go_num, by rw [HI.out]; rfl, by first | rfl | (simp only [World.drewN_drewN]; rfl)⟩
        case measure => simp [intOf]; omega
    · have hkk : i = ls.length := by omega
      subst hkk
      go_wp2
      go_ret
      exact ⟨n, rfl, rfl⟩
end Go.Proofs.Ytpmjikchlofebaa
