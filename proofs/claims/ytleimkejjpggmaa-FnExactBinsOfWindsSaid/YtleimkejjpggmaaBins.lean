/- BinsOfWinds: both sides. No statement is proved here. -/
import Derived.Test.YtleimkejjpggmaaBinM
import Derived.Test.YtleimkejjpggmaaMarkI
import Derived.IntWalk
namespace Go.Proofs.Ytleimkejjpggmaa
open Go Go.RowKit
def binAt (xs : List Nat) (d : Nat) (c : Int) (k : Nat) : Nat := (binN (fop .quo .f32 (canon .f32 (xs.getD k 0)) (canon .f32 d)) c).toNat
def binsK (xs : List Nat) (d : Nat) (c : Int) : Nat → List Int
  | 0 => List.replicate c.toNat 0
  | k + 1 => (binsK xs d c k).set (binAt xs d c k) (wrap64 ((binsK xs d c k).getD (binAt xs d c k) 0 + 1))
theorem binsK_length (xs : List Nat) (d : Nat) (c : Int) (k : Nat) : (binsK xs d c k).length = c.toNat := by
  induction k with
  | zero => simp [binsK]
  | succ k ih => simp [binsK, ih]
def binsO (xs : List Nat) (d : Nat) (c : Int) : Bool := winV xs && (posi d && decide (1 ≤ c ∧ c ≤ 16))
def binsL (xs : List Nat) (d : Nat) (c : Int) : List Int := if binsO xs d c then binsK xs d c xs.length else []
theorem binsL_few (xs : List Nat) (d : Nat) (c : Int) : (binsL xs d c).length ≤ 1048576 := by
  unfold binsL
  split
  · rename_i h
    unfold binsO at h
    simp only [Bool.and_eq_true, decide_eq_true_eq] at h
    rw [binsK_length]; omega
  · exact Nat.zero_le _
theorem winV_each {xs : List Nat} (h : winV xs = true) : ∀ j, j < xs.length → amount (xs.getD j 0) = true := by
  unfold winV at h
  rw [Bool.and_eq_true] at h
  have : ∀ n, amts xs n = true → ∀ j, j < n → amount (xs.getD j 0) = true := by
    intro n
    induction n with
    | zero => intro _ j hj; omega
    | succ n ih =>
      intro h j hj
      have h' : (amts xs n && amount (xs.getD n 0)) = true := h
      rw [Bool.and_eq_true] at h'
      by_cases e : j = n
      · subst e; exact h'.2
      · exact ih h'.1 j (by omega)
  exact this _ h.2
theorem OwnI.start {w : World} (n : Nat) (E : TypeId) : OwnI (w.alloc (.cells (madeCells #[.int .i64 0] n) E)) w.heap.size (List.replicate n 0) := by
  refine ⟨by simp, fun j hj => ⟨?_, ?_⟩⟩
  · rw [List.length_replicate] at hj
    rw [World.cell?_alloc_at (w := w) (hn := rfl)]
    simp [madeCells, hj, Nat.mod_one, List.getD]
  · rw [World.frozen?_alloc_at (w := w) (hn := rfl)]
theorem OwnI.put {w : World} {B : Nat} {ys : List Int} (h : OwnI w B ys) {j : Nat} (hj : j < ys.length) (v : Int) : OwnI (w.setCell ⟨B, j, none⟩ (.int .i64 v)) B (ys.set j v) := by
  refine ⟨by simpa [World.setCell] using h.1, fun k hk => ⟨?_, ?_⟩⟩
  · rw [List.length_set] at hk
    by_cases e : k = j
    · subst e
      rw [World.cell?_setCell_same (h := (h.2 k hk).1)]
      simp [List.getD, hk]
    · rw [World.cell?_setCell_other (h := by intro hh; simp only [Addr.mk.injEq] at hh; omega), (h.2 k hk).1]
      simp [List.getD, List.getElem?_set_ne (Ne.symm e)]
  · rw [List.length_set] at hk
    rw [World.frozen?_setCell]; exact (h.2 k hk).2
/-- the facts of one wind -/
structure BinQ (x d : Nat) (c : Int) : Prop where
  q1 : ∀ w, fopV .quo .f32 x d w = fop .quo .f32 (canon .f32 x) (canon .f32 d)
  q2 : fopN .quo .f32 x d = 0
  w1 : ∀ w, wideV (fop .quo .f32 (canon .f32 x) (canon .f32 d)) w = wide (fop .quo .f32 (canon .f32 x) (canon .f32 d))
  w2 : wideN (fop .quo .f32 (canon .f32 x) (canon .f32 d)) = 0
  f : BinF (fop .quo .f32 (canon .f32 x) (canon .f32 d)) c
theorem binQ_of {x d : Nat} {c : Int} (hx : amount x = true) (hd : posi d = true) (h1 : 1 ≤ c) (h2 : c ≤ 16) : BinQ x d c := by
  have e1 : canon .f32 x = x := by
    unfold amount at hx; rw [Bool.and_eq_true] at hx; exact canon_of_not (isn_of_fin hx.1)
  have e2 : canon .f32 d = d := by
    unfold posi at hd; rw [Bool.and_eq_true] at hd; exact canon_of_not (isn_of_fin hd.1)
  have hq := quo_up hx hd
  have hn := up_isn hq
  obtain ⟨s1, s2⟩ := fop_sure hn
  obtain ⟨w1, w2⟩ := wide_sure hn
  refine ⟨?_, ?_, ?_, ?_, ?_⟩ <;> (try simp only [e1, e2])
  · exact s1
  · exact s2
  · exact w1
  · exact w2
  · exact binF_of hq h1 h2
theorem i_isSecCount (c : Int) (w : World) :
    Calls Try.prog 50 #[.int .i64 c] w fun e w' => e = .returned (.bool (decide (1 ≤ c ∧ c ≤ 16))) ∧ w' = w := by
  by_cases h : 1 ≤ c
  · go_enter Try.func50, Try.ntmps50
    go_wp2
    go_ret
    exact ⟨by simp [h], rfl⟩
  · go_enter Try.func50, Try.ntmps50
    go_wp2
    go_ret
    exact ⟨by simp; omega, rfl⟩
theorem i_binOf (q : Nat) (c : Int) (w : World) (h1 : 1 ≤ c) (h2 : c ≤ 16) (h : BinF q c) :
    Calls Try.prog 51 #[.float .f32 q, .int .i64 c] w fun e w' => e = .returned (.int .i64 (binN q c)) ∧ w' = w := by
  obtain ⟨g, i, -, -, -⟩ := h
  unfold geq32 at g
  cases hb : decide (c ≤ (wholeF q : Int))
  · rw [hb] at g
    have hlt := of_decide_eq_false hb
    have hc : (convert 26 2 (.float .f32 q)).run Try.prog w = .ok (.int .i64 (wholeF q : Int)) w := run_convert_float_int w _ _ .f32 .i64 _ _ (by kernel_rfl) (by kernel_rfl) (i hlt)
    have HB : Hid (binN q c = (wholeF q : Int)) := Lib.hid (by unfold binN; rw [if_neg hlt])
    clear i hlt hb
    go_enter Try.func51, Try.ntmps51
    go_wp2
    go_ret
    exact ⟨by rw [HB.out]; rfl, rfl⟩
  · rw [hb] at g
    have HB : Hid (binN q c = c - 1) := Lib.hid (by unfold binN; rw [if_pos (of_decide_eq_true hb)])
    clear i hb
    go_enter Try.func51, Try.ntmps51
    go_wp2
    go_ret
    exact ⟨by rw [HB.out]; rfl, rfl⟩
theorem binsO_w {xs : List Nat} {d : Nat} {c : Int} (h : winV xs = false) : binsO xs d c = false := by unfold binsO; rw [h]; rfl
theorem binsO_p {xs : List Nat} {d : Nat} {c : Int} (h : posi d = false) : binsO xs d c = false := by unfold binsO; rw [h]; simp
theorem binsO_c {xs : List Nat} {d : Nat} {c : Int} (h : ¬ (1 ≤ c ∧ c ≤ 16)) : binsO xs d c = false := by unfold binsO; rw [decide_eq_false h]; simp
theorem binsO_yes {xs : List Nat} {d : Nat} {c : Int} (h1 : winV xs = true) (h2 : posi d = true) (h3 : 1 ≤ c ∧ c ≤ 16) : binsO xs d c = true := by unfold binsO; rw [h1, h2, decide_eq_true h3]; rfl
theorem binsL_no {xs : List Nat} {d : Nat} {c : Int} (h : binsO xs d c = false) : binsL xs d c = [] := by unfold binsL; rw [if_neg (by rw [h]; decide)]
theorem binsL_yes {xs : List Nat} {d : Nat} {c : Int} (h : binsO xs d c = true) : binsL xs d c = binsK xs d c xs.length := by unfold binsL; rw [if_pos h]
/-- what is so before the k-th wind -/
structure BinS (w : World) (xs : List Nat) (d : Nat) (n B : Nat) (k : Nat) (wr : World) : Prop where
  b : Below w.heap.size w wr
  h : w.heap.size ≤ B
  o : OwnI wr B (binsK xs d n k)
theorem BinS.step {w wr : World} {xs : List Nat} {d n B k j : Nat} (h : BinS w xs d n B k wr) (hj : binAt xs d n k = j) (hjn : j < n) {v : Int} (hv : (binsK xs d n k).getD j 0 = v) :
    BinS w xs d n B (k + 1) (wr.setCell ⟨B, j, none⟩ (.int .i64 (wrap64 (v + 1)))) := by
  obtain ⟨h1, h2, h3⟩ := h
  refine ⟨h1.setCell (p := ⟨B, j, none⟩) (by show w.heap.size ≤ B; exact h2) _, h2, ?_⟩
  simp only [binsK, hj, hv]
  exact h3.put (by rw [binsK_length]; omega) _
theorem BinS.cell {w wr : World} {xs : List Nat} {d n B k j : Nat} (h : BinS w xs d n B k wr) (hjn : j < n) : wr.cell? ⟨B, j, none⟩ = some (.int .i64 ((binsK xs d n k).getD j 0)) ∧ wr.frozen? ⟨B, j, none⟩ = false :=
  h.o.2 j (by rw [binsK_length]; omega)
set_option maxHeartbeats 8000000 in
theorem i_BinsOfWinds (A : Option Addr) (cap : Nat) (xs : List Nat) (d : Nat) (c : Int) (w : World) (h : Fl w A xs) (hn : xs.length ≤ 1048576) :
    Calls Try.prog 15 #[.slice A xs.length cap, .float .f32 d, .int .i64 c] w fun e w' => ∃ A' cp b, e = .returned (.tuple #[.slice A' (binsL xs d c).length cp, .bool (binsO xs d c)]) ∧ OwnOI w' w.heap.size A' b (binsL xs d c) ∧ Below w.heap.size w w' := by
  have HF := Lib.hid h; clear h
  go_enter Try.func15, Try.ntmps15
  go_wp2_with fail
  refine (i_areWinds A cap xs _ HF.out hn).mono ?_
  rintro e w1 ⟨rfl, n1, hw⟩
  have B1 : Hid (Below w.heap.size w w1) := Lib.hid (by rw [hw]; exact below_draws (Below.refl _ _) _)
  clear hw
  cases v : winV xs
  · have HN := Lib.hid (binsO_w (d := d) (c := c) v); clear v
    go_wp2
    go_ret2
    exact ⟨none, 0, 0, by rw [HN.out, binsL_no HN.out]; rfl, .inl (binsL_no HN.out), B1.out⟩
  · have V := Lib.hid v
    have HAM := Lib.hid (winV_each v)
    clear v
    go_wp2_with fail
    refine (i_isPositive _ _).mono ?_
    rintro e w2 ⟨n2, rfl, hw⟩
    have B2 : Hid (Below w.heap.size w w2) := Lib.hid (by rw [hw]; exact below_draws B1.out _)
    clear hw
    cases p : posi d
    · have HN := Lib.hid (binsO_p (xs := xs) (c := c) p); clear p
      go_wp2
      go_ret2
      exact ⟨none, 0, 0, by rw [HN.out, binsL_no HN.out]; rfl, .inl (binsL_no HN.out), B2.out⟩
    · have HP := Lib.hid p; clear p
      go_wp2_with fail
      refine (i_isSecCount _ _).mono ?_
      rintro e w3 ⟨rfl, rfl⟩
      by_cases hc : 1 ≤ c ∧ c ≤ 16
      · obtain ⟨n, rfl⟩ : ∃ n : Nat, c = n := ⟨c.toNat, by omega⟩
        have HY := Lib.hid (binsO_yes V.out HP.out hc)
        rw [decide_eq_true hc]
        obtain ⟨c1, c2⟩ := hc
        have hmk := make_i64 n w3 (by omega)
        obtain ⟨B, hB⟩ : ∃ B, B = w3.heap.size := ⟨_, rfl⟩
        have HS : Hid (BinS w xs d n B 0 (w3.alloc (.cells (madeCells #[.int .i64 0] n) 2))) := Lib.hid ⟨B2.out.alloc B2.out.size _, by rw [hB]; exact B2.out.size, by rw [hB]; exact OwnI.start n _⟩
        rw [← hB] at hmk
        clear hB
        go_wp2
        go_loopw [28] (fun i wr => ∃ k : Nat, k ≤ xs.length ∧ i = .int .i64 k ∧ Hid (BinS w xs d n B k wr)) (fun i _ => xs.length - (intOf i).toNat)
        case atStart => exact ⟨0, Nat.zero_le _, rfl, HS⟩
        case round =>
          obtain ⟨k, hk, rfl, HR⟩ := hrel
          clear hmk HS
          by_cases hlt : k < xs.length
          · obtain ⟨b, off, rfl, hb, hx⟩ := HF.out.at_ hlt
            have hx1 := HR.out.b.cell (p := ⟨b, off + k, none⟩) hb
            rw [hx] at hx1
            obtain ⟨q1, q2, -, -, qf⟩ := binQ_of (HAM.out k hlt) HP.out c1 c2
            have hbin := binN_in (fop .quo .f32 (canon .f32 (xs.getD k 0)) (canon .f32 d)) c1
            have HJ : Hid (binAt xs d n k = (binN (fop .quo .f32 (canon .f32 (xs.getD k 0)) (canon .f32 d)) n).toNat) := Lib.hid rfl
            have HQ := Lib.hid qf
            clear qf hx hb
            generalize fop .quo .f32 (canon .f32 (xs.getD k 0)) (canon .f32 d) = q at *
            generalize xs.getD k 0 = x at *
            go_wp2_with fail
            refine (i_binOf _ _ _ c1 c2 HQ.out).mono ?_
            rintro e wr2 ⟨rfl, rfl⟩
            obtain ⟨j, hj⟩ : ∃ j : Nat, binN q n = j := ⟨(binN q n).toNat, by omega⟩
            rw [hj] at HJ hbin
            have HJ2 : Hid (binAt xs d n k = j) := Lib.hid (by rw [HJ.out]; rfl)
            rw [hj]
            obtain ⟨cc, cf⟩ := HR.out.cell (j := j) (by omega)
            have hjn : j < n := by omega
            obtain ⟨v, hv⟩ : ∃ v, v = (binsK xs d n k).getD j 0 := ⟨_, rfl⟩
            rw [← hv] at cc
            have HT : Hid (BinS w xs d n B (k + 1) (wr2.setCell ⟨B, j, none⟩ (.int .i64 (wrap64 (v + 1))))) := Lib.hid (HR.out.step HJ2.out hjn hv.symm)
            clear hv HJ HR HJ2 hj hbin q1 q2 hx1 HQ
            go_wp2
            go_roundw
            case rel => exact ⟨k + 1, by omega, by go_num, HT⟩
            case measure => simp [intOf]; omega
          · have hkk : k = xs.length := by omega
            subst hkk
            go_wp2
            go_ret2
            refine ⟨some ⟨B, 0, none⟩, n, B, by rw [HY.out, binsL_yes HY.out, binsK_length]; rfl, .inr ⟨rfl, HR.out.h, by rw [binsL_yes HY.out]; exact HR.out.o⟩, HR.out.b⟩
      · have HN := Lib.hid (binsO_c (xs := xs) (d := d) hc)
        rw [decide_eq_false hc]
        clear hc
        go_wp2
        go_ret2
        exact ⟨none, 0, 0, by rw [HN.out, binsL_no HN.out]; rfl, .inl (binsL_no HN.out), B2.out⟩
set_option maxHeartbeats 8000000 in
set_option maxRecDepth 20000 in
theorem s_BinsOfWinds (A : Option Addr) (cap : Nat) (xs : List Nat) (d : Nat) (c : Int) (w : World) (h : Fl w A xs) (hn : xs.length ≤ 1048576) :
    Calls Try.prog 13 #[.slice A xs.length cap, .float .f32 d, .int .i64 c] w fun e w' => ∃ A' cp b, e = .returned (.tuple #[.slice A' (binsL xs d c).length cp, .bool (binsO xs d c)]) ∧ OwnOI w' w.heap.size A' b (binsL xs d c) ∧ Below w.heap.size w w' := by
  have HF := Lib.hid h; clear h
  go_enter Try.func13, Try.ntmps13
  go_wp2_with fail
  refine (s_l04Winds A cap xs _ HF.out hn).mono ?_
  rintro e w1 ⟨rfl, n1, hw⟩
  have B1 : Hid (Below w.heap.size w w1) := Lib.hid (by rw [hw]; exact below_draws (Below.refl _ _) _)
  clear hw
  cases v : winV xs
  · have HN := Lib.hid (binsO_w (d := d) (c := c) v); clear v
    go_wp2
    go_ret2
    exact ⟨none, 0, 0, by rw [HN.out, binsL_no HN.out]; rfl, .inl (binsL_no HN.out), B1.out⟩
  · have V := Lib.hid v
    have HAM := Lib.hid (winV_each v)
    clear v
    go_wp2_with fail
    refine (s_l02Above _ _).mono ?_
    rintro e w2 ⟨n2, rfl, hw⟩
    have B2 : Hid (Below w.heap.size w w2) := Lib.hid (by rw [hw]; exact below_draws B1.out _)
    clear hw
    cases p : posi d
    · have HN := Lib.hid (binsO_p (xs := xs) (c := c) p); clear p
      go_wp2
      go_ret2
      exact ⟨none, 0, 0, by rw [HN.out, binsL_no HN.out]; rfl, .inl (binsL_no HN.out), B2.out⟩
    · have HP := Lib.hid p; clear p
      go_wp2_with fail
      refine (s_l00In _ _ _ _).mono ?_
      rintro e w3 ⟨rfl, rfl⟩
      rw [show (decide ((1 : Int) ≤ c) && decide (c ≤ 16)) = decide (1 ≤ c ∧ c ≤ 16) by simp]
      by_cases hc : 1 ≤ c ∧ c ≤ 16
      · obtain ⟨n, rfl⟩ : ∃ n : Nat, c = n := ⟨c.toNat, by omega⟩
        have HY := Lib.hid (binsO_yes V.out HP.out hc)
        rw [decide_eq_true hc]
        obtain ⟨c1, c2⟩ := hc
        have hmk := make_i64 n w3 (by omega)
        obtain ⟨B, hB⟩ : ∃ B, B = w3.heap.size := ⟨_, rfl⟩
        have HS : Hid (BinS w xs d n B 0 (w3.alloc (.cells (madeCells #[.int .i64 0] n) 2))) := Lib.hid ⟨B2.out.alloc B2.out.size _, by rw [hB]; exact B2.out.size, by rw [hB]; exact OwnI.start n _⟩
        rw [← hB] at hmk
        clear hB
        go_wp2
        go_loopw [9] (fun i wr => ∃ k : Nat, k ≤ xs.length ∧ i = .int .i64 k ∧ Hid (BinS w xs d n B k wr)) (fun i _ => xs.length - (intOf i).toNat)
        case atStart => exact ⟨0, Nat.zero_le _, rfl, HS⟩
        case round =>
          obtain ⟨k, hk, rfl, HR⟩ := hrel
          clear hmk HS
          by_cases hlt : k < xs.length
          · obtain ⟨b, off, rfl, hb, hx⟩ := HF.out.at_ hlt
            have hx1 := HR.out.b.cell (p := ⟨b, off + k, none⟩) hb
            rw [hx] at hx1
            obtain ⟨q1, q2, v1, v2, qf⟩ := binQ_of (HAM.out k hlt) HP.out c1 c2
            have hbin := binN_in (fop .quo .f32 (canon .f32 (xs.getD k 0)) (canon .f32 d)) c1
            have HJ : Hid (binAt xs d n k = (binN (fop .quo .f32 (canon .f32 (xs.getD k 0)) (canon .f32 d)) n).toNat) := Lib.hid rfl
            have hwc : wrap64 ((n : Int) - 1) = (n : Int) - 1 := IntWalk.wrap64_in _ (by omega)
            have HQ := Lib.hid qf
            clear qf hx hb
            generalize fop .quo .f32 (canon .f32 (xs.getD k 0)) (canon .f32 d) = q at *
            generalize xs.getD k 0 = x at *
            go_wp2_with fail
            refine (m_Floor _ HQ.out.n _).mono ?_
            rintro e wr2 ⟨rfl, rfl⟩
            obtain ⟨j, hj⟩ : ∃ j : Nat, binN q n = j := ⟨(binN q n).toNat, by omega⟩
            rw [hj] at HJ hbin
            have HJ2 : Hid (binAt xs d n k = j) := Lib.hid (by rw [HJ.out]; rfl)
            obtain ⟨cc, cf⟩ := HR.out.cell (j := j) (by omega)
            have hjn : j < n := by omega
            obtain ⟨v, hv⟩ : ∃ v, v = (binsK xs d n k).getD j 0 := ⟨_, rfl⟩
            rw [← hv] at cc
            have HT : Hid (BinS w xs d n B (k + 1) (wr2.setCell ⟨B, j, none⟩ (.int .i64 (wrap64 (v + 1))))) := Lib.hid (HR.out.step HJ2.out hjn hv.symm)
            have hl := HQ.out.l
            have hk2 := HQ.out.k
            cases hb : decide ((wholeF q : Int) < n - 1)
            · rw [hb] at hl
              have hge := of_decide_eq_false hb
              have hjv : (n : Int) - 1 = j := by rw [← hj]; unfold binN; split <;> omega
              rw [hjv] at hl
              clear hv HJ HR HJ2 hj hbin q1 q2 v1 v2 hx1 HQ hk2 hb hge hwc
              go_wp2
              go_roundw
              case rel => exact ⟨k + 1, by omega, by go_num, HT⟩
              case measure => simp [intOf]; omega
            · rw [hb] at hl
              have hlt2 := of_decide_eq_true hb
              have hjv : (wholeF q : Int) = j := by rw [← hj]; unfold binN; split <;> omega
              have hcv : ∀ W, (convert 74 2 (.float .f64 (flo (wide q)))).run Try.prog W = .ok (.int .i64 (j : Int)) W := fun W => run_convert_float_int W _ _ .f64 .i64 _ _ (by kernel_rfl) (by kernel_rfl) (by rw [hk2 hlt2, hjv])
              clear hv HJ HR HJ2 hj hbin q1 q2 v1 v2 hx1 HQ hk2 hb hlt2 hjv
              go_wp2
              go_roundw
              case rel => exact ⟨k + 1, by omega, by go_num, HT⟩
              case measure => simp [intOf]; omega
          · have hkk : k = xs.length := by omega
            subst hkk
            go_wp2
            go_ret2
            refine ⟨some ⟨B, 0, none⟩, n, B, by rw [HY.out, binsL_yes HY.out, binsK_length]; rfl, .inr ⟨rfl, HR.out.h, by rw [binsL_yes HY.out]; exact HR.out.o⟩, HR.out.b⟩
      · have HN := Lib.hid (binsO_c (xs := xs) (d := d) hc)
        rw [decide_eq_false hc]
        clear hc
        go_wp2
        go_ret2
        exact ⟨none, 0, 0, by rw [HN.out, binsL_no HN.out]; rfl, .inl (binsL_no HN.out), B2.out⟩
end Go.Proofs.Ytleimkejjpggmaa
