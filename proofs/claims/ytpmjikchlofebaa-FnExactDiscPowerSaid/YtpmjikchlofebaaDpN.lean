/- The power of a wind in a disc: what it is. No statement is proved here. -/
import Derived.Test.YtpmjikchlofebaaDpM
import Derived.Test.YtpmjikchlofebaaRosM
namespace Go.Proofs.Ytpmjikchlofebaa
open Go Go.RowKit
def dX (n k : Nat) : Nat := fop .quo .f32 (floatOfInt .f32 (2 * (k : Int) + 1 - (n : Int))) (floatOfInt .f32 (n : Int))
def bd0B (x : Nat) : Bool := match FloatKind.f32.decode x with
  | .number _ m e => decide (m ≤ 2 ^ (0 - e).toNat) && (decide (e ≤ 0) || m == 0)
  | _ => false
theorem bd0B_bd {x : Nat} (h : bd0B x = true) : Bd .f32 0 x := by
  unfold bd0B at h
  cases hd : FloatKind.f32.decode x with
  | nan s f => rw [hd] at h; cases h
  | infinity s => rw [hd] at h; cases h
  | number s m e =>
    rw [hd] at h
    simp only [Bool.and_eq_true, Bool.or_eq_true, decide_eq_true_eq, beq_iff_eq] at h
    exact ⟨s, m, e, hd, h.1, fun he => by rcases h.2 with h2 | h2 <;> omega⟩
def dXs (n : Nat) : Nat → Bool
  | 0 => true
  | k + 1 => dXs n k && bd0B (dX n k)
def dXt : Nat → Bool
  | 0 => true
  | n + 1 => dXt n && dXs (n + 1) (n + 1)
theorem dXt_all : dXt 64 = true := by decide +kernel
theorem dXt_at : ∀ m, dXt m = true → ∀ n, 1 ≤ n → n ≤ m → dXs n n = true := by
  intro m
  induction m with
  | zero => intro _ n h1 h2; omega
  | succ m ih =>
    intro h n h1 h2
    simp only [dXt, Bool.and_eq_true] at h
    by_cases e : n = m + 1
    · subst e; exact h.2
    · exact ih h.1 n h1 (by omega)
theorem dXs_at {n : Nat} : ∀ m, dXs n m = true → ∀ k, k < m → bd0B (dX n k) = true := by
  intro m
  induction m with
  | zero => intro _ k hk; omega
  | succ m ih =>
    intro h k hk
    simp only [dXs, Bool.and_eq_true] at h
    by_cases e : k = m
    · subst e; exact h.2
    · exact ih h.1 k (by omega)
theorem dX_bd {n k : Nat} (hk : k < n) (hn : n ≤ 64) : Bd .f32 0 (dX n k) := bd0B_bd (dXs_at n (dXt_at 64 dXt_all n (by omega) hn) k hk)
theorem dX_sure {n k : Nat} (hk : k < n) (hn : n ≤ 64) : (∀ w, fopV .quo .f32 (floatOfInt .f32 (2 * (k : Int) + 1 - (n : Int))) (floatOfInt .f32 (n : Int)) w = dX n k) ∧ fopN .quo .f32 (floatOfInt .f32 (2 * (k : Int) + 1 - (n : Int))) (floatOfInt .f32 (n : Int)) = 0 := fop_sure (bd_not_nan (dX_bd hk hn))
theorem canon_dX (n k : Nat) : canon .f32 (dX n k) = dX n k := canon_fop ..
def dW (n k : Nat) : Nat := canon .f32 (rootF (fop .sub .f32 (canon .f32 1065353216) (fop .mul .f32 (dX n k) (dX n k))))
def dZ (ht rd n k : Nat) : Nat := fop .add .f32 (canon .f32 ht) (fop .mul .f32 (canon .f32 rd) (dX n k))
def dV (ha s sh ht rd n k : Nat) : Nat := spdV ha s sh (dZ ht rd n k)
def dP (d ha s sh ht rd n k : Nat) : Nat := powV d (dV ha s sh ht rd n k)
def dS (d ha s sh ht rd n : Nat) : Nat → Nat
  | 0 => 0
  | k + 1 => fop .add .f32 (dS d ha s sh ht rd n k) (fop .mul .f32 (dW n k) (dP d ha s sh ht rd n k))
def dT (n : Nat) : Nat → Nat
  | 0 => 0
  | k + 1 => fop .add .f32 (dT n k) (dW n k)
def dQ (d ha s sh ht rd n : Nat) : Nat := fop .quo .f32 (dS d ha s sh ht rd n n) (dT n n)
def dC (d ha s sh ht rd : Nat) (p : Int) : Bool := airV d ha s sh && (posi rd && (fin .f32 ht && (!lss32 ht rd && decide (1 ≤ p ∧ p ≤ 64))))
def dO (d ha s sh ht rd : Nat) (p : Int) : Bool := dC d ha s sh ht rd p && fin .f32 (dQ d ha s sh ht rd p.toNat)
def dR (d ha s sh ht rd : Nat) (p : Int) : Nat := if dC d ha s sh ht rd p then onlyN (dQ d ha s sh ht rd p.toNat) else 0
theorem dC_a {d ha s sh ht rd : Nat} {p : Int} (h : airV d ha s sh = false) : dC d ha s sh ht rd p = false := by unfold dC; rw [h]; rfl
theorem dC_r {d ha s sh ht rd : Nat} {p : Int} (h : posi rd = false) : dC d ha s sh ht rd p = false := by unfold dC; rw [h]; simp
theorem dC_h {d ha s sh ht rd : Nat} {p : Int} (h : fin .f32 ht = false) : dC d ha s sh ht rd p = false := by unfold dC; rw [h]; simp
theorem dC_l {d ha s sh ht rd : Nat} {p : Int} (h : lss32 ht rd = true) : dC d ha s sh ht rd p = false := by unfold dC; rw [h]; simp
theorem dC_p {d ha s sh ht rd : Nat} {p : Int} (h : ¬ (1 ≤ p ∧ p ≤ 64)) : dC d ha s sh ht rd p = false := by unfold dC; rw [decide_eq_false h]; simp
theorem dC_yes {d ha s sh ht rd : Nat} {p : Int} (h1 : airV d ha s sh = true) (h2 : posi rd = true) (h3 : fin .f32 ht = true) (h4 : lss32 ht rd = false) (h5 : 1 ≤ p ∧ p ≤ 64) : dC d ha s sh ht rd p = true := by unfold dC; rw [h1, h2, h3, h4, decide_eq_true h5]; rfl
theorem dO_no {d ha s sh ht rd : Nat} {p : Int} (h : dC d ha s sh ht rd p = false) : dO d ha s sh ht rd p = false := by unfold dO; rw [h]; rfl
theorem dR_no {d ha s sh ht rd : Nat} {p : Int} (h : dC d ha s sh ht rd p = false) : dR d ha s sh ht rd p = 0 := by unfold dR; rw [h]; rfl
theorem dO_yes {d ha s sh ht rd : Nat} {p : Int} (h : dC d ha s sh ht rd p = true) : dO d ha s sh ht rd p = fin .f32 (dQ d ha s sh ht rd p.toNat) := by unfold dO; rw [h]; rfl
theorem dR_yes {d ha s sh ht rd : Nat} {p : Int} (h : dC d ha s sh ht rd p = true) : dR d ha s sh ht rd p = onlyN (dQ d ha s sh ht rd p.toNat) := by unfold dR; rw [h]; rfl
theorem canon_spdV (h s k z : Nat) : canon .f32 (spdV h s k z) = spdV h s k z := canon_fop ..
theorem canon_powV (d s : Nat) : canon .f32 (powV d s) = powV d s := canon_fop ..
theorem spdV_canon {h s k z z' : Nat} (e : canon .f32 z = canon .f32 z') : spdV h s k z = spdV h s k z' := by unfold spdV; rw [e]
theorem powV_canon {d s s' : Nat} (e : canon .f32 s = canon .f32 s') : powV d s = powV d s' := by unfold powV; rw [e]
theorem canon_dZ (ht rd n k : Nat) : canon .f32 (dZ ht rd n k) = dZ ht rd n k := canon_fop ..
theorem canon_dW (n k : Nat) : canon .f32 (dW n k) = dW n k := canon_canon ..
/-- whether a height's power is told -/
def dK (d ha s sh ht rd n k : Nat) : Bool := amount (dZ ht rd n k) && (fin .f32 (dV ha s sh ht rd n k) && powO d (dV ha s sh ht rd n k))
/-! ## what is told where all is well -/
theorem unit_amount {k : Nat} (h : within k 0 1065353216 = true) : amount k = true ∧ geq32 1065353216 k = true := by
  unfold within at h
  rw [Bool.and_eq_true] at h
  have hf : fin .f32 k = true := by
    rcases num_or (k := .f32) k with hf | ⟨s, hi⟩ | ⟨s, f, hn⟩
    · exact hf
    · exfalso
      cases s
      · have := h.2
        unfold leq32 Ieee.Format.order at this
        rw [hi, one_decodeD] at this
        simp [Ieee.Datum.order] at this
      · have := h.1
        unfold geq32 Ieee.Format.order at this
        rw [hi, show FloatKind.f32.format.read 0 = .number false 0 (-149) by decide +kernel] at this
        simp [Ieee.Datum.order] at this
    · exfalso
      have := h.1
      unfold geq32 Ieee.Format.order at this
      rw [hn] at this
      simp [Ieee.Datum.order] at this
  refine ⟨by unfold amount; rw [hf, h.1]; rfl, ?_⟩
  have f1 : fin .f32 1065353216 = true := by decide +kernel
  have h2 := h.2
  rw [leq_key hf f1] at h2
  have h3 := lss_not_geq (isn_of_fin f1) (isn_of_fin hf)
  rw [lss_key f1 hf, decide_eq_false (by have := of_decide_eq_true h2; omega)] at h3
  simpa using h3.symm
theorem mulR_fin {x y : Nat} (h : fin .f32 (fop .mul .f32 x y) = true) : fin .f32 y = true := by
  by_cases e : fin .f32 y = true
  · exact e
  · rw [mulR_not_fin (by simpa using e)] at h; cases h
theorem mulL_fin {x y : Nat} (h : fin .f32 (fop .mul .f32 x y) = true) : fin .f32 x = true := by
  by_cases e : fin .f32 x = true
  · exact e
  · rw [mulL_not_fin (by simpa using e)] at h; cases h
theorem quoL_fin {x y : Nat} (h : fin .f32 (fop .quo .f32 x y) = true) : fin .f32 x = true := by
  by_cases e : fin .f32 x = true
  · exact e
  · rw [quoL_not_fin (by simpa using e)] at h; cases h
/-- a speed at a height that is told is not below 0 -/
theorem spd_amount {d h s k z : Nat} (ha : airV d h s k = true) (hz : amount z = true) (hf : fin .f32 (spdV h s k z) = true) : amount (spdV h s k z) = true := by
  unfold airV at ha
  simp only [Bool.and_eq_true] at ha
  obtain ⟨-, hh, hs, hk⟩ := ha
  obtain ⟨k1, k2⟩ := unit_amount hk
  have fz : fin .f32 z = true := by unfold amount at hz; rw [Bool.and_eq_true] at hz; exact hz.1
  have fh : fin .f32 h = true := by unfold posi at hh; rw [Bool.and_eq_true] at hh; exact hh.1
  have fs : fin .f32 s = true := by unfold amount at hs; rw [Bool.and_eq_true] at hs; exact hs.1
  have fk : fin .f32 k = true := by unfold amount at k1; rw [Bool.and_eq_true] at k1; exact k1.1
  unfold spdV at hf ⊢
  rw [canon_of_not (isn_of_fin fz), canon_of_not (isn_of_fin fh), canon_of_not (isn_of_fin fs), canon_of_not (isn_of_fin fk), show canon .f32 1065353216 = 1065353216 by decide +kernel] at hf ⊢
  have f1 := mulR_fin hf
  have f2 := mulR_fin (sum_fin f1).2
  exact up_amountD (mul_upDD hs (hang_up one_decodeD k1 k2 (share_bd hz hh f2)) f1) hf
theorem posi_ht {ht rd : Nat} (hr : posi rd = true) (hf : fin .f32 ht = true) (hl : lss32 ht rd = false) : posi ht = true ∧ geq32 ht rd = true := by
  have hr2 := hr
  unfold posi at hr2
  rw [Bool.and_eq_true] at hr2
  have h3 := lss_not_geq (isn_of_fin hf) (isn_of_fin hr2.1)
  rw [hl] at h3
  refine ⟨?_, by simpa using h3.symm⟩
  have f0 : fin .f32 0 = true := by decide +kernel
  have h4 := hr2.2
  rw [gtr_key hr2.1 f0] at h4
  rw [lss_key hf hr2.1] at hl
  unfold posi
  rw [hf, gtr_key hf f0, decide_eq_true (by have := of_decide_eq_true h4; have := of_decide_eq_false hl; omega)]
  rfl
/-- a height in a disc that is a number is not below 0 -/
theorem dZ_amount {ht rd n k : Nat} (hr : posi rd = true) (hf : fin .f32 ht = true) (hl : lss32 ht rd = false) (hk : k < n) (hn : n ≤ 64) (hz : fin .f32 (dZ ht rd n k) = true) : amount (dZ ht rd n k) = true := by
  obtain ⟨hp, hg⟩ := posi_ht hr hf hl
  obtain ⟨m, i, hd, -⟩ := posi_up hp
  have fr : fin .f32 rd = true := by unfold posi at hr; rw [Bool.and_eq_true] at hr; exact hr.1
  have ar : amount rd = true := by
    obtain ⟨m2, i2, hd2, -⟩ := posi_up hr
    exact up_amountD (show upD (FloatKind.f32.format.read rd) by rw [hd2]; exact .inl rfl) fr
  unfold dZ at hz ⊢
  rw [canon_of_not (isn_of_fin hf), canon_of_not (isn_of_fin fr)] at hz ⊢
  exact up_amountD (hang_up hd ar hg (dX_bd hk hn)) hz
theorem dK_of_fin {d ha s sh ht rd n k : Nat} (h1 : airV d ha s sh = true) (h2 : posi rd = true) (h3 : fin .f32 ht = true) (h4 : lss32 ht rd = false) (hk : k < n) (hn : n ≤ 64) (hf : fin .f32 (dP d ha s sh ht rd n k) = true) : dK d ha s sh ht rd n k = true := by
  have hf2 := hf
  unfold dP powV at hf
  have fv : fin .f32 (dV ha s sh ht rd n k) = true := by rw [← fin_canon]; exact mulR_fin hf
  have fv2 := fv
  unfold dV spdV at fv2
  have fz : fin .f32 (dZ ht rd n k) = true := by
    have := (diff_fin (quoL_fin (mulR_fin (sum_fin (mulR_fin fv2)).2))).1
    rwa [fin_canon] at this
  have az := dZ_amount h2 h3 h4 hk hn fz
  have av : amount (dV ha s sh ht rd n k) = true := spd_amount h1 az fv
  have ad : amount d = true := by
    have h1 := h1
    unfold airV at h1
    simp only [Bool.and_eq_true] at h1
    obtain ⟨m2, i2, hd2, -⟩ := posi_up h1.1
    exact up_amountD (show upD (FloatKind.f32.format.read d) by rw [hd2]; exact .inl rfl) (by have h := h1.1; unfold posi at h; rw [Bool.and_eq_true] at h; exact h.1)
  unfold dK powO
  rw [az, fv, ad, av]
  exact hf2
theorem dS_fin {d ha s sh ht rd n : Nat} : ∀ k, fin .f32 (dS d ha s sh ht rd n k) = true → ∀ j, j < k → fin .f32 (dP d ha s sh ht rd n j) = true := by
  intro k
  induction k with
  | zero => intro _ j hj; omega
  | succ k ih =>
    intro h j hj
    obtain ⟨f1, f2⟩ := sum_fin h
    by_cases e : j = k
    · subst e; exact mulR_fin f2
    · exact ih f1 j (by omega)
/-- where a part is not told, the whole is none -/
theorem dQ_no {d ha s sh ht rd n k : Nat} (h1 : airV d ha s sh = true) (h2 : posi rd = true) (h3 : fin .f32 ht = true) (h4 : lss32 ht rd = false) (hk : k < n) (hn : n ≤ 64) (h : dK d ha s sh ht rd n k = false) : fin .f32 (dQ d ha s sh ht rd n) = false := by
  by_cases e : fin .f32 (dQ d ha s sh ht rd n) = true
  · have := dK_of_fin h1 h2 h3 h4 hk hn (dS_fin n (quoL_fin e) k hk)
    rw [this] at h; cases h
  · simpa using e
/-- the program's mean -/
theorem dot_dS {d ha s sh ht rd n : Nat} {a l : List Nat} (h1 : ∀ k, k < n → canon .f32 (a.getD k 0) = dW n k) (h2 : ∀ k, k < n → canon .f32 (l.getD k 0) = dP d ha s sh ht rd n k) : ∀ k, k ≤ n → dotK a l k = dS d ha s sh ht rd n k ∧ sumK a k = dT n k := by
  intro k
  induction k with
  | zero => intro _; exact ⟨rfl, rfl⟩
  | succ k ih =>
    intro hk
    obtain ⟨e1, e2⟩ := ih (by omega)
    simp only [dotK, sumK, dS, dT]
    rw [e1, e2, h1 k (by omega), h2 k (by omega)]
    exact ⟨rfl, rfl⟩
theorem mrV_dQ {d ha s sh ht rd n : Nat} {a l : List Nat} (hn : a.length = n) (h1 : ∀ k, k < n → canon .f32 (a.getD k 0) = dW n k) (h2 : ∀ k, k < n → canon .f32 (l.getD k 0) = dP d ha s sh ht rd n k) : mrV a l = dQ d ha s sh ht rd n := by
  unfold mrV dQ
  rw [hn, (dot_dS h1 h2 n (Nat.le_refl _)).1, (dot_dS h1 h2 n (Nat.le_refl _)).2]
end Go.Proofs.Ytpmjikchlofebaa
