/- Powers over lists: both sides, put together. No statement is proved here. -/
import Derived.Test.YtahbcpjipomcgaaGreatVal
import Derived.Test.YtahbcpjipomcgaaGreatSums
import Derived.Test.YtahbcpjipomcgaaGreatMgTh
import Derived.IntWalk
import Derived.Test.YtahbcpjipomcgaaGreatRot
namespace Go.Proofs.YtahbcpjipomcgaaGreat
open Go Go.RowKit

/-- the first index with the greatest number of the first k ones; not-a-numbers are left out -/
def fgStep (xs : List Nat) (k : Nat) (o : Option Nat) : Option Nat :=
  if isn .f32 (xs.getD k 0) then o else
  match o with
  | none => some k
  | some b => if gtr32 (xs.getD k 0) (xs.getD b 0) then some k else some b
def fg (xs : List Nat) : Nat → Option Nat
  | 0 => none
  | k + 1 => fgStep xs k (fg xs k)
def oI : Option Nat → Int
  | none => 0
  | some b => (b : Int)
def oM (xs : List Nat) : Option Nat → Nat
  | none => 0
  | some b => xs.getD b 0
def oF : Option Nat → Bool
  | none => false
  | some _ => true
theorem fg_lt (xs : List Nat) : ∀ k b, fg xs k = some b → b < k := by
  intro k; induction k with
  | zero => intro b h; cases h
  | succ k ih =>
    intro b h
    simp only [fg, fgStep] at h
    split at h
    · have := ih b h; omega
    · split at h
      · simp at h; omega
      · rename_i c hc
        split at h
        · simp at h; omega
        · simp at h; have := ih b (by rw [hc, h]); omega
set_option maxHeartbeats 4000000 in
theorem i_firstGreatest (A : Option Addr) (cap : Nat) (xs : List Nat) (w : World) (h : Fl w A xs) (hn : xs.length ≤ 1048576) :
    Calls Tryz.prog 68 #[.slice A xs.length cap] w fun e w' => ∃ n, e = .returned (.tuple #[.int .i64 (oI (fg xs xs.length)), .float .f32 (oM xs (fg xs xs.length)), .bool (oF (fg xs xs.length))]) ∧ w' = w.drewN n := by
  go_enter Tryz.func68, Tryz.ntmps68
  go_wp2
  go_loopw [5, 6, 7, 12] (fun b m f i wr => ∃ (k n : Nat) (o : Option Nat), k ≤ xs.length ∧ i = .int .i64 k ∧ Hid (fg xs k = o) ∧ b = .int .i64 (oI o) ∧ m = .float .f32 (oM xs o) ∧ f = .bool (oF o) ∧ wr = w.drewN n) (fun _ _ _ i _ => xs.length - (intOf i).toNat)
  case atStart => exact ⟨0, 0, none, Nat.zero_le _, rfl, rfl, rfl, rfl, rfl, rfl⟩
  case round =>
    obtain ⟨k, n, o, hk, rfl, ho, rfl, rfl, rfl, rfl⟩ := hrel
    by_cases hlt : k < xs.length
    · obtain ⟨b, off, rfl, hb, hc⟩ := h.at_ hlt
      have HF := Lib.hid h; clear h hb
      have HS : Hid (fg xs (k + 1) = fgStep xs k o) := Lib.hid (by show fgStep xs k (fg xs k) = _; rw [ho.out])
      obtain ⟨x, hx⟩ : ∃ x, x = xs.getD k 0 := ⟨_, rfl⟩
      rw [← hx] at hc
      have HX := Lib.hid hx; clear hx
      have hw := isn_wideV x (w.drewN n)
      cases hi : isn .f32 x
      · rw [hi] at hw
        cases o with
        | none =>
          have HO : Hid (fg xs (k + 1) = some k) := Lib.hid (by rw [HS.out]; unfold fgStep; rw [← HX.out, hi]; rfl)
          have e1 : oF none = false := rfl
          clear hi
          go_wp2_with fail
          refine (isNaN_any _ _).mono ?_
          rintro e w' ⟨rfl, rfl⟩
          rw [hw]
          go_wp2
          go_roundw
          case rel => exact ⟨k + 1, _, some k, by omega, by go_num, HO, rfl, by show _ = Value.float .f32 (xs.getD k 0); rw [← HX.out], rfl, rfl⟩
          case measure => simp [intOf]; omega
        | some c =>
          have e1 : oF (some c) = true := rfl
          cases hg : (FloatKind.f32.format.order x (oM xs (some c)) == some .gt)
          · have HO : Hid (fg xs (k + 1) = some c) := Lib.hid (by rw [HS.out]; unfold fgStep gtr32; rw [← HX.out, hi]; simp only [Bool.false_eq_true, if_false]; rw [show (FloatKind.f32.format.order x (xs.getD c 0) == some .gt) = false from hg]; rfl)
            clear hi
            go_wp2_with fail
            refine (isNaN_any _ _).mono ?_
            rintro e w' ⟨rfl, rfl⟩
            rw [hw]
            go_wp2
            go_roundw
            case rel => exact ⟨k + 1, _, some c, by omega, by go_num, HO, rfl, rfl, rfl, rfl⟩
            case measure => simp [intOf]; omega
          · have HO : Hid (fg xs (k + 1) = some k) := Lib.hid (by rw [HS.out]; unfold fgStep gtr32; rw [← HX.out, hi]; simp only [Bool.false_eq_true, if_false]; rw [show (FloatKind.f32.format.order x (xs.getD c 0) == some .gt) = true from hg]; rfl)
            clear hi
            go_wp2_with fail
            refine (isNaN_any _ _).mono ?_
            rintro e w' ⟨rfl, rfl⟩
            rw [hw]
            go_wp2
            go_roundw
            case rel => exact ⟨k + 1, _, some k, by omega, by go_num, HO, rfl, by show _ = Value.float .f32 (xs.getD k 0); rw [← HX.out], rfl, rfl⟩
            case measure => simp [intOf]; omega
      · rw [hi] at hw
        have HO : Hid (fg xs (k + 1) = o) := Lib.hid (by rw [HS.out]; unfold fgStep; rw [← HX.out, hi]; rfl)
        clear hi
        go_wp2_with fail
        refine (isNaN_any _ _).mono ?_
        rintro e w' ⟨rfl, rfl⟩
        rw [hw]
        go_wp2
        go_roundw
        case rel => exact ⟨k + 1, _, o, by omega, by go_num, HO, rfl, rfl, rfl, rfl⟩
        case measure => simp [intOf]; omega
    · have hkk : k = xs.length := by omega
      subst hkk
      have HF := Lib.hid h; clear h
      go_wp2
      refine bodyPost_ret (results_tmp3 rfl _ _ _) rfl ?_
      exact ⟨_, by rw [ho.out]; rfl, rfl⟩
/-- no number of the list is a not-a-number -/
theorem fins_at {xs : List Nat} {n : Nat} (h : fins xs n = true) : ∀ j, j < n → fin .f32 (xs.getD j 0) = true := by
  induction n with
  | zero => intro j hj; omega
  | succ n ih =>
    intro j hj
    simp only [fins, Bool.and_eq_true] at h
    by_cases e : j = n
    · rw [e]; exact h.2
    · exact ih h.1 j (by omega)
def stallO (a l d : List Nat) : Bool := validP a l d
def stallI (a l d : List Nat) : Int := if validP a l d then oI (fg l l.length) else 0
def stallR (a l d : List Nat) : Nat := if validP a l d then canon .f32 (oM a (fg l l.length)) else 0
theorem fins_of {a l d : List Nat} (h : validP a l d = true) : fins l l.length = true := by
  rw [validP_yes (sized_of h)] at h
  simp only [Bool.and_eq_true] at h
  exact h.2.1
theorem fg_some {xs : List Nat} (h : ∀ j, j < xs.length → fin .f32 (xs.getD j 0) = true) : ∀ k, 0 < k → k ≤ xs.length → ∃ b, fg xs k = some b ∧ b < k := by
  intro k; induction k with
  | zero => intro h0; omega
  | succ k ih =>
    intro _ hk
    have hf := isn_of_fin (h k (by omega))
    have hs : ∃ b, fg xs (k + 1) = some b := by
      show ∃ b, fgStep xs k (fg xs k) = some b
      unfold fgStep
      rw [hf]
      cases fg xs k with
      | none => exact ⟨_, rfl⟩
      | some c =>
        simp only [Bool.false_eq_true, if_false]
        split
        · exact ⟨_, rfl⟩
        · exact ⟨_, rfl⟩
    obtain ⟨b, hb⟩ := hs
    exact ⟨b, hb, fg_lt _ _ _ hb⟩
end Go.Proofs.YtahbcpjipomcgaaGreat
namespace Go.Proofs.YtahbcpjipomcgaaGreat
open Go Go.RowKit
/-- the first index of the greatest of the first numbers -/
def bi (xs : List Nat) : Nat → Nat
  | 0 => 0
  | k + 1 => if gtr32 (xs.getD k 0) (xs.getD (bi xs k) 0) then k else bi xs k
theorem bi_lt {xs : List Nat} {n : Nat} (h : 1 ≤ n) : ∀ k, k ≤ n → bi xs k < n := by
  intro k; induction k with
  | zero => intro _; exact h
  | succ k ih =>
    intro hk
    unfold bi
    split
    · omega
    · exact ih (by omega)
theorem fg_bi {xs : List Nat} : ∀ k, 1 ≤ k → (∀ j, j < k → isn .f32 (xs.getD j 0) = false) → fg xs k = some (bi xs k) := by
  intro k; induction k with
  | zero => intro h; omega
  | succ k ih =>
    intro _ hn
    by_cases h0 : k = 0
    · subst h0
      show fgStep xs 0 none = _
      unfold fgStep
      rw [hn 0 (by omega)]
      show some 0 = some (bi xs 1)
      unfold bi
      split
      · rfl
      · rfl
    · show fgStep xs k (fg xs k) = _
      rw [ih (by omega) (fun j hj => hn j (by omega))]
      unfold fgStep
      rw [hn k (by omega)]
      show (if gtr32 (xs.getD k 0) (xs.getD (bi xs k) 0) then some k else some (bi xs k)) = some (bi xs (k + 1))
      conv => rhs; unfold bi
      split <;> rfl
theorem pw_fin {a l d s : List Nat} {n : Nat} {c : Int} {hub tip wi sp p dn : Nat} (h : poO a l d s n c hub tip wi sp p dn = true) : fin .f32 (poR a l d s n c hub tip wi sp p dn) = true ∧ validR a l d s n c hub tip = true := by
  cases ht : toO a l d s n c hub tip wi sp p dn
  · rw [(po_no ht).1] at h; cases h
  · rw [(po_yes ht).1] at h
    refine ⟨by rw [(po_yes ht).2]; unfold onlyN; rw [h]; exact h, ?_⟩
    unfold toO at ht
    rw [Bool.and_eq_true] at ht
    exact (fcO_parts ht.1).1
def pcq (a l d s : List Nat) (n : Nat) (c : Int) (hub tip : Nat) (sp p dn : Nat) (x : Nat) : Nat := poR a l d s n c hub tip x sp p dn
def pcp (a l d s : List Nat) (n : Nat) (c : Int) (hub tip : Nat) (sp p dn : Nat) (x : Nat) : Bool := poO a l d s n c hub tip x sp p dn
def pcC (a l d s : List Nat) (n : Nat) (c : Int) (hub tip : Nat) (sp p dn : Nat) (m : Nat) : Bool := validR a l d s n c hub tip && (posi sp && (fin .f32 p && (posi dn && decide (m ≤ 32))))
def pcO (a l d s : List Nat) (n : Nat) (c : Int) (hub tip : Nat) (sp p dn : Nat) (wis : List Nat) : Bool := pcC a l d s n c hub tip sp p dn wis.length && alls (fun j => pcp a l d s n c hub tip sp p dn (wis.getD j 0)) wis.length
def pcL (a l d s : List Nat) (n : Nat) (c : Int) (hub tip : Nat) (sp p dn : Nat) (wis : List Nat) : List Nat := if pcO a l d s n c hub tip sp p dn wis then (List.range wis.length).map (fun j => pcq a l d s n c hub tip sp p dn (wis.getD j 0)) else []
theorem pcO_c {a l d s : List Nat} {n : Nat} {c : Int} {hub tip sp p dn : Nat} {wis : List Nat} (h : pcC a l d s n c hub tip sp p dn wis.length = false) : pcO a l d s n c hub tip sp p dn wis = false := by unfold pcO; rw [h]; rfl
theorem pcO_a {a l d s : List Nat} {n : Nat} {c : Int} {hub tip sp p dn : Nat} {wis : List Nat} {k : Nat} (h : alls (fun j => pcp a l d s n c hub tip sp p dn (wis.getD j 0)) k = false) (hk : k ≤ wis.length) : pcO a l d s n c hub tip sp p dn wis = false := by unfold pcO; rw [alls_no h hk, Bool.and_false]
theorem pcO_yes {a l d s : List Nat} {n : Nat} {c : Int} {hub tip sp p dn : Nat} {wis : List Nat} (h : pcC a l d s n c hub tip sp p dn wis.length = true) (h2 : alls (fun j => pcp a l d s n c hub tip sp p dn (wis.getD j 0)) wis.length = true) : pcO a l d s n c hub tip sp p dn wis = true := by unfold pcO; rw [h, h2]; rfl
theorem pcL_no {a l d s : List Nat} {n : Nat} {c : Int} {hub tip sp p dn : Nat} {wis : List Nat} (h : pcO a l d s n c hub tip sp p dn wis = false) : pcL a l d s n c hub tip sp p dn wis = [] := by unfold pcL; rw [h]; rfl
theorem pcL_len {a l d s : List Nat} {n : Nat} {c : Int} {hub tip sp p dn : Nat} {wis : List Nat} (h : pcO a l d s n c hub tip sp p dn wis = true) : (pcL a l d s n c hub tip sp p dn wis).length = wis.length := by unfold pcL; rw [h]; simp
theorem pcL_few (a l d s : List Nat) (n : Nat) (c : Int) (hub tip : Nat) (sp p dn : Nat) (wis : List Nat) (h : wis.length ≤ 1048576) : (pcL a l d s n c hub tip sp p dn wis).length ≤ 1048576 := by
  cases ho : pcO a l d s n c hub tip sp p dn wis
  · rw [pcL_no ho]; simp
  · rw [pcL_len ho]; exact h
theorem pcL_is {a l d s : List Nat} {n : Nat} {c : Int} {hub tip sp p dn : Nat} {wis ys : List Nat} (h : pcO a l d s n c hub tip sp p dn wis = true) (hl : ys.length = wis.length) (hq : ∀ j, j < wis.length → canon .f32 (ys.getD j 0) = pcq a l d s n c hub tip sp p dn (wis.getD j 0)) : ys = pcL a l d s n c hub tip sp p dn wis := by
  have ha : alls (fun j => pcp a l d s n c hub tip sp p dn (wis.getD j 0)) wis.length = true := by unfold pcO at h; rw [Bool.and_eq_true] at h; exact h.2
  unfold pcL
  rw [h, if_pos rfl]
  exact list_exact hl hq (fun j hj => (pw_fin (alls_at ha j hj)).1)
def btq (a l d s : List Nat) (n : Nat) (c : Int) (hub tip : Nat) (wi sp dn : Nat) (x : Nat) : Nat := poR a l d s n c hub tip wi sp x dn
def btp (a l d s : List Nat) (n : Nat) (c : Int) (hub tip : Nat) (wi sp dn : Nat) (x : Nat) : Bool := poO a l d s n c hub tip wi sp x dn
def btO (a l d s : List Nat) (n : Nat) (c : Int) (hub tip : Nat) (wi sp dn : Nat) (ps : List Nat) : Bool := decide (1 ≤ ps.length ∧ ps.length ≤ 32) && alls (fun j => btp a l d s n c hub tip wi sp dn (ps.getD j 0)) ps.length
def btL (a l d s : List Nat) (n : Nat) (c : Int) (hub tip : Nat) (wi sp dn : Nat) (ps : List Nat) : List Nat := (List.range ps.length).map (fun j => btq a l d s n c hub tip wi sp dn (ps.getD j 0))
def btI (a l d s : List Nat) (n : Nat) (c : Int) (hub tip : Nat) (wi sp dn : Nat) (ps : List Nat) : Int := if btO a l d s n c hub tip wi sp dn ps then (bi (btL a l d s n c hub tip wi sp dn ps) ps.length : Nat) else 0
def btR (a l d s : List Nat) (n : Nat) (c : Int) (hub tip : Nat) (wi sp dn : Nat) (ps : List Nat) : Nat := if btO a l d s n c hub tip wi sp dn ps then (btL a l d s n c hub tip wi sp dn ps).getD (bi (btL a l d s n c hub tip wi sp dn ps) ps.length) 0 else 0
theorem btO_z {a l d s : List Nat} {n : Nat} {c : Int} {hub tip wi sp dn : Nat} {ps : List Nat} (h : ¬ (1 ≤ ps.length ∧ ps.length ≤ 32)) : btO a l d s n c hub tip wi sp dn ps = false := by unfold btO; rw [decide_eq_false h]; rfl
theorem btO_a {a l d s : List Nat} {n : Nat} {c : Int} {hub tip wi sp dn : Nat} {ps : List Nat} {k : Nat} (h : alls (fun j => btp a l d s n c hub tip wi sp dn (ps.getD j 0)) k = false) (hk : k ≤ ps.length) : btO a l d s n c hub tip wi sp dn ps = false := by unfold btO; rw [alls_no h hk, Bool.and_false]
theorem btO_yes {a l d s : List Nat} {n : Nat} {c : Int} {hub tip wi sp dn : Nat} {ps : List Nat} (h : 1 ≤ ps.length ∧ ps.length ≤ 32) (h2 : alls (fun j => btp a l d s n c hub tip wi sp dn (ps.getD j 0)) ps.length = true) : btO a l d s n c hub tip wi sp dn ps = true := by unfold btO; rw [decide_eq_true h, h2]; rfl
theorem bt_no {a l d s : List Nat} {n : Nat} {c : Int} {hub tip wi sp dn : Nat} {ps : List Nat} (h : btO a l d s n c hub tip wi sp dn ps = false) : btI a l d s n c hub tip wi sp dn ps = 0 ∧ btR a l d s n c hub tip wi sp dn ps = 0 := ⟨by unfold btI; rw [h]; rfl, by unfold btR; rw [h]; rfl⟩
theorem bt_yes {a l d s : List Nat} {n : Nat} {c : Int} {hub tip wi sp dn : Nat} {ps : List Nat} (h : btO a l d s n c hub tip wi sp dn ps = true) : btI a l d s n c hub tip wi sp dn ps = (bi (btL a l d s n c hub tip wi sp dn ps) ps.length : Nat) ∧ btR a l d s n c hub tip wi sp dn ps = (btL a l d s n c hub tip wi sp dn ps).getD (bi (btL a l d s n c hub tip wi sp dn ps) ps.length) 0 := ⟨by unfold btI; rw [h]; rfl, by unfold btR; rw [h]; rfl⟩
theorem btL_is {a l d s : List Nat} {n : Nat} {c : Int} {hub tip wi sp dn : Nat} {ps : List Nat} {ys : List Nat} (ha : alls (fun j => btp a l d s n c hub tip wi sp dn (ps.getD j 0)) ps.length = true) (hl : ys.length = ps.length) (hq : ∀ j, j < ps.length → canon .f32 (ys.getD j 0) = btq a l d s n c hub tip wi sp dn (ps.getD j 0)) : ys = btL a l d s n c hub tip wi sp dn ps ∧ ∀ j, j < ps.length → isn .f32 (ys.getD j 0) = false := by
  have hf : ∀ j, j < ps.length → fin .f32 (btq a l d s n c hub tip wi sp dn (ps.getD j 0)) = true := fun j hj => (pw_fin (alls_at ha j hj)).1
  refine ⟨list_exact hl hq hf, fun j hj => ?_⟩
  rw [← isn_canon, hq j hj]
  exact isn_of_fin (hf j hj)
def bsq (a l d s : List Nat) (n : Nat) (c : Int) (hub tip : Nat) (wi p dn : Nat) (x : Nat) : Nat := poR a l d s n c hub tip wi x p dn
def bsp (a l d s : List Nat) (n : Nat) (c : Int) (hub tip : Nat) (wi p dn : Nat) (x : Nat) : Bool := poO a l d s n c hub tip wi x p dn
def bsO (a l d s : List Nat) (n : Nat) (c : Int) (hub tip : Nat) (wi p dn : Nat) (sps : List Nat) : Bool := decide (1 ≤ sps.length ∧ sps.length ≤ 32) && alls (fun j => bsp a l d s n c hub tip wi p dn (sps.getD j 0)) sps.length
def bsL (a l d s : List Nat) (n : Nat) (c : Int) (hub tip : Nat) (wi p dn : Nat) (sps : List Nat) : List Nat := (List.range sps.length).map (fun j => bsq a l d s n c hub tip wi p dn (sps.getD j 0))
def bsI (a l d s : List Nat) (n : Nat) (c : Int) (hub tip : Nat) (wi p dn : Nat) (sps : List Nat) : Int := if bsO a l d s n c hub tip wi p dn sps then (bi (bsL a l d s n c hub tip wi p dn sps) sps.length : Nat) else 0
def bsR (a l d s : List Nat) (n : Nat) (c : Int) (hub tip : Nat) (wi p dn : Nat) (sps : List Nat) : Nat := if bsO a l d s n c hub tip wi p dn sps then (bsL a l d s n c hub tip wi p dn sps).getD (bi (bsL a l d s n c hub tip wi p dn sps) sps.length) 0 else 0
theorem bsO_z {a l d s : List Nat} {n : Nat} {c : Int} {hub tip wi p dn : Nat} {sps : List Nat} (h : ¬ (1 ≤ sps.length ∧ sps.length ≤ 32)) : bsO a l d s n c hub tip wi p dn sps = false := by unfold bsO; rw [decide_eq_false h]; rfl
theorem bsO_a {a l d s : List Nat} {n : Nat} {c : Int} {hub tip wi p dn : Nat} {sps : List Nat} {k : Nat} (h : alls (fun j => bsp a l d s n c hub tip wi p dn (sps.getD j 0)) k = false) (hk : k ≤ sps.length) : bsO a l d s n c hub tip wi p dn sps = false := by unfold bsO; rw [alls_no h hk, Bool.and_false]
theorem bsO_yes {a l d s : List Nat} {n : Nat} {c : Int} {hub tip wi p dn : Nat} {sps : List Nat} (h : 1 ≤ sps.length ∧ sps.length ≤ 32) (h2 : alls (fun j => bsp a l d s n c hub tip wi p dn (sps.getD j 0)) sps.length = true) : bsO a l d s n c hub tip wi p dn sps = true := by unfold bsO; rw [decide_eq_true h, h2]; rfl
theorem bs_no {a l d s : List Nat} {n : Nat} {c : Int} {hub tip wi p dn : Nat} {sps : List Nat} (h : bsO a l d s n c hub tip wi p dn sps = false) : bsI a l d s n c hub tip wi p dn sps = 0 ∧ bsR a l d s n c hub tip wi p dn sps = 0 := ⟨by unfold bsI; rw [h]; rfl, by unfold bsR; rw [h]; rfl⟩
theorem bs_yes {a l d s : List Nat} {n : Nat} {c : Int} {hub tip wi p dn : Nat} {sps : List Nat} (h : bsO a l d s n c hub tip wi p dn sps = true) : bsI a l d s n c hub tip wi p dn sps = (bi (bsL a l d s n c hub tip wi p dn sps) sps.length : Nat) ∧ bsR a l d s n c hub tip wi p dn sps = (bsL a l d s n c hub tip wi p dn sps).getD (bi (bsL a l d s n c hub tip wi p dn sps) sps.length) 0 := ⟨by unfold bsI; rw [h]; rfl, by unfold bsR; rw [h]; rfl⟩
theorem bsL_is {a l d s : List Nat} {n : Nat} {c : Int} {hub tip wi p dn : Nat} {sps : List Nat} {ys : List Nat} (ha : alls (fun j => bsp a l d s n c hub tip wi p dn (sps.getD j 0)) sps.length = true) (hl : ys.length = sps.length) (hq : ∀ j, j < sps.length → canon .f32 (ys.getD j 0) = bsq a l d s n c hub tip wi p dn (sps.getD j 0)) : ys = bsL a l d s n c hub tip wi p dn sps ∧ ∀ j, j < sps.length → isn .f32 (ys.getD j 0) = false := by
  have hf : ∀ j, j < sps.length → fin .f32 (bsq a l d s n c hub tip wi p dn (sps.getD j 0)) = true := fun j hj => (pw_fin (alls_at ha j hj)).1
  refine ⟨list_exact hl hq hf, fun j hj => ?_⟩
  rw [← isn_canon, hq j hj]
  exact isn_of_fin (hf j hj)
end Go.Proofs.YtahbcpjipomcgaaGreat
namespace Go.Proofs.YtahbcpjipomcgaaGreat
open Go Go.RowKit
theorem OwnO.leB {w : World} {B0 B b : Nat} {A : Option Addr} {xs : List Nat} (h : OwnO w B0 A b xs) (hB : B ≤ B0) : OwnO w B A b xs := by
  rcases h with h | ⟨h1, h2, h3⟩
  · exact .inl h
  · exact .inr ⟨h1, Nat.le_trans hB h2, h3⟩
set_option maxHeartbeats 8000000 in
theorem i_pcAt (A L D S : Option Addr) (ca cl cd n cs : Nat) (c : Int) (hub tip : Nat) (a l d s : List Nat) (sp p dn x Br B1 B2 B3 : Nat) (w : World) (h : Rt w A L D S a l d s) (hn : FewR a l d s n) (hcs : n ≤ cs) (kr : BlkL w Br [.slice A a.length ca, .slice L l.length cl, .slice D d.length cd, .slice S n cs, .int .i64 c, .float .f32 hub, .float .f32 tip]) (k1 : w.cell? ⟨B1, 0, none⟩ = some (.float .f32 sp)) (k2 : w.cell? ⟨B2, 0, none⟩ = some (.float .f32 p)) (k3 : w.cell? ⟨B3, 0, none⟩ = some (.float .f32 dn)) :
    Calls Tryz.prog 65 #[.float .f32 x, .pointer (some ⟨Br, 0, none⟩), .pointer (some ⟨B1, 0, none⟩), .pointer (some ⟨B2, 0, none⟩), .pointer (some ⟨B3, 0, none⟩)] w fun e w' => ∃ r, e = .returned (.tuple #[.float .f32 r, .bool (pcp a l d s n c hub tip sp p dn x)]) ∧ canon .f32 r = pcq a l d s n c hub tip sp p dn x ∧ Below w.heap.size w w' := by
  have HP := Lib.hid h
  have HN := Lib.hid hn
  have m0 := (kr.2 0 _ rfl).1
  have m1 := (kr.2 1 _ rfl).1
  have m2 := (kr.2 2 _ rfl).1
  have m3 := (kr.2 3 _ rfl).1
  have m4 := (kr.2 4 _ rfl).1
  have m5 := (kr.2 5 _ rfl).1
  have m6 := (kr.2 6 _ rfl).1
  clear h hn kr
  go_enter Tryz.func65, Tryz.ntmps65
  go_wp2_with fail
  refine (i_RotorPower A L D S ca cl cd n cs c hub tip a l d s x sp p dn _ HP.out HN.out hcs).mono ?_
  rintro e w1 ⟨r, rfl, hr, b1⟩
  have HR := Lib.hid hr
  have B1 := Lib.hid b1
  clear hr b1
  go_wp2
  go_ret2
  exact ⟨r, rfl, HR.out, B1.out⟩
set_option maxHeartbeats 4000000 in
set_option maxRecDepth 100000 in
theorem i_powersOf_pc (c0 c1 c2 c3 : Value) (q : Nat → Nat) (p : Nat → Bool) (A : Option Addr) (cap : Nat) (xs : List Nat) (w : World) (h : Fl w A xs) (hn : xs.length ≤ 32)
    (hat : ∀ k, k < xs.length → ∀ wr, Below w.heap.size w wr → Calls Tryz.prog 65 #[.float .f32 (xs.getD k 0), c0, c1, c2, c3] wr fun e w' => ∃ r, e = .returned (.tuple #[.float .f32 r, .bool (p k)]) ∧ canon .f32 r = q k ∧ Below wr.heap.size wr w') :
    Calls Tryz.prog 64 #[.slice A xs.length cap, .func (.func 65) #[] #[c0, c1, c2, c3]] w fun e w' => ∃ (A' : Option Addr) (cap' g' : Nat) (ys : List Nat), e = .returned (.tuple #[.slice A' ys.length cap', .bool (alls p xs.length)]) ∧ OwnO w' w.heap.size A' g' ys ∧ (alls p xs.length = false → ys = []) ∧ (alls p xs.length = true → ys.length = xs.length ∧ ∀ k, k < xs.length → canon .f32 (ys.getD k 0) = q k) ∧ Below w.heap.size w w' := by
  have HA := Lib.hid hat; clear hat
  have HF := Lib.hid h; clear h
  obtain ⟨i0, hi, hz0, hz1, hz2⟩ := info_parts f32_info
  have hmk := run_make (P := Tryz.prog) w 22 26 i0 (.float .f32 0) (by kernel_rfl) hi hz0 .i64 .i64 0 xs.length (by omega) (by omega) (by rw [hz2]; omega) (by omega)
  rw [hz1] at hmk
  have hmk' : (Instr.makeSlice 22 (.int .i64 0) (.int .i64 xs.length)).run Tryz.prog w = .ok (.slice (some ⟨w.heap.size, 0, none⟩) 0 xs.length) (w.alloc (.cells (madeCells #[.float .f32 0] xs.length) 26)) := by
    rw [hmk]; simp [Value.cells]
  clear hmk
  have hst : Gr (w.alloc (.cells (madeCells #[.float .f32 0] xs.length) 26)) w.heap.size (.slice (some ⟨w.heap.size, 0, none⟩) 0 xs.length) [] := Gr.made _ _ _ _ (Nat.le_refl _) (by unfold maxLen; omega) (by simp [madeCells])
  have hb0 : Below w.heap.size w (w.alloc (.cells (madeCells #[.float .f32 0] xs.length) 26)) := (Below.refl _ _).alloc (Nat.le_refl _) _
  have HST := Lib.hid hst
  have HB0 := Lib.hid hb0
  clear hst hb0
  go_enter Tryz.func64, Tryz.ntmps64
  go_wp2
  clear hmk'
  go_loopw [6, 19] (fun v i wr => ∃ (k : Nat) (ys : List Nat), k ≤ xs.length ∧ i = .int .i64 k ∧ Hid (Gr wr w.heap.size v ys) ∧ Hid (ys.length = k) ∧ Hid (alls p k = true) ∧ Hid (∀ j, j < k → canon .f32 (ys.getD j 0) = q j) ∧ Hid (Below w.heap.size w wr)) (fun _ i _ => xs.length - (intOf i).toNat)
  case atStart => exact ⟨0, [], Nat.zero_le _, rfl, HST, rfl, rfl, Lib.hid (fun j hj => absurd hj (Nat.not_lt_zero j)), HB0⟩
  case round =>
    obtain ⟨k, ys, hk, rfl, HG, HL, HP, HQ, HBW⟩ := hrel
    by_cases hlt : k < xs.length
    · obtain ⟨b, off, rfl, hb, hc⟩ := HF.out.at_ hlt
      rw [← HBW.out.cell (p := ⟨b, off + k, none⟩) hb] at hc
      have hcall := Lib.hid (HA.out k hlt _ HBW.out)
      have HX : Hid (xs.getD k 0 = xs.getD k 0) := rfl
      obtain ⟨x, hx⟩ : ∃ x, x = xs.getD k 0 := ⟨_, rfl⟩
      rw [← hx] at hc hcall
      clear hx HX hb
      go_wp2_with fail
      refine hcall.out.mono ?_
      rintro e w1 ⟨r, rfl, hr, b1⟩
      have HG1 := Lib.hid (HG.out.below b1)
      have HB1 : Hid (Below w.heap.size w w1) := Lib.hid (below_of HBW.out HBW.out.size b1)
      have HR := Lib.hid hr
      clear hr b1 hc hcall
      cases pk : p k
      · have HN : Hid (alls p xs.length = false) := Lib.hid (alls_no (k := k + 1) (by simp only [alls, pk, Bool.and_false]) (by omega))
        clear pk
        go_wp2
        go_ret2
        exact ⟨none, 0, 0, [], by rw [HN.out]; rfl, .inl rfl, fun _ => rfl, fun h => absurd h (by rw [HN.out]; decide), HB1.out⟩
      · have HN : Hid (alls p (k + 1) = true) := Lib.hid (by simp only [alls, pk, HP.out, Bool.and_true])
        have hown := HG1.out
        clear pk
        unfold Gr at hown
        go_wp2_with (first
          | (at_builtin; refine wpList_append_own _ rfl _ _ 22 rfl w.heap.size 26 i0 (.float .f32 0) 1 4 Tryz.underlying22 hi hz0 hz1 hz2 rfl (by decide) _ _ _ rfl (hown.alloc _) ⟨_, 0, none⟩ 1 1 [.float .f32 r] rfl rfl ?c1 ?c2 ?c3 ?c4 ?c5 ?_)
          | fail)
        case c1 =>
          intro j u hj
          match j, hj with
          | 0, hj => simp at hj; subst hj; simp [Addr.add]
        case c2 => intro u hu; simp at hu; subst hu; rfl
        case c3 => have := HL.out; unfold maxLen; omega
        case c4 => have := HL.out; omega
        case c5 => have := HB1.out.size; simp; omega
        · intro v' w2 hown' hgrow _
          obtain ⟨g2, b2⟩ := Gr.next HG1.out HB1.out (Nat.le_refl _) hown' hgrow
          have HG2 := Lib.hid g2
          have HB2 := Lib.hid b2
          have HQ2 : Hid (∀ j, j < k + 1 → canon .f32 ((ys ++ [r]).getD j 0) = q j) := Lib.hid (fun j hj => by
            rw [getD_snoc _ _ _ (by rw [HL.out]; exact hj), HL.out]
            split
            · rename_i e; rw [HR.out, e]
            · exact HQ.out j (by omega))
          have HL2 : Hid ((ys ++ [r]).length = k + 1) := Lib.hid (by simp [HL.out])
          clear g2 b2 hown hown' hgrow
          go_wp2
          go_roundw
          case rel => exact ⟨k + 1, _, by omega, by go_num, HG2, HL2, HN, HQ2, HB2⟩
          case measure => simp [intOf]; omega
    · have hkk : k = xs.length := by omega
      subst hkk
      obtain ⟨A', cap', b', rfl, ho⟩ := HG.out.own
      have HO := Lib.hid ho
      clear ho
      go_wp2
      go_ret2
      exact ⟨A', cap', b', ys, by rw [HP.out]; rfl, HO.out, fun h => absurd h (by rw [HP.out]; decide), fun _ => ⟨HL.out, HQ.out⟩, HBW.out⟩
theorem i_powersOf_pc_long (f : Fn) (cs : Array Value) (Z : Option Addr) (cz : Nat) (xs : List Nat) (w : World) (h : ¬ xs.length ≤ 32) :
    Calls Tryz.prog 64 #[.slice Z xs.length cz, .func f #[] cs] w fun e w' => e = .returned (.tuple #[.slice none 0 0, .bool false]) ∧ w' = w := by
  go_enter Tryz.func64, Tryz.ntmps64
  go_wp2
  go_ret2
  exact ⟨rfl, rfl⟩
set_option maxHeartbeats 8000000 in
set_option maxRecDepth 100000 in
theorem i_PowerCurve (A L D S : Option Addr) (ca cl cd n cs : Nat) (c : Int) (hub tip : Nat) (a l d s : List Nat) (sp p dn : Nat) (Z : Option Addr) (cz : Nat) (wis : List Nat) (w : World) (h : Rt w A L D S a l d s) (hn : FewR a l d s n) (hcs : n ≤ cs) (hz : Fl w Z wis) (hzn : wis.length ≤ 1048576) :
    Calls Tryz.prog 31 #[.agg #[.slice A a.length ca, .slice L l.length cl, .slice D d.length cd, .slice S n cs, .int .i64 c, .float .f32 hub, .float .f32 tip], .slice Z wis.length cz, .float .f32 sp, .float .f32 p, .float .f32 dn] w fun e w' => ∃ A' c' g, e = .returned (.tuple #[.slice A' (pcL a l d s n c hub tip sp p dn wis).length c', .bool (pcO a l d s n c hub tip sp p dn wis)]) ∧ OwnO w' w.heap.size A' g (pcL a l d s n c hub tip sp p dn wis) ∧ Below w.heap.size w w' := by
  have HP := Lib.hid h
  have HN := Lib.hid hn
  have HZ := Lib.hid hz
  have HZN := Lib.hid hzn
  clear h hn hz hzn
  obtain ⟨w0, hw0⟩ : ∃ q, q = ((((w.alloc (.cells #[.slice A a.length ca, .slice L l.length cl, .slice D d.length cd, .slice S n cs, .int .i64 c, .float .f32 hub, .float .f32 tip] 35)).alloc (.cells #[.float .f32 sp] 26)).alloc (.cells #[.float .f32 p] 26)).alloc (.cells #[.float .f32 dn] 26)) := ⟨_, rfl⟩
  have B0 : Hid (Below w.heap.size w w0) := Lib.hid (by rw [hw0]; exact ((((Below.refl _ _).alloc (Nat.le_refl _) _).alloc (by simp <;> omega) _).alloc (by simp <;> omega) _).alloc (by simp <;> omega) _)
  have K00 : Hid (BlkL w0 (w.heap.size) [.slice A a.length ca, .slice L l.length cl, .slice D d.length cd, .slice S n cs, .int .i64 c, .float .f32 hub, .float .f32 tip]) := Lib.hid (by rw [hw0]; exact (((blkL_at w #[.slice A a.length ca, .slice L l.length cl, .slice D d.length cd, .slice S n cs, .int .i64 c, .float .f32 hub, .float .f32 tip] 35 rfl).alloc _).alloc _).alloc _)
  have K10 : Hid (BlkL w0 (w.heap.size + 1) [.float .f32 sp]) := Lib.hid (by rw [hw0]; exact ((blkL_at (w.alloc (.cells #[.slice A a.length ca, .slice L l.length cl, .slice D d.length cd, .slice S n cs, .int .i64 c, .float .f32 hub, .float .f32 tip] 35)) #[.float .f32 sp] 26 (by simp)).alloc _).alloc _)
  have K20 : Hid (BlkL w0 (w.heap.size + 2) [.float .f32 p]) := Lib.hid (by rw [hw0]; exact (blkL_at ((w.alloc (.cells #[.slice A a.length ca, .slice L l.length cl, .slice D d.length cd, .slice S n cs, .int .i64 c, .float .f32 hub, .float .f32 tip] 35)).alloc (.cells #[.float .f32 sp] 26)) #[.float .f32 p] 26 (by simp)).alloc _)
  have K30 : Hid (BlkL w0 (w.heap.size + 3) [.float .f32 dn]) := Lib.hid (by rw [hw0]; exact blkL_at (((w.alloc (.cells #[.slice A a.length ca, .slice L l.length cl, .slice D d.length cd, .slice S n cs, .int .i64 c, .float .f32 hub, .float .f32 tip] 35)).alloc (.cells #[.float .f32 sp] 26)).alloc (.cells #[.float .f32 p] 26)) #[.float .f32 dn] 26 (by simp))
  have k0 := (K00.out.2 0 _ rfl).1
  have k1 := (K00.out.2 1 _ rfl).1
  have k2 := (K00.out.2 2 _ rfl).1
  have k3 := (K00.out.2 3 _ rfl).1
  have k4 := (K00.out.2 4 _ rfl).1
  have k5 := (K00.out.2 5 _ rfl).1
  have k6 := (K00.out.2 6 _ rfl).1
  go_enter Tryz.func31, Tryz.ntmps31
  go_upto_region 1 with fail
  rw [← hw0]
  clear hw0
  go_wp2_with fail
  refine (i_ValidRotor A L D S ca cl cd n cs c hub tip a l d s _ (HP.out.below B0.out) HN.out).mono ?_
  rintro e w1 ⟨rfl, b1⟩
  clear k0 k1 k2 k3 k4 k5 k6
  have B1 : Hid (Below w.heap.size w w1) := Lib.hid (below_of B0.out B0.out.size b1)
  have K01 := Lib.hid (K00.out.below b1)
  have K11 := Lib.hid (K10.out.below b1)
  have K21 := Lib.hid (K20.out.below b1)
  have K31 := Lib.hid (K30.out.below b1)
  clear b1
  cases hv : validR a l d s n c hub tip
  · skip
    have HNo : Hid (pcO a l d s n c hub tip sp p dn wis = false) := Lib.hid (pcO_c (by unfold pcC; rw [hv]; simp))
    go_wp2
    go_ret2
    exact ⟨none, 0, 0, by rw [HNo.out, pcL_no HNo.out]; rfl, .inl (pcL_no HNo.out), B1.out⟩
  · have HV := Lib.hid hv
    clear hv
    have k1 := K11.out.one
    go_wp2_with fail
    refine (i_isPositive _ _).mono ?_
    rintro e w2 ⟨m2, rfl, hw2⟩
    have b2 : Below w1.heap.size w1 w2 := by rw [hw2]; exact below_draws (Below.refl _ _) _
    clear hw2 k1
    have B2 : Hid (Below w.heap.size w w2) := Lib.hid (below_of B1.out B1.out.size b2)
    have K02 := Lib.hid (K01.out.below b2)
    have K12 := Lib.hid (K11.out.below b2)
    have K22 := Lib.hid (K21.out.below b2)
    have K32 := Lib.hid (K31.out.below b2)
    clear b2
    cases hs : posi sp
    · skip
      have HNo : Hid (pcO a l d s n c hub tip sp p dn wis = false) := Lib.hid (pcO_c (by unfold pcC; rw [hs]; simp))
      go_wp2
      go_ret2
      exact ⟨none, 0, 0, by rw [HNo.out, pcL_no HNo.out]; rfl, .inl (pcL_no HNo.out), B2.out⟩
    · have HS := Lib.hid hs
      clear hs
      have k2 := K22.out.one
      go_wp2_with fail
      refine (i_IsFinite _ _).mono ?_
      rintro e w3 ⟨m3, rfl, hw3⟩
      have b3 : Below w2.heap.size w2 w3 := by rw [hw3]; exact below_draws (Below.refl _ _) _
      clear hw3 k2
      have B3 : Hid (Below w.heap.size w w3) := Lib.hid (below_of B2.out B2.out.size b3)
      have K03 := Lib.hid (K02.out.below b3)
      have K13 := Lib.hid (K12.out.below b3)
      have K23 := Lib.hid (K22.out.below b3)
      have K33 := Lib.hid (K32.out.below b3)
      clear b3
      cases hp : fin .f32 p
      · skip
        have HNo : Hid (pcO a l d s n c hub tip sp p dn wis = false) := Lib.hid (pcO_c (by unfold pcC; rw [hp]; simp))
        go_wp2
        go_ret2
        exact ⟨none, 0, 0, by rw [HNo.out, pcL_no HNo.out]; rfl, .inl (pcL_no HNo.out), B3.out⟩
      · have HPF := Lib.hid hp
        clear hp
        have k3 := K33.out.one
        go_wp2_with fail
        refine (i_isPositive _ _).mono ?_
        rintro e w4 ⟨m4, rfl, hw4⟩
        have b4 : Below w3.heap.size w3 w4 := by rw [hw4]; exact below_draws (Below.refl _ _) _
        clear hw4 k3
        have B4 : Hid (Below w.heap.size w w4) := Lib.hid (below_of B3.out B3.out.size b4)
        have K04 := Lib.hid (K03.out.below b4)
        have K14 := Lib.hid (K13.out.below b4)
        have K24 := Lib.hid (K23.out.below b4)
        have K34 := Lib.hid (K33.out.below b4)
        clear b4
        cases hd : posi dn
        · skip
          have HNo : Hid (pcO a l d s n c hub tip sp p dn wis = false) := Lib.hid (pcO_c (by unfold pcC; rw [hd]; simp))
          go_wp2
          go_ret2
          exact ⟨none, 0, 0, by rw [HNo.out, pcL_no HNo.out]; rfl, .inl (pcL_no HNo.out), B4.out⟩
        · have HD := Lib.hid hd
          clear hd
          by_cases h32 : wis.length ≤ 32
          · have HC : Hid (pcC a l d s n c hub tip sp p dn wis.length = true) := Lib.hid (by unfold pcC; rw [HV.out, HS.out, HPF.out, HD.out, decide_eq_true h32]; rfl)
            go_wp2_with fail
            refine (i_powersOf_pc _ _ _ _ (fun j => pcq a l d s n c hub tip sp p dn (wis.getD j 0)) (fun j => pcp a l d s n c hub tip sp p dn (wis.getD j 0)) Z cz wis _ (HZ.out.below B4.out) h32 (fun k hk wr hb => i_pcAt A L D S ca cl cd n cs c hub tip a l d s sp p dn _ w.heap.size (w.heap.size + 1) (w.heap.size + 2) (w.heap.size + 3) wr (HP.out.below (below_of B4.out B4.out.size hb)) HN.out hcs (K04.out.below hb) (K14.out.below hb).one (K24.out.below hb).one (K34.out.below hb).one)).mono ?_
            rintro e w9 ⟨A', cap', g', ys, rfl, ho, hz0, hq, b9⟩
            have HE : Hid (ys = pcL a l d s n c hub tip sp p dn wis ∧ alls (fun j => pcp a l d s n c hub tip sp p dn (wis.getD j 0)) wis.length = pcO a l d s n c hub tip sp p dn wis) := Lib.hid (by
              cases ha : alls (fun j => pcp a l d s n c hub tip sp p dn (wis.getD j 0)) wis.length
              · have h0 := pcO_a ha (Nat.le_refl _)
                exact ⟨by rw [pcL_no h0]; exact hz0 ha, h0.symm⟩
              · have h0 := pcO_yes HC.out ha
                obtain ⟨h1, h2⟩ := hq ha
                exact ⟨pcL_is h0 h1 h2, h0.symm⟩)
            have HO := Lib.hid (OwnO.leB ho B4.out.size)
            have B9 : Hid (Below w.heap.size w w9) := Lib.hid (below_of B4.out B4.out.size b9)
            clear ho hz0 hq b9
            go_wp2
            go_ret2
            exact ⟨A', cap', g', by rw [← HE.out.1, ← HE.out.2]; rfl, by rw [← HE.out.1]; exact HO.out, B9.out⟩
          · go_wp2_with fail
            refine (i_powersOf_pc_long _ _ Z cz wis _ h32).mono ?_
            rintro e w9 ⟨rfl, rfl⟩
            have HNo : Hid (pcO a l d s n c hub tip sp p dn wis = false) := Lib.hid (pcO_c (by unfold pcC; rw [decide_eq_false h32]; simp))
            go_wp2
            go_ret2
            exact ⟨none, 0, 0, by rw [HNo.out, pcL_no HNo.out]; rfl, .inl (pcL_no HNo.out), B4.out⟩
set_option maxHeartbeats 8000000 in
theorem i_btAt (A L D S : Option Addr) (ca cl cd n cs : Nat) (c : Int) (hub tip : Nat) (a l d s : List Nat) (wi sp dn x Br B1 B2 B3 : Nat) (w : World) (h : Rt w A L D S a l d s) (hn : FewR a l d s n) (hcs : n ≤ cs) (kr : BlkL w Br [.slice A a.length ca, .slice L l.length cl, .slice D d.length cd, .slice S n cs, .int .i64 c, .float .f32 hub, .float .f32 tip]) (k1 : w.cell? ⟨B1, 0, none⟩ = some (.float .f32 wi)) (k2 : w.cell? ⟨B2, 0, none⟩ = some (.float .f32 sp)) (k3 : w.cell? ⟨B3, 0, none⟩ = some (.float .f32 dn)) :
    Calls Tryz.prog 67 #[.float .f32 x, .pointer (some ⟨Br, 0, none⟩), .pointer (some ⟨B1, 0, none⟩), .pointer (some ⟨B2, 0, none⟩), .pointer (some ⟨B3, 0, none⟩)] w fun e w' => ∃ r, e = .returned (.tuple #[.float .f32 r, .bool (btp a l d s n c hub tip wi sp dn x)]) ∧ canon .f32 r = btq a l d s n c hub tip wi sp dn x ∧ Below w.heap.size w w' := by
  have HP := Lib.hid h
  have HN := Lib.hid hn
  have m0 := (kr.2 0 _ rfl).1
  have m1 := (kr.2 1 _ rfl).1
  have m2 := (kr.2 2 _ rfl).1
  have m3 := (kr.2 3 _ rfl).1
  have m4 := (kr.2 4 _ rfl).1
  have m5 := (kr.2 5 _ rfl).1
  have m6 := (kr.2 6 _ rfl).1
  clear h hn kr
  go_enter Tryz.func67, Tryz.ntmps67
  go_wp2_with fail
  refine (i_RotorPower A L D S ca cl cd n cs c hub tip a l d s wi sp x dn _ HP.out HN.out hcs).mono ?_
  rintro e w1 ⟨r, rfl, hr, b1⟩
  have HR := Lib.hid hr
  have B1 := Lib.hid b1
  clear hr b1
  go_wp2
  go_ret2
  exact ⟨r, rfl, HR.out, B1.out⟩
set_option maxHeartbeats 4000000 in
set_option maxRecDepth 100000 in
theorem i_powersOf_bt (c0 c1 c2 c3 : Value) (q : Nat → Nat) (p : Nat → Bool) (A : Option Addr) (cap : Nat) (xs : List Nat) (w : World) (h : Fl w A xs) (hn : xs.length ≤ 32)
    (hat : ∀ k, k < xs.length → ∀ wr, Below w.heap.size w wr → Calls Tryz.prog 67 #[.float .f32 (xs.getD k 0), c0, c1, c2, c3] wr fun e w' => ∃ r, e = .returned (.tuple #[.float .f32 r, .bool (p k)]) ∧ canon .f32 r = q k ∧ Below wr.heap.size wr w') :
    Calls Tryz.prog 64 #[.slice A xs.length cap, .func (.func 67) #[] #[c0, c1, c2, c3]] w fun e w' => ∃ (A' : Option Addr) (cap' g' : Nat) (ys : List Nat), e = .returned (.tuple #[.slice A' ys.length cap', .bool (alls p xs.length)]) ∧ OwnO w' w.heap.size A' g' ys ∧ (alls p xs.length = false → ys = []) ∧ (alls p xs.length = true → ys.length = xs.length ∧ ∀ k, k < xs.length → canon .f32 (ys.getD k 0) = q k) ∧ Below w.heap.size w w' := by
  have HA := Lib.hid hat; clear hat
  have HF := Lib.hid h; clear h
  obtain ⟨i0, hi, hz0, hz1, hz2⟩ := info_parts f32_info
  have hmk := run_make (P := Tryz.prog) w 22 26 i0 (.float .f32 0) (by kernel_rfl) hi hz0 .i64 .i64 0 xs.length (by omega) (by omega) (by rw [hz2]; omega) (by omega)
  rw [hz1] at hmk
  have hmk' : (Instr.makeSlice 22 (.int .i64 0) (.int .i64 xs.length)).run Tryz.prog w = .ok (.slice (some ⟨w.heap.size, 0, none⟩) 0 xs.length) (w.alloc (.cells (madeCells #[.float .f32 0] xs.length) 26)) := by
    rw [hmk]; simp [Value.cells]
  clear hmk
  have hst : Gr (w.alloc (.cells (madeCells #[.float .f32 0] xs.length) 26)) w.heap.size (.slice (some ⟨w.heap.size, 0, none⟩) 0 xs.length) [] := Gr.made _ _ _ _ (Nat.le_refl _) (by unfold maxLen; omega) (by simp [madeCells])
  have hb0 : Below w.heap.size w (w.alloc (.cells (madeCells #[.float .f32 0] xs.length) 26)) := (Below.refl _ _).alloc (Nat.le_refl _) _
  have HST := Lib.hid hst
  have HB0 := Lib.hid hb0
  clear hst hb0
  go_enter Tryz.func64, Tryz.ntmps64
  go_wp2
  clear hmk'
  go_loopw [6, 19] (fun v i wr => ∃ (k : Nat) (ys : List Nat), k ≤ xs.length ∧ i = .int .i64 k ∧ Hid (Gr wr w.heap.size v ys) ∧ Hid (ys.length = k) ∧ Hid (alls p k = true) ∧ Hid (∀ j, j < k → canon .f32 (ys.getD j 0) = q j) ∧ Hid (Below w.heap.size w wr)) (fun _ i _ => xs.length - (intOf i).toNat)
  case atStart => exact ⟨0, [], Nat.zero_le _, rfl, HST, rfl, rfl, Lib.hid (fun j hj => absurd hj (Nat.not_lt_zero j)), HB0⟩
  case round =>
    obtain ⟨k, ys, hk, rfl, HG, HL, HP, HQ, HBW⟩ := hrel
    by_cases hlt : k < xs.length
    · obtain ⟨b, off, rfl, hb, hc⟩ := HF.out.at_ hlt
      rw [← HBW.out.cell (p := ⟨b, off + k, none⟩) hb] at hc
      have hcall := Lib.hid (HA.out k hlt _ HBW.out)
      have HX : Hid (xs.getD k 0 = xs.getD k 0) := rfl
      obtain ⟨x, hx⟩ : ∃ x, x = xs.getD k 0 := ⟨_, rfl⟩
      rw [← hx] at hc hcall
      clear hx HX hb
      go_wp2_with fail
      refine hcall.out.mono ?_
      rintro e w1 ⟨r, rfl, hr, b1⟩
      have HG1 := Lib.hid (HG.out.below b1)
      have HB1 : Hid (Below w.heap.size w w1) := Lib.hid (below_of HBW.out HBW.out.size b1)
      have HR := Lib.hid hr
      clear hr b1 hc hcall
      cases pk : p k
      · have HN : Hid (alls p xs.length = false) := Lib.hid (alls_no (k := k + 1) (by simp only [alls, pk, Bool.and_false]) (by omega))
        clear pk
        go_wp2
        go_ret2
        exact ⟨none, 0, 0, [], by rw [HN.out]; rfl, .inl rfl, fun _ => rfl, fun h => absurd h (by rw [HN.out]; decide), HB1.out⟩
      · have HN : Hid (alls p (k + 1) = true) := Lib.hid (by simp only [alls, pk, HP.out, Bool.and_true])
        have hown := HG1.out
        clear pk
        unfold Gr at hown
        go_wp2_with (first
          | (at_builtin; refine wpList_append_own _ rfl _ _ 22 rfl w.heap.size 26 i0 (.float .f32 0) 1 4 Tryz.underlying22 hi hz0 hz1 hz2 rfl (by decide) _ _ _ rfl (hown.alloc _) ⟨_, 0, none⟩ 1 1 [.float .f32 r] rfl rfl ?c1 ?c2 ?c3 ?c4 ?c5 ?_)
          | fail)
        case c1 =>
          intro j u hj
          match j, hj with
          | 0, hj => simp at hj; subst hj; simp [Addr.add]
        case c2 => intro u hu; simp at hu; subst hu; rfl
        case c3 => have := HL.out; unfold maxLen; omega
        case c4 => have := HL.out; omega
        case c5 => have := HB1.out.size; simp; omega
        · intro v' w2 hown' hgrow _
          obtain ⟨g2, b2⟩ := Gr.next HG1.out HB1.out (Nat.le_refl _) hown' hgrow
          have HG2 := Lib.hid g2
          have HB2 := Lib.hid b2
          have HQ2 : Hid (∀ j, j < k + 1 → canon .f32 ((ys ++ [r]).getD j 0) = q j) := Lib.hid (fun j hj => by
            rw [getD_snoc _ _ _ (by rw [HL.out]; exact hj), HL.out]
            split
            · rename_i e; rw [HR.out, e]
            · exact HQ.out j (by omega))
          have HL2 : Hid ((ys ++ [r]).length = k + 1) := Lib.hid (by simp [HL.out])
          clear g2 b2 hown hown' hgrow
          go_wp2
          go_roundw
          case rel => exact ⟨k + 1, _, by omega, by go_num, HG2, HL2, HN, HQ2, HB2⟩
          case measure => simp [intOf]; omega
    · have hkk : k = xs.length := by omega
      subst hkk
      obtain ⟨A', cap', b', rfl, ho⟩ := HG.out.own
      have HO := Lib.hid ho
      clear ho
      go_wp2
      go_ret2
      exact ⟨A', cap', b', ys, by rw [HP.out]; rfl, HO.out, fun h => absurd h (by rw [HP.out]; decide), fun _ => ⟨HL.out, HQ.out⟩, HBW.out⟩
theorem i_powersOf_bt_long (f : Fn) (cs : Array Value) (Z : Option Addr) (cz : Nat) (xs : List Nat) (w : World) (h : ¬ xs.length ≤ 32) :
    Calls Tryz.prog 64 #[.slice Z xs.length cz, .func f #[] cs] w fun e w' => e = .returned (.tuple #[.slice none 0 0, .bool false]) ∧ w' = w := by
  go_enter Tryz.func64, Tryz.ntmps64
  go_wp2
  go_ret2
  exact ⟨rfl, rfl⟩
set_option maxHeartbeats 8000000 in
set_option maxRecDepth 100000 in
theorem i_BestTwist (A L D S : Option Addr) (ca cl cd n cs : Nat) (c : Int) (hub tip : Nat) (a l d s : List Nat) (wi sp dn : Nat) (Z : Option Addr) (cz : Nat) (ps : List Nat) (w : World) (h : Rt w A L D S a l d s) (hn : FewR a l d s n) (hcs : n ≤ cs) (hz : Fl w Z ps) (hzn : ps.length ≤ 1048576) :
    Calls Tryz.prog 33 #[.agg #[.slice A a.length ca, .slice L l.length cl, .slice D d.length cd, .slice S n cs, .int .i64 c, .float .f32 hub, .float .f32 tip], .float .f32 wi, .float .f32 sp, .slice Z ps.length cz, .float .f32 dn] w fun e w' => ∃ r, e = .returned (.tuple #[.int .i64 (btI a l d s n c hub tip wi sp dn ps), .float .f32 r, .bool (btO a l d s n c hub tip wi sp dn ps)]) ∧ canon .f32 r = btR a l d s n c hub tip wi sp dn ps ∧ Below w.heap.size w w' := by
  have HP := Lib.hid h
  have HN := Lib.hid hn
  have HZ := Lib.hid hz
  have HZN := Lib.hid hzn
  clear h hn hz hzn
  obtain ⟨w0, hw0⟩ : ∃ q, q = ((((w.alloc (.cells #[.slice A a.length ca, .slice L l.length cl, .slice D d.length cd, .slice S n cs, .int .i64 c, .float .f32 hub, .float .f32 tip] 35)).alloc (.cells #[.float .f32 wi] 26)).alloc (.cells #[.float .f32 sp] 26)).alloc (.cells #[.float .f32 dn] 26)) := ⟨_, rfl⟩
  have B0 : Hid (Below w.heap.size w w0) := Lib.hid (by rw [hw0]; exact ((((Below.refl _ _).alloc (Nat.le_refl _) _).alloc (by simp <;> omega) _).alloc (by simp <;> omega) _).alloc (by simp <;> omega) _)
  have K00 : Hid (BlkL w0 (w.heap.size) [.slice A a.length ca, .slice L l.length cl, .slice D d.length cd, .slice S n cs, .int .i64 c, .float .f32 hub, .float .f32 tip]) := Lib.hid (by rw [hw0]; exact (((blkL_at w #[.slice A a.length ca, .slice L l.length cl, .slice D d.length cd, .slice S n cs, .int .i64 c, .float .f32 hub, .float .f32 tip] 35 rfl).alloc _).alloc _).alloc _)
  have K10 : Hid (BlkL w0 (w.heap.size + 1) [.float .f32 wi]) := Lib.hid (by rw [hw0]; exact ((blkL_at (w.alloc (.cells #[.slice A a.length ca, .slice L l.length cl, .slice D d.length cd, .slice S n cs, .int .i64 c, .float .f32 hub, .float .f32 tip] 35)) #[.float .f32 wi] 26 (by simp)).alloc _).alloc _)
  have K20 : Hid (BlkL w0 (w.heap.size + 2) [.float .f32 sp]) := Lib.hid (by rw [hw0]; exact (blkL_at ((w.alloc (.cells #[.slice A a.length ca, .slice L l.length cl, .slice D d.length cd, .slice S n cs, .int .i64 c, .float .f32 hub, .float .f32 tip] 35)).alloc (.cells #[.float .f32 wi] 26)) #[.float .f32 sp] 26 (by simp)).alloc _)
  have K30 : Hid (BlkL w0 (w.heap.size + 3) [.float .f32 dn]) := Lib.hid (by rw [hw0]; exact blkL_at (((w.alloc (.cells #[.slice A a.length ca, .slice L l.length cl, .slice D d.length cd, .slice S n cs, .int .i64 c, .float .f32 hub, .float .f32 tip] 35)).alloc (.cells #[.float .f32 wi] 26)).alloc (.cells #[.float .f32 sp] 26)) #[.float .f32 dn] 26 (by simp))
  go_enter Tryz.func33, Tryz.ntmps33
  go_upto_region 1 with fail
  rw [← hw0]
  clear hw0
  by_cases h32 : ps.length ≤ 32
  · go_wp2_with fail
    refine (i_powersOf_bt _ _ _ _ (fun j => btq a l d s n c hub tip wi sp dn (ps.getD j 0)) (fun j => btp a l d s n c hub tip wi sp dn (ps.getD j 0)) Z cz ps _ (HZ.out.below B0.out) h32 (fun k hk wr hb => i_btAt A L D S ca cl cd n cs c hub tip a l d s wi sp dn _ w.heap.size (w.heap.size + 1) (w.heap.size + 2) (w.heap.size + 3) wr (HP.out.below (below_of B0.out B0.out.size hb)) HN.out hcs (K00.out.below hb) (K10.out.below hb).one (K20.out.below hb).one (K30.out.below hb).one)).mono ?_
    rintro e w9 ⟨A', cap', g', ys, rfl, ho, hz0, hq, b9⟩
    have B9 : Hid (Below w.heap.size w w9) := Lib.hid (below_of B0.out B0.out.size b9)
    cases ha : alls (fun j => btp a l d s n c hub tip wi sp dn (ps.getD j 0)) ps.length
    · have HA := Lib.hid ha
      clear ha ho hz0 hq b9
      have HNo : Hid (btO a l d s n c hub tip wi sp dn ps = false) := Lib.hid (btO_a HA.out (Nat.le_refl _))
      go_wp2
      refine bodyPost_ret (results_tmp3 rfl _ _ _) rfl ?_
      exact ⟨0, by rw [HNo.out, (bt_no HNo.out).1]; rfl, by rw [(bt_no HNo.out).2]; exact canon_zero, B9.out⟩
    · have HF := Lib.hid ho.fl
      obtain ⟨h1, h2⟩ := hq ha
      obtain ⟨e1, e2⟩ := btL_is ha h1 h2
      have HA := Lib.hid ha
      have HY := Lib.hid h1
      have HE := Lib.hid e1
      have HI := Lib.hid e2
      clear ha ho hz0 hq b9 h1 h2 e1 e2
      go_wp2_with fail
      refine (i_firstGreatest A' cap' ys _ HF.out (by rw [HY.out]; omega)).mono ?_
      rintro e w5 ⟨m5, rfl, rfl⟩
      by_cases hz : 1 ≤ ps.length
      · have HNo : Hid (btO a l d s n c hub tip wi sp dn ps = true) := Lib.hid (btO_yes ⟨hz, h32⟩ HA.out)
        have HG : Hid (fg ys ys.length = some (bi ys ps.length)) := Lib.hid (by rw [HY.out]; exact fg_bi _ hz HI.out)
        rw [HG.out]
        have HBI : Hid (canon .f32 (ys.getD (bi ys ps.length) 0) = ys.getD (bi ys ps.length) 0) := Lib.hid (canon_of_not (HI.out _ (bi_lt hz _ (Nat.le_refl _))))
        go_wp2
        refine bodyPost_ret (results_tmp3 rfl _ _ _) rfl ?_
        exact ⟨_, by rw [HNo.out, (bt_yes HNo.out).1, ← HE.out]; rfl, by rw [(bt_yes HNo.out).2, ← HE.out]; exact HBI.out, below_draws B9.out _⟩
      · have hy0 : ps.length = 0 := by omega
        have HG : Hid (fg ys ys.length = none) := Lib.hid (by rw [HY.out, hy0]; rfl)
        rw [HG.out]
        have HNo : Hid (btO a l d s n c hub tip wi sp dn ps = false) := Lib.hid (btO_z (by omega))
        go_wp2
        refine bodyPost_ret (results_tmp3 rfl _ _ _) rfl ?_
        exact ⟨0, by rw [HNo.out, (bt_no HNo.out).1]; rfl, by rw [(bt_no HNo.out).2]; exact canon_zero, below_draws B9.out _⟩
  · go_wp2_with fail
    refine (i_powersOf_bt_long _ _ Z cz ps _ h32).mono ?_
    rintro e w9 ⟨rfl, rfl⟩
    have HNo : Hid (btO a l d s n c hub tip wi sp dn ps = false) := Lib.hid (btO_z (by omega))
    go_wp2
    refine bodyPost_ret (results_tmp3 rfl _ _ _) rfl ?_
    exact ⟨0, by rw [HNo.out, (bt_no HNo.out).1]; rfl, by rw [(bt_no HNo.out).2]; exact canon_zero, B0.out⟩
set_option maxHeartbeats 8000000 in
theorem i_bsAt (A L D S : Option Addr) (ca cl cd n cs : Nat) (c : Int) (hub tip : Nat) (a l d s : List Nat) (wi p dn x Br B1 B2 B3 : Nat) (w : World) (h : Rt w A L D S a l d s) (hn : FewR a l d s n) (hcs : n ≤ cs) (kr : BlkL w Br [.slice A a.length ca, .slice L l.length cl, .slice D d.length cd, .slice S n cs, .int .i64 c, .float .f32 hub, .float .f32 tip]) (k1 : w.cell? ⟨B1, 0, none⟩ = some (.float .f32 wi)) (k2 : w.cell? ⟨B2, 0, none⟩ = some (.float .f32 p)) (k3 : w.cell? ⟨B3, 0, none⟩ = some (.float .f32 dn)) :
    Calls Tryz.prog 69 #[.float .f32 x, .pointer (some ⟨Br, 0, none⟩), .pointer (some ⟨B1, 0, none⟩), .pointer (some ⟨B2, 0, none⟩), .pointer (some ⟨B3, 0, none⟩)] w fun e w' => ∃ r, e = .returned (.tuple #[.float .f32 r, .bool (bsp a l d s n c hub tip wi p dn x)]) ∧ canon .f32 r = bsq a l d s n c hub tip wi p dn x ∧ Below w.heap.size w w' := by
  have HP := Lib.hid h
  have HN := Lib.hid hn
  have m0 := (kr.2 0 _ rfl).1
  have m1 := (kr.2 1 _ rfl).1
  have m2 := (kr.2 2 _ rfl).1
  have m3 := (kr.2 3 _ rfl).1
  have m4 := (kr.2 4 _ rfl).1
  have m5 := (kr.2 5 _ rfl).1
  have m6 := (kr.2 6 _ rfl).1
  clear h hn kr
  go_enter Tryz.func69, Tryz.ntmps69
  go_wp2_with fail
  refine (i_RotorPower A L D S ca cl cd n cs c hub tip a l d s wi x p dn _ HP.out HN.out hcs).mono ?_
  rintro e w1 ⟨r, rfl, hr, b1⟩
  have HR := Lib.hid hr
  have B1 := Lib.hid b1
  clear hr b1
  go_wp2
  go_ret2
  exact ⟨r, rfl, HR.out, B1.out⟩
set_option maxHeartbeats 4000000 in
set_option maxRecDepth 100000 in
theorem i_powersOf_bs (c0 c1 c2 c3 : Value) (q : Nat → Nat) (p : Nat → Bool) (A : Option Addr) (cap : Nat) (xs : List Nat) (w : World) (h : Fl w A xs) (hn : xs.length ≤ 32)
    (hat : ∀ k, k < xs.length → ∀ wr, Below w.heap.size w wr → Calls Tryz.prog 69 #[.float .f32 (xs.getD k 0), c0, c1, c2, c3] wr fun e w' => ∃ r, e = .returned (.tuple #[.float .f32 r, .bool (p k)]) ∧ canon .f32 r = q k ∧ Below wr.heap.size wr w') :
    Calls Tryz.prog 64 #[.slice A xs.length cap, .func (.func 69) #[] #[c0, c1, c2, c3]] w fun e w' => ∃ (A' : Option Addr) (cap' g' : Nat) (ys : List Nat), e = .returned (.tuple #[.slice A' ys.length cap', .bool (alls p xs.length)]) ∧ OwnO w' w.heap.size A' g' ys ∧ (alls p xs.length = false → ys = []) ∧ (alls p xs.length = true → ys.length = xs.length ∧ ∀ k, k < xs.length → canon .f32 (ys.getD k 0) = q k) ∧ Below w.heap.size w w' := by
  have HA := Lib.hid hat; clear hat
  have HF := Lib.hid h; clear h
  obtain ⟨i0, hi, hz0, hz1, hz2⟩ := info_parts f32_info
  have hmk := run_make (P := Tryz.prog) w 22 26 i0 (.float .f32 0) (by kernel_rfl) hi hz0 .i64 .i64 0 xs.length (by omega) (by omega) (by rw [hz2]; omega) (by omega)
  rw [hz1] at hmk
  have hmk' : (Instr.makeSlice 22 (.int .i64 0) (.int .i64 xs.length)).run Tryz.prog w = .ok (.slice (some ⟨w.heap.size, 0, none⟩) 0 xs.length) (w.alloc (.cells (madeCells #[.float .f32 0] xs.length) 26)) := by
    rw [hmk]; simp [Value.cells]
  clear hmk
  have hst : Gr (w.alloc (.cells (madeCells #[.float .f32 0] xs.length) 26)) w.heap.size (.slice (some ⟨w.heap.size, 0, none⟩) 0 xs.length) [] := Gr.made _ _ _ _ (Nat.le_refl _) (by unfold maxLen; omega) (by simp [madeCells])
  have hb0 : Below w.heap.size w (w.alloc (.cells (madeCells #[.float .f32 0] xs.length) 26)) := (Below.refl _ _).alloc (Nat.le_refl _) _
  have HST := Lib.hid hst
  have HB0 := Lib.hid hb0
  clear hst hb0
  go_enter Tryz.func64, Tryz.ntmps64
  go_wp2
  clear hmk'
  go_loopw [6, 19] (fun v i wr => ∃ (k : Nat) (ys : List Nat), k ≤ xs.length ∧ i = .int .i64 k ∧ Hid (Gr wr w.heap.size v ys) ∧ Hid (ys.length = k) ∧ Hid (alls p k = true) ∧ Hid (∀ j, j < k → canon .f32 (ys.getD j 0) = q j) ∧ Hid (Below w.heap.size w wr)) (fun _ i _ => xs.length - (intOf i).toNat)
  case atStart => exact ⟨0, [], Nat.zero_le _, rfl, HST, rfl, rfl, Lib.hid (fun j hj => absurd hj (Nat.not_lt_zero j)), HB0⟩
  case round =>
    obtain ⟨k, ys, hk, rfl, HG, HL, HP, HQ, HBW⟩ := hrel
    by_cases hlt : k < xs.length
    · obtain ⟨b, off, rfl, hb, hc⟩ := HF.out.at_ hlt
      rw [← HBW.out.cell (p := ⟨b, off + k, none⟩) hb] at hc
      have hcall := Lib.hid (HA.out k hlt _ HBW.out)
      have HX : Hid (xs.getD k 0 = xs.getD k 0) := rfl
      obtain ⟨x, hx⟩ : ∃ x, x = xs.getD k 0 := ⟨_, rfl⟩
      rw [← hx] at hc hcall
      clear hx HX hb
      go_wp2_with fail
      refine hcall.out.mono ?_
      rintro e w1 ⟨r, rfl, hr, b1⟩
      have HG1 := Lib.hid (HG.out.below b1)
      have HB1 : Hid (Below w.heap.size w w1) := Lib.hid (below_of HBW.out HBW.out.size b1)
      have HR := Lib.hid hr
      clear hr b1 hc hcall
      cases pk : p k
      · have HN : Hid (alls p xs.length = false) := Lib.hid (alls_no (k := k + 1) (by simp only [alls, pk, Bool.and_false]) (by omega))
        clear pk
        go_wp2
        go_ret2
        exact ⟨none, 0, 0, [], by rw [HN.out]; rfl, .inl rfl, fun _ => rfl, fun h => absurd h (by rw [HN.out]; decide), HB1.out⟩
      · have HN : Hid (alls p (k + 1) = true) := Lib.hid (by simp only [alls, pk, HP.out, Bool.and_true])
        have hown := HG1.out
        clear pk
        unfold Gr at hown
        go_wp2_with (first
          | (at_builtin; refine wpList_append_own _ rfl _ _ 22 rfl w.heap.size 26 i0 (.float .f32 0) 1 4 Tryz.underlying22 hi hz0 hz1 hz2 rfl (by decide) _ _ _ rfl (hown.alloc _) ⟨_, 0, none⟩ 1 1 [.float .f32 r] rfl rfl ?c1 ?c2 ?c3 ?c4 ?c5 ?_)
          | fail)
        case c1 =>
          intro j u hj
          match j, hj with
          | 0, hj => simp at hj; subst hj; simp [Addr.add]
        case c2 => intro u hu; simp at hu; subst hu; rfl
        case c3 => have := HL.out; unfold maxLen; omega
        case c4 => have := HL.out; omega
        case c5 => have := HB1.out.size; simp; omega
        · intro v' w2 hown' hgrow _
          obtain ⟨g2, b2⟩ := Gr.next HG1.out HB1.out (Nat.le_refl _) hown' hgrow
          have HG2 := Lib.hid g2
          have HB2 := Lib.hid b2
          have HQ2 : Hid (∀ j, j < k + 1 → canon .f32 ((ys ++ [r]).getD j 0) = q j) := Lib.hid (fun j hj => by
            rw [getD_snoc _ _ _ (by rw [HL.out]; exact hj), HL.out]
            split
            · rename_i e; rw [HR.out, e]
            · exact HQ.out j (by omega))
          have HL2 : Hid ((ys ++ [r]).length = k + 1) := Lib.hid (by simp [HL.out])
          clear g2 b2 hown hown' hgrow
          go_wp2
          go_roundw
          case rel => exact ⟨k + 1, _, by omega, by go_num, HG2, HL2, HN, HQ2, HB2⟩
          case measure => simp [intOf]; omega
    · have hkk : k = xs.length := by omega
      subst hkk
      obtain ⟨A', cap', b', rfl, ho⟩ := HG.out.own
      have HO := Lib.hid ho
      clear ho
      go_wp2
      go_ret2
      exact ⟨A', cap', b', ys, by rw [HP.out]; rfl, HO.out, fun h => absurd h (by rw [HP.out]; decide), fun _ => ⟨HL.out, HQ.out⟩, HBW.out⟩
theorem i_powersOf_bs_long (f : Fn) (cs : Array Value) (Z : Option Addr) (cz : Nat) (xs : List Nat) (w : World) (h : ¬ xs.length ≤ 32) :
    Calls Tryz.prog 64 #[.slice Z xs.length cz, .func f #[] cs] w fun e w' => e = .returned (.tuple #[.slice none 0 0, .bool false]) ∧ w' = w := by
  go_enter Tryz.func64, Tryz.ntmps64
  go_wp2
  go_ret2
  exact ⟨rfl, rfl⟩
set_option maxHeartbeats 8000000 in
set_option maxRecDepth 100000 in
theorem i_BestSpeed (A L D S : Option Addr) (ca cl cd n cs : Nat) (c : Int) (hub tip : Nat) (a l d s : List Nat) (wi p dn : Nat) (Z : Option Addr) (cz : Nat) (sps : List Nat) (w : World) (h : Rt w A L D S a l d s) (hn : FewR a l d s n) (hcs : n ≤ cs) (hz : Fl w Z sps) (hzn : sps.length ≤ 1048576) :
    Calls Tryz.prog 35 #[.agg #[.slice A a.length ca, .slice L l.length cl, .slice D d.length cd, .slice S n cs, .int .i64 c, .float .f32 hub, .float .f32 tip], .float .f32 wi, .slice Z sps.length cz, .float .f32 p, .float .f32 dn] w fun e w' => ∃ r, e = .returned (.tuple #[.int .i64 (bsI a l d s n c hub tip wi p dn sps), .float .f32 r, .bool (bsO a l d s n c hub tip wi p dn sps)]) ∧ canon .f32 r = bsR a l d s n c hub tip wi p dn sps ∧ Below w.heap.size w w' := by
  have HP := Lib.hid h
  have HN := Lib.hid hn
  have HZ := Lib.hid hz
  have HZN := Lib.hid hzn
  clear h hn hz hzn
  obtain ⟨w0, hw0⟩ : ∃ q, q = ((((w.alloc (.cells #[.slice A a.length ca, .slice L l.length cl, .slice D d.length cd, .slice S n cs, .int .i64 c, .float .f32 hub, .float .f32 tip] 35)).alloc (.cells #[.float .f32 wi] 26)).alloc (.cells #[.float .f32 p] 26)).alloc (.cells #[.float .f32 dn] 26)) := ⟨_, rfl⟩
  have B0 : Hid (Below w.heap.size w w0) := Lib.hid (by rw [hw0]; exact ((((Below.refl _ _).alloc (Nat.le_refl _) _).alloc (by simp <;> omega) _).alloc (by simp <;> omega) _).alloc (by simp <;> omega) _)
  have K00 : Hid (BlkL w0 (w.heap.size) [.slice A a.length ca, .slice L l.length cl, .slice D d.length cd, .slice S n cs, .int .i64 c, .float .f32 hub, .float .f32 tip]) := Lib.hid (by rw [hw0]; exact (((blkL_at w #[.slice A a.length ca, .slice L l.length cl, .slice D d.length cd, .slice S n cs, .int .i64 c, .float .f32 hub, .float .f32 tip] 35 rfl).alloc _).alloc _).alloc _)
  have K10 : Hid (BlkL w0 (w.heap.size + 1) [.float .f32 wi]) := Lib.hid (by rw [hw0]; exact ((blkL_at (w.alloc (.cells #[.slice A a.length ca, .slice L l.length cl, .slice D d.length cd, .slice S n cs, .int .i64 c, .float .f32 hub, .float .f32 tip] 35)) #[.float .f32 wi] 26 (by simp)).alloc _).alloc _)
  have K20 : Hid (BlkL w0 (w.heap.size + 2) [.float .f32 p]) := Lib.hid (by rw [hw0]; exact (blkL_at ((w.alloc (.cells #[.slice A a.length ca, .slice L l.length cl, .slice D d.length cd, .slice S n cs, .int .i64 c, .float .f32 hub, .float .f32 tip] 35)).alloc (.cells #[.float .f32 wi] 26)) #[.float .f32 p] 26 (by simp)).alloc _)
  have K30 : Hid (BlkL w0 (w.heap.size + 3) [.float .f32 dn]) := Lib.hid (by rw [hw0]; exact blkL_at (((w.alloc (.cells #[.slice A a.length ca, .slice L l.length cl, .slice D d.length cd, .slice S n cs, .int .i64 c, .float .f32 hub, .float .f32 tip] 35)).alloc (.cells #[.float .f32 wi] 26)).alloc (.cells #[.float .f32 p] 26)) #[.float .f32 dn] 26 (by simp))
  go_enter Tryz.func35, Tryz.ntmps35
  go_upto_region 1 with fail
  rw [← hw0]
  clear hw0
  by_cases h32 : sps.length ≤ 32
  · go_wp2_with fail
    refine (i_powersOf_bs _ _ _ _ (fun j => bsq a l d s n c hub tip wi p dn (sps.getD j 0)) (fun j => bsp a l d s n c hub tip wi p dn (sps.getD j 0)) Z cz sps _ (HZ.out.below B0.out) h32 (fun k hk wr hb => i_bsAt A L D S ca cl cd n cs c hub tip a l d s wi p dn _ w.heap.size (w.heap.size + 1) (w.heap.size + 2) (w.heap.size + 3) wr (HP.out.below (below_of B0.out B0.out.size hb)) HN.out hcs (K00.out.below hb) (K10.out.below hb).one (K20.out.below hb).one (K30.out.below hb).one)).mono ?_
    rintro e w9 ⟨A', cap', g', ys, rfl, ho, hz0, hq, b9⟩
    have B9 : Hid (Below w.heap.size w w9) := Lib.hid (below_of B0.out B0.out.size b9)
    cases ha : alls (fun j => bsp a l d s n c hub tip wi p dn (sps.getD j 0)) sps.length
    · have HA := Lib.hid ha
      clear ha ho hz0 hq b9
      have HNo : Hid (bsO a l d s n c hub tip wi p dn sps = false) := Lib.hid (bsO_a HA.out (Nat.le_refl _))
      go_wp2
      refine bodyPost_ret (results_tmp3 rfl _ _ _) rfl ?_
      exact ⟨0, by rw [HNo.out, (bs_no HNo.out).1]; rfl, by rw [(bs_no HNo.out).2]; exact canon_zero, B9.out⟩
    · have HF := Lib.hid ho.fl
      obtain ⟨h1, h2⟩ := hq ha
      obtain ⟨e1, e2⟩ := bsL_is ha h1 h2
      have HA := Lib.hid ha
      have HY := Lib.hid h1
      have HE := Lib.hid e1
      have HI := Lib.hid e2
      clear ha ho hz0 hq b9 h1 h2 e1 e2
      go_wp2_with fail
      refine (i_firstGreatest A' cap' ys _ HF.out (by rw [HY.out]; omega)).mono ?_
      rintro e w5 ⟨m5, rfl, rfl⟩
      by_cases hz : 1 ≤ sps.length
      · have HNo : Hid (bsO a l d s n c hub tip wi p dn sps = true) := Lib.hid (bsO_yes ⟨hz, h32⟩ HA.out)
        have HG : Hid (fg ys ys.length = some (bi ys sps.length)) := Lib.hid (by rw [HY.out]; exact fg_bi _ hz HI.out)
        rw [HG.out]
        have HBI : Hid (canon .f32 (ys.getD (bi ys sps.length) 0) = ys.getD (bi ys sps.length) 0) := Lib.hid (canon_of_not (HI.out _ (bi_lt hz _ (Nat.le_refl _))))
        go_wp2
        refine bodyPost_ret (results_tmp3 rfl _ _ _) rfl ?_
        exact ⟨_, by rw [HNo.out, (bs_yes HNo.out).1, ← HE.out]; rfl, by rw [(bs_yes HNo.out).2, ← HE.out]; exact HBI.out, below_draws B9.out _⟩
      · have hy0 : sps.length = 0 := by omega
        have HG : Hid (fg ys ys.length = none) := Lib.hid (by rw [HY.out, hy0]; rfl)
        rw [HG.out]
        have HNo : Hid (bsO a l d s n c hub tip wi p dn sps = false) := Lib.hid (bsO_z (by omega))
        go_wp2
        refine bodyPost_ret (results_tmp3 rfl _ _ _) rfl ?_
        exact ⟨0, by rw [HNo.out, (bs_no HNo.out).1]; rfl, by rw [(bs_no HNo.out).2]; exact canon_zero, below_draws B9.out _⟩
  · go_wp2_with fail
    refine (i_powersOf_bs_long _ _ Z cz sps _ h32).mono ?_
    rintro e w9 ⟨rfl, rfl⟩
    have HNo : Hid (bsO a l d s n c hub tip wi p dn sps = false) := Lib.hid (bsO_z (by omega))
    go_wp2
    refine bodyPost_ret (results_tmp3 rfl _ _ _) rfl ?_
    exact ⟨0, by rw [HNo.out, (bs_no HNo.out).1]; rfl, by rw [(bs_no HNo.out).2]; exact canon_zero, B0.out⟩
end Go.Proofs.YtahbcpjipomcgaaGreat
namespace Go.Proofs.YtahbcpjipomcgaaGreat
open Go Go.RowKit
set_option maxHeartbeats 8000000 in
theorem s_l03Best (A : Option Addr) (cap : Nat) (xs : List Nat) (w : World) (h : Fl w A xs) (h1 : 1 ≤ xs.length) (hn : xs.length ≤ 1048576) :
    Calls Tryz.prog 66 #[.slice A xs.length cap] w fun e w' => e = .returned (.tuple #[.int .i64 (bi xs xs.length : Nat), .float .f32 (xs.getD (bi xs xs.length) 0)]) ∧ ∃ m, w' = w.drewN m := by
  have HF := Lib.hid h
  clear h
  go_enter Tryz.func66, Tryz.ntmps66
  go_wp2_with fail
  go_loopw [4, 8] (fun b i wr => ∃ (k m : Nat), k ≤ xs.length ∧ i = .int .i64 k ∧ b = .int .i64 (bi xs k : Nat) ∧ wr = w.drewN m) (fun _ i _ => xs.length - (intOf i).toNat)
  case atStart => exact ⟨0, 0, Nat.zero_le _, rfl, rfl, rfl⟩
  case round =>
    obtain ⟨k, m, hk, rfl, rfl, rfl⟩ := hrel
    have hb := bi_lt (xs := xs) h1 k hk
    by_cases hlt : k < xs.length
    · obtain ⟨b, off, rfl, -, c0⟩ := HF.out.at_ hlt
      have c1 := HF.out.same rfl hb
      have HS : Hid (bi xs (k + 1) = if gtr32 (xs.getD k 0) (xs.getD (bi xs k) 0) then k else bi xs k) := rfl
      have HG : Hid ((FloatKind.f32.format.order (xs.getD k 0) (xs.getD (bi xs k) 0) == some .gt) = gtr32 (xs.getD k 0) (xs.getD (bi xs k) 0)) := rfl
      generalize xs.getD k 0 = x at c0 HS HG
      generalize xs.getD (bi xs k) 0 = y at c1 HS HG
      generalize bi xs k = j at c1 HS hb ⊢
      go_wp2_with fail
      go_region_with (fail)
      all_goals
        cases hg : gtr32 x y
        · have e1 := HG.out
          rw [hg] at e1
          have HJ : Hid (bi xs (k + 1) = j) := Lib.hid (by rw [HS.out, hg]; rfl)
          clear hg
          rw [e1]
          go_wp2
          go_roundw
          case rel => exact ⟨k + 1, _, by omega, by go_num, by rw [HJ.out], rfl⟩
          case measure => simp [intOf]; omega
        · have e1 := HG.out
          rw [hg] at e1
          have HJ : Hid (bi xs (k + 1) = k) := Lib.hid (by rw [HS.out, hg]; rfl)
          clear hg
          rw [e1]
          go_wp2
          go_roundw
          case rel => exact ⟨k + 1, _, by omega, by go_num, by rw [HJ.out], rfl⟩
          case measure => simp [intOf]; omega
    · have hkk : k = xs.length := by omega
      subst hkk
      obtain ⟨b, off, rfl, -, c1⟩ := HF.out.at_ hb
      obtain ⟨j, hj⟩ : ∃ j, Hid (bi xs xs.length = j) := ⟨_, Lib.hid rfl⟩
      rw [hj.out] at c1 hb ⊢
      obtain ⟨y, hy⟩ : ∃ y, Hid (xs.getD j 0 = y) := ⟨_, Lib.hid rfl⟩
      rw [hy.out] at c1
      go_wp2_with fail
      go_region_with (fail)
      all_goals
        go_wp2
        refine bodyPost_ret (v := .tuple #[.int .i64 (j : Nat), .float .f32 y]) (by simp [results, Tryz.results66, go_sem, Act.put]) rfl ⟨by rw [hj.out, hy.out], _, rfl⟩
set_option maxHeartbeats 8000000 in
set_option maxRecDepth 100000 in
theorem s_PowerCurve (A L D S : Option Addr) (ca cl cd n cs : Nat) (c : Int) (hub tip : Nat) (a l d s : List Nat) (sp p dn : Nat) (Z : Option Addr) (cz : Nat) (wis : List Nat) (w : World) (h : Rt w A L D S a l d s) (hn : FewR a l d s n) (hz : Fl w Z wis) :
    Calls Tryz.prog 29 #[.agg #[.slice A a.length ca, .slice L l.length cl, .slice D d.length cd, .slice S n cs, .int .i64 c, .float .f32 hub, .float .f32 tip], .slice Z wis.length cz, .float .f32 sp, .float .f32 p, .float .f32 dn] w fun e w' => ∃ A' c' g, e = .returned (.tuple #[.slice A' (pcL a l d s n c hub tip sp p dn wis).length c', .bool (pcO a l d s n c hub tip sp p dn wis)]) ∧ OwnO w' w.heap.size A' g (pcL a l d s n c hub tip sp p dn wis) ∧ Below w.heap.size w w' := by
  have HP := Lib.hid h
  have HN := Lib.hid hn
  have HZ := Lib.hid hz
  clear h hn hz
  obtain ⟨w0, hw0⟩ : ∃ q, q = w.alloc (.cells #[.slice A a.length ca, .slice L l.length cl, .slice D d.length cd, .slice S n cs, .int .i64 c, .float .f32 hub, .float .f32 tip] 35) := ⟨_, rfl⟩
  have B0 : Hid (Below w.heap.size w w0) := Lib.hid (by rw [hw0]; exact (Below.refl _ _).alloc (Nat.le_refl _) _)
  have K0 : Hid (Blk7 w0 w.heap.size A L D S a l d ca cl cd n cs c hub tip) := Lib.hid (by rw [hw0]; exact blk7_at w A L D S a l d ca cl cd n cs c hub tip _ rfl)
  go_enter Tryz.func29, Tryz.ntmps29
  go_upto_region 1 with fail
  rw [← hw0]
  clear hw0
  go_wp2_with fail
  refine (s_l03Is A L D S ca cl cd n cs c hub tip a l d s w.heap.size _ (HP.out.below B0.out) HN.out K0.out).mono ?_
  rintro e w1 ⟨rfl, b1⟩
  have B1 : Hid (Below w.heap.size w w1) := Lib.hid (below_of B0.out B0.out.size b1)
  have K1 : Hid (Blk7 w1 w.heap.size A L D S a l d ca cl cd n cs c hub tip) := Lib.hid (K0.out.below b1)
  clear b1
  cases hv : validR a l d s n c hub tip
  · skip
    have HNo : Hid (pcO a l d s n c hub tip sp p dn wis = false) := Lib.hid (pcO_c (by unfold pcC; rw [hv]; simp))
    go_wp2
    go_ret2
    exact ⟨none, 0, 0, by rw [HNo.out, pcL_no HNo.out]; rfl, .inl (pcL_no HNo.out), B1.out⟩
  · have HV := Lib.hid hv
    clear hv
    go_wp2_with fail
    refine (s_l02Above _ _).mono ?_
    rintro e w2 ⟨m2, rfl, hw2⟩
    have b2 : Below w1.heap.size w1 w2 := by rw [hw2]; exact below_draws (Below.refl _ _) _
    clear hw2
    have B2 : Hid (Below w.heap.size w w2) := Lib.hid (below_of B1.out B1.out.size b2)
    have K2 : Hid (Blk7 w2 w.heap.size A L D S a l d ca cl cd n cs c hub tip) := Lib.hid (K1.out.below b2)
    clear b2
    cases hs : posi sp
    · skip
      have HNo : Hid (pcO a l d s n c hub tip sp p dn wis = false) := Lib.hid (pcO_c (by unfold pcC; rw [hs]; simp))
      go_wp2
      go_ret2
      exact ⟨none, 0, 0, by rw [HNo.out, pcL_no HNo.out]; rfl, .inl (pcL_no HNo.out), B2.out⟩
    · have HS := Lib.hid hs
      clear hs
      go_wp2_with fail
      refine (s_l01Finite _ _).mono ?_
      rintro e w3 ⟨m3, rfl, hw3⟩
      have b3 : Below w2.heap.size w2 w3 := by rw [hw3]; exact below_draws (Below.refl _ _) _
      clear hw3
      have B3 : Hid (Below w.heap.size w w3) := Lib.hid (below_of B2.out B2.out.size b3)
      have K3 : Hid (Blk7 w3 w.heap.size A L D S a l d ca cl cd n cs c hub tip) := Lib.hid (K2.out.below b3)
      clear b3
      cases hp : fin .f32 p
      · skip
        have HNo : Hid (pcO a l d s n c hub tip sp p dn wis = false) := Lib.hid (pcO_c (by unfold pcC; rw [hp]; simp))
        go_wp2
        go_ret2
        exact ⟨none, 0, 0, by rw [HNo.out, pcL_no HNo.out]; rfl, .inl (pcL_no HNo.out), B3.out⟩
      · have HPF := Lib.hid hp
        clear hp
        go_wp2_with fail
        refine (s_l02Above _ _).mono ?_
        rintro e w4 ⟨m4, rfl, hw4⟩
        have b4 : Below w3.heap.size w3 w4 := by rw [hw4]; exact below_draws (Below.refl _ _) _
        clear hw4
        have B4 : Hid (Below w.heap.size w w4) := Lib.hid (below_of B3.out B3.out.size b4)
        have K4 : Hid (Blk7 w4 w.heap.size A L D S a l d ca cl cd n cs c hub tip) := Lib.hid (K3.out.below b4)
        clear b4
        cases hd : posi dn
        · skip
          have HNo : Hid (pcO a l d s n c hub tip sp p dn wis = false) := Lib.hid (pcO_c (by unfold pcC; rw [hd]; simp))
          go_wp2
          go_ret2
          exact ⟨none, 0, 0, by rw [HNo.out, pcL_no HNo.out]; rfl, .inl (pcL_no HNo.out), B4.out⟩
        · have HD := Lib.hid hd
          clear hd
          by_cases h32 : wis.length ≤ 32
          · have HC : Hid (pcC a l d s n c hub tip sp p dn wis.length = true) := Lib.hid (by unfold pcC; rw [HV.out, HS.out, HPF.out, HD.out, decide_eq_true h32]; rfl)
            obtain ⟨i0, hi, hz0, hz1_, hz2⟩ := info_parts f32_info
            have HST : Hid (Gr (w4.alloc (.cells #[] 26)) w4.heap.size (.slice (some ⟨w4.heap.size, 0, none⟩) 0 0) []) := Lib.hid (Gr.made _ _ 0 #[] (Nat.le_refl _) (by unfold maxLen; omega) rfl)
            have HB0 : Hid (Below w4.heap.size w4 (w4.alloc (.cells #[] 26))) := Lib.hid ((Below.refl _ _).alloc (Nat.le_refl _) _)
            go_wp2
            go_loopw [12, 41] (fun v i wr => ∃ (k : Nat) (ys : List Nat), k ≤ wis.length ∧ i = .int .i64 k ∧ Hid (Gr wr w4.heap.size v ys) ∧ Hid (ys.length = k) ∧ Hid (∀ j, j < k → canon .f32 (ys.getD j 0) = pcq a l d s n c hub tip sp p dn (wis.getD j 0)) ∧ Hid (alls (fun j => pcp a l d s n c hub tip sp p dn (wis.getD j 0)) k = true) ∧ Hid (Below w4.heap.size w4 wr)) (fun _ i _ => wis.length - (intOf i).toNat)
            case atStart => exact ⟨0, [], Nat.zero_le _, rfl, HST, rfl, Lib.hid (fun j hj => absurd hj (Nat.not_lt_zero j)), rfl, HB0⟩
            case round =>
              obtain ⟨k, ys, hk, rfl, HG, HL, HQ, HA, HBW⟩ := hrel
              clear HST HB0
              have HBr : Hid (Below w.heap.size w wr) := Lib.hid (below_of B4.out B4.out.size HBW.out)
              by_cases hlt : k < wis.length
              · obtain ⟨bz, oz, rfl, hbz, hcz⟩ := HZ.out.at_ hlt
                have c0 := (HBr.out.cell (p := ⟨bz, oz + k, none⟩) hbz).trans hcz
                obtain ⟨k0, k1, k2, k3, k4, k5, k6⟩ := (K4.out.below HBW.out).limbs
                have HCL : Hid (∀ W, Below w.heap.size w W → Blk7 W w.heap.size A L D S a l d ca cl cd n cs c hub tip → Calls Tryz.prog 59 #[.pointer (some ⟨w.heap.size, 0, none⟩), .float .f32 (wis.getD k 0), .float .f32 sp, .float .f32 p, .float .f32 dn] W fun e w' => ∃ r, e = .returned (.tuple #[.float .f32 r, .bool (pcp a l d s n c hub tip sp p dn (wis.getD k 0))]) ∧ canon .f32 r = pcq a l d s n c hub tip sp p dn (wis.getD k 0) ∧ Below W.heap.size W w') := Lib.hid (fun W hb hk => s_l03Power A L D S ca cl cd n cs c hub tip a l d s w.heap.size (wis.getD k 0) sp p dn W (HP.out.below hb) HN.out hk)
                have HPK : Hid (alls (fun j => pcp a l d s n c hub tip sp p dn (wis.getD j 0)) (k + 1) = pcp a l d s n c hub tip sp p dn (wis.getD k 0)) := Lib.hid (by simp only [alls]; rw [HA.out]; rfl)
                obtain ⟨q, hq⟩ : ∃ q, Hid (q = pcq a l d s n c hub tip sp p dn (wis.getD k 0)) := ⟨_, Lib.hid rfl⟩
                obtain ⟨pk, hpk⟩ : ∃ q, Hid (q = pcp a l d s n c hub tip sp p dn (wis.getD k 0)) := ⟨_, Lib.hid rfl⟩
                rw [← hq.out, ← hpk.out] at HCL
                rw [← hpk.out] at HPK
                clear hcz
                obtain ⟨x, hxe⟩ : ∃ x, x = wis.getD k 0 := ⟨_, rfl⟩
                rw [← hxe] at c0 HCL hq hpk
                have HXE := Lib.hid hxe
                clear hxe
                go_wp2_with fail
                refine (HCL.out _ HBr.out (K4.out.below HBW.out)).mono ?_
                rintro e w5 ⟨r, rfl, hr, b5⟩
                have B5 : Hid (Below w4.heap.size w4 w5) := Lib.hid (below_of HBW.out HBW.out.size b5)
                have B5w : Hid (Below w.heap.size w w5) := Lib.hid (below_of HBr.out HBr.out.size b5)
                have HG5 := Lib.hid (HG.out.below b5)
                have HR := Lib.hid hr
                clear b5 hr HG c0 k0 k1 k2 k3 k4 k5 k6 HCL
                cases hp : pk
                · have HPF : Hid (alls (fun j => pcp a l d s n c hub tip sp p dn (wis.getD j 0)) (k + 1) = false) := Lib.hid (HPK.out.trans hp)
                  clear hp
                  have HNo : Hid (pcO a l d s n c hub tip sp p dn wis = false) := Lib.hid (pcO_a HPF.out (by omega))
                  go_wp2
                  go_ret2
                  exact ⟨none, 0, 0, by rw [HNo.out, pcL_no HNo.out]; rfl, .inl (pcL_no HNo.out), B5w.out⟩
                · have HPT : Hid (alls (fun j => pcp a l d s n c hub tip sp p dn (wis.getD j 0)) (k + 1) = true) := Lib.hid (HPK.out.trans hp)
                  clear hp
                  go_wp2_with (first
                    | (at_builtin; refine wpList_append_own _ rfl _ _ 22 rfl w4.heap.size 26 i0 (.float .f32 0) 1 4 Tryz.underlying22 hi hz0 hz1_ hz2 rfl (by decide) _ _ _ rfl (World.ownsRow.alloc (Gr.of_ownsRow HG5.out) _) ⟨_, 0, none⟩ 1 1 [.float .f32 r] rfl rfl ?c1 ?c2 ?c3 ?c4 ?c5 ?_)
                    | fail)
                  case c1 =>
                    intro j u hj
                    match j, hj with
                    | 0, hj => simp at hj; subst hj; simp [Addr.add]
                  case c2 => intro u hu; simp at hu; subst hu; rfl
                  case c3 => have := HL.out; unfold maxLen; omega
                  case c4 => have := HL.out; omega
                  case c5 => have := B5.out.size; simp; omega
                  · intro v' w7 hown' hgrow _
                    obtain ⟨g7, b7⟩ := Gr.next HG5.out B5.out (Nat.le_refl _) hown' hgrow
                    have HG7 := Lib.hid g7
                    have B7 := Lib.hid b7
                    have HL7 : Hid ((ys ++ [r]).length = k + 1) := Lib.hid (by simp [HL.out])
                    have HQ7 : Hid (∀ j, j < k + 1 → canon .f32 ((ys ++ [r]).getD j 0) = pcq a l d s n c hub tip sp p dn (wis.getD j 0)) := Lib.hid (fun j hj => by
                      rw [getD_snoc _ _ _ (by rw [HL.out]; exact hj), HL.out]
                      by_cases e : j = k
                      · rw [if_pos e, HR.out, hq.out, HXE.out, e]
                      · rw [if_neg e]; exact HQ.out j (by omega))
                    clear g7 b7 hown' hgrow HG5
                    go_wp2
                    go_roundw
                    case rel => exact ⟨k + 1, ys ++ [r], by omega, by go_num, HG7, HL7, HQ7, HPT, B7⟩
                    case measure => simp [intOf]; omega
              · have hkk : k = wis.length := by omega
                have HNo : Hid (pcO a l d s n c hub tip sp p dn wis = true) := Lib.hid (pcO_yes HC.out (by have := HA.out; rw [hkk] at this; exact this))
                obtain ⟨A', c', g', rfl, ho⟩ := HG.out.own
                have HO := Lib.hid (OwnO.leB ho B4.out.size)
                have HE : Hid (ys = pcL a l d s n c hub tip sp p dn wis) := Lib.hid (pcL_is HNo.out (by rw [HL.out, hkk]) (fun j hj => HQ.out j (by omega)))
                clear ho HG
                go_wp2
                go_ret2
                exact ⟨A', c', g', by rw [← HE.out, HNo.out]; rfl, by rw [← HE.out]; exact HO.out, HBr.out⟩
          · skip
            have HNo : Hid (pcO a l d s n c hub tip sp p dn wis = false) := Lib.hid (pcO_c (by unfold pcC; rw [decide_eq_false h32]; simp))
            go_wp2
            go_ret2
            exact ⟨none, 0, 0, by rw [HNo.out, pcL_no HNo.out]; rfl, .inl (pcL_no HNo.out), B4.out⟩
set_option maxHeartbeats 8000000 in
set_option maxRecDepth 100000 in
theorem s_BestTwist (A L D S : Option Addr) (ca cl cd n cs : Nat) (c : Int) (hub tip : Nat) (a l d s : List Nat) (wi sp dn : Nat) (Z : Option Addr) (cz : Nat) (ps : List Nat) (w : World) (h : Rt w A L D S a l d s) (hn : FewR a l d s n) (hz : Fl w Z ps) :
    Calls Tryz.prog 32 #[.agg #[.slice A a.length ca, .slice L l.length cl, .slice D d.length cd, .slice S n cs, .int .i64 c, .float .f32 hub, .float .f32 tip], .float .f32 wi, .float .f32 sp, .slice Z ps.length cz, .float .f32 dn] w fun e w' => ∃ r, e = .returned (.tuple #[.int .i64 (btI a l d s n c hub tip wi sp dn ps), .float .f32 r, .bool (btO a l d s n c hub tip wi sp dn ps)]) ∧ canon .f32 r = btR a l d s n c hub tip wi sp dn ps ∧ Below w.heap.size w w' := by
  have HP := Lib.hid h
  have HN := Lib.hid hn
  have HZ := Lib.hid hz
  clear h hn hz
  obtain ⟨w0, hw0⟩ : ∃ q, q = w.alloc (.cells #[.slice A a.length ca, .slice L l.length cl, .slice D d.length cd, .slice S n cs, .int .i64 c, .float .f32 hub, .float .f32 tip] 35) := ⟨_, rfl⟩
  have B0 : Hid (Below w.heap.size w w0) := Lib.hid (by rw [hw0]; exact (Below.refl _ _).alloc (Nat.le_refl _) _)
  have K0 : Hid (Blk7 w0 w.heap.size A L D S a l d ca cl cd n cs c hub tip) := Lib.hid (by rw [hw0]; exact blk7_at w A L D S a l d ca cl cd n cs c hub tip _ rfl)
  go_enter Tryz.func32, Tryz.ntmps32
  go_upto_region 1 with fail
  rw [← hw0]
  clear hw0
  by_cases hz1 : 1 ≤ ps.length
  · by_cases h32 : ps.length ≤ 32
    · skip
      obtain ⟨i0, hi, hz0, hz1_, hz2⟩ := info_parts f32_info
      have HST : Hid (Gr (w0.alloc (.cells #[] 26)) w0.heap.size (.slice (some ⟨w0.heap.size, 0, none⟩) 0 0) []) := Lib.hid (Gr.made _ _ 0 #[] (Nat.le_refl _) (by unfold maxLen; omega) rfl)
      have HB0 : Hid (Below w0.heap.size w0 (w0.alloc (.cells #[] 26))) := Lib.hid ((Below.refl _ _).alloc (Nat.le_refl _) _)
      go_wp2
      go_loopw [13, 30] (fun v i wr => ∃ (k : Nat) (ys : List Nat), k ≤ ps.length ∧ i = .int .i64 k ∧ Hid (Gr wr w0.heap.size v ys) ∧ Hid (ys.length = k) ∧ Hid (∀ j, j < k → canon .f32 (ys.getD j 0) = btq a l d s n c hub tip wi sp dn (ps.getD j 0)) ∧ Hid (alls (fun j => btp a l d s n c hub tip wi sp dn (ps.getD j 0)) k = true) ∧ Hid (Below w0.heap.size w0 wr)) (fun _ i _ => ps.length - (intOf i).toNat)
      case atStart => exact ⟨0, [], Nat.zero_le _, rfl, HST, rfl, Lib.hid (fun j hj => absurd hj (Nat.not_lt_zero j)), rfl, HB0⟩
      case round =>
        obtain ⟨k, ys, hk, rfl, HG, HL, HQ, HA, HBW⟩ := hrel
        clear HST HB0
        have HBr : Hid (Below w.heap.size w wr) := Lib.hid (below_of B0.out B0.out.size HBW.out)
        by_cases hlt : k < ps.length
        · obtain ⟨bz, oz, rfl, hbz, hcz⟩ := HZ.out.at_ hlt
          have c0 := (HBr.out.cell (p := ⟨bz, oz + k, none⟩) hbz).trans hcz
          obtain ⟨k0, k1, k2, k3, k4, k5, k6⟩ := (K0.out.below HBW.out).limbs
          have HCL : Hid (∀ W, Below w.heap.size w W → Blk7 W w.heap.size A L D S a l d ca cl cd n cs c hub tip → Calls Tryz.prog 59 #[.pointer (some ⟨w.heap.size, 0, none⟩), .float .f32 wi, .float .f32 sp, .float .f32 (ps.getD k 0), .float .f32 dn] W fun e w' => ∃ r, e = .returned (.tuple #[.float .f32 r, .bool (btp a l d s n c hub tip wi sp dn (ps.getD k 0))]) ∧ canon .f32 r = btq a l d s n c hub tip wi sp dn (ps.getD k 0) ∧ Below W.heap.size W w') := Lib.hid (fun W hb hk => s_l03Power A L D S ca cl cd n cs c hub tip a l d s w.heap.size wi sp (ps.getD k 0) dn W (HP.out.below hb) HN.out hk)
          have HPK : Hid (alls (fun j => btp a l d s n c hub tip wi sp dn (ps.getD j 0)) (k + 1) = btp a l d s n c hub tip wi sp dn (ps.getD k 0)) := Lib.hid (by simp only [alls]; rw [HA.out]; rfl)
          obtain ⟨q, hq⟩ : ∃ q, Hid (q = btq a l d s n c hub tip wi sp dn (ps.getD k 0)) := ⟨_, Lib.hid rfl⟩
          obtain ⟨pk, hpk⟩ : ∃ q, Hid (q = btp a l d s n c hub tip wi sp dn (ps.getD k 0)) := ⟨_, Lib.hid rfl⟩
          rw [← hq.out, ← hpk.out] at HCL
          rw [← hpk.out] at HPK
          clear hcz
          obtain ⟨x, hxe⟩ : ∃ x, x = ps.getD k 0 := ⟨_, rfl⟩
          rw [← hxe] at c0 HCL hq hpk
          have HXE := Lib.hid hxe
          clear hxe
          go_wp2_with fail
          refine (HCL.out _ HBr.out (K0.out.below HBW.out)).mono ?_
          rintro e w5 ⟨r, rfl, hr, b5⟩
          have B5 : Hid (Below w0.heap.size w0 w5) := Lib.hid (below_of HBW.out HBW.out.size b5)
          have B5w : Hid (Below w.heap.size w w5) := Lib.hid (below_of HBr.out HBr.out.size b5)
          have HG5 := Lib.hid (HG.out.below b5)
          have HR := Lib.hid hr
          clear b5 hr HG c0 k0 k1 k2 k3 k4 k5 k6 HCL
          cases hp : pk
          · have HPF : Hid (alls (fun j => btp a l d s n c hub tip wi sp dn (ps.getD j 0)) (k + 1) = false) := Lib.hid (HPK.out.trans hp)
            clear hp
            have HNo : Hid (btO a l d s n c hub tip wi sp dn ps = false) := Lib.hid (btO_a HPF.out (by omega))
            go_wp2
            refine bodyPost_ret (results_tmp3 rfl _ _ _) rfl ?_
            exact ⟨0, by rw [HNo.out, (bt_no HNo.out).1]; rfl, by rw [(bt_no HNo.out).2]; exact canon_zero, B5w.out⟩
          · have HPT : Hid (alls (fun j => btp a l d s n c hub tip wi sp dn (ps.getD j 0)) (k + 1) = true) := Lib.hid (HPK.out.trans hp)
            clear hp
            go_wp2_with (first
              | (at_builtin; refine wpList_append_own _ rfl _ _ 22 rfl w0.heap.size 26 i0 (.float .f32 0) 1 4 Tryz.underlying22 hi hz0 hz1_ hz2 rfl (by decide) _ _ _ rfl (World.ownsRow.alloc (Gr.of_ownsRow HG5.out) _) ⟨_, 0, none⟩ 1 1 [.float .f32 r] rfl rfl ?c1 ?c2 ?c3 ?c4 ?c5 ?_)
              | fail)
            case c1 =>
              intro j u hj
              match j, hj with
              | 0, hj => simp at hj; subst hj; simp [Addr.add]
            case c2 => intro u hu; simp at hu; subst hu; rfl
            case c3 => have := HL.out; unfold maxLen; omega
            case c4 => have := HL.out; omega
            case c5 => have := B5.out.size; simp; omega
            · intro v' w7 hown' hgrow _
              obtain ⟨g7, b7⟩ := Gr.next HG5.out B5.out (Nat.le_refl _) hown' hgrow
              have HG7 := Lib.hid g7
              have B7 := Lib.hid b7
              have HL7 : Hid ((ys ++ [r]).length = k + 1) := Lib.hid (by simp [HL.out])
              have HQ7 : Hid (∀ j, j < k + 1 → canon .f32 ((ys ++ [r]).getD j 0) = btq a l d s n c hub tip wi sp dn (ps.getD j 0)) := Lib.hid (fun j hj => by
                rw [getD_snoc _ _ _ (by rw [HL.out]; exact hj), HL.out]
                by_cases e : j = k
                · rw [if_pos e, HR.out, hq.out, HXE.out, e]
                · rw [if_neg e]; exact HQ.out j (by omega))
              clear g7 b7 hown' hgrow HG5
              go_wp2
              go_roundw
              case rel => exact ⟨k + 1, ys ++ [r], by omega, by go_num, HG7, HL7, HQ7, HPT, B7⟩
              case measure => simp [intOf]; omega
        · have hkk : k = ps.length := by omega
          have ha : alls (fun j => btp a l d s n c hub tip wi sp dn (ps.getD j 0)) ps.length = true := by have := HA.out; rw [hkk] at this; exact this
          have HNo : Hid (btO a l d s n c hub tip wi sp dn ps = true) := Lib.hid (btO_yes ⟨hz1, h32⟩ ha)
          have hyl : ys.length = ps.length := by rw [HL.out, hkk]
          obtain ⟨e1, e2⟩ := btL_is ha hyl (fun j hj => HQ.out j (by omega))
          have HE := Lib.hid e1
          have HI := Lib.hid e2
          obtain ⟨A', c', g', rfl, ho⟩ := HG.out.own
          have HF := Lib.hid ho.fl
          have HY := Lib.hid hyl
          have HBI : Hid (canon .f32 (ys.getD (bi ys ps.length) 0) = ys.getD (bi ys ps.length) 0) := Lib.hid (canon_of_not (HI.out _ (bi_lt hz1 _ (Nat.le_refl _))))
          clear ho HG ha e1 e2 hyl
          go_wp2_with fail
          refine (s_l03Best A' c' ys _ HF.out (by rw [HY.out]; exact hz1) (by rw [HY.out]; omega)).mono ?_
          rintro e w5 ⟨rfl, m5, rfl⟩
          rw [HY.out]
          go_wp2
          refine bodyPost_ret (results_tmp3 rfl _ _ _) rfl ?_
          exact ⟨_, by rw [HNo.out, (bt_yes HNo.out).1, ← HE.out]; rfl, by rw [(bt_yes HNo.out).2, ← HE.out]; exact HBI.out, below_draws HBr.out _⟩
    · skip
      have HNo : Hid (btO a l d s n c hub tip wi sp dn ps = false) := Lib.hid (btO_z (by omega))
      go_wp2
      refine bodyPost_ret (results_tmp3 rfl _ _ _) rfl ?_
      exact ⟨0, by rw [HNo.out, (bt_no HNo.out).1]; rfl, by rw [(bt_no HNo.out).2]; exact canon_zero, B0.out⟩
  · skip
    have HNo : Hid (btO a l d s n c hub tip wi sp dn ps = false) := Lib.hid (btO_z (by omega))
    go_wp2
    refine bodyPost_ret (results_tmp3 rfl _ _ _) rfl ?_
    exact ⟨0, by rw [HNo.out, (bt_no HNo.out).1]; rfl, by rw [(bt_no HNo.out).2]; exact canon_zero, B0.out⟩
set_option maxHeartbeats 8000000 in
set_option maxRecDepth 100000 in
theorem s_BestSpeed (A L D S : Option Addr) (ca cl cd n cs : Nat) (c : Int) (hub tip : Nat) (a l d s : List Nat) (wi p dn : Nat) (Z : Option Addr) (cz : Nat) (sps : List Nat) (w : World) (h : Rt w A L D S a l d s) (hn : FewR a l d s n) (hz : Fl w Z sps) :
    Calls Tryz.prog 34 #[.agg #[.slice A a.length ca, .slice L l.length cl, .slice D d.length cd, .slice S n cs, .int .i64 c, .float .f32 hub, .float .f32 tip], .float .f32 wi, .slice Z sps.length cz, .float .f32 p, .float .f32 dn] w fun e w' => ∃ r, e = .returned (.tuple #[.int .i64 (bsI a l d s n c hub tip wi p dn sps), .float .f32 r, .bool (bsO a l d s n c hub tip wi p dn sps)]) ∧ canon .f32 r = bsR a l d s n c hub tip wi p dn sps ∧ Below w.heap.size w w' := by
  have HP := Lib.hid h
  have HN := Lib.hid hn
  have HZ := Lib.hid hz
  clear h hn hz
  obtain ⟨w0, hw0⟩ : ∃ q, q = w.alloc (.cells #[.slice A a.length ca, .slice L l.length cl, .slice D d.length cd, .slice S n cs, .int .i64 c, .float .f32 hub, .float .f32 tip] 35) := ⟨_, rfl⟩
  have B0 : Hid (Below w.heap.size w w0) := Lib.hid (by rw [hw0]; exact (Below.refl _ _).alloc (Nat.le_refl _) _)
  have K0 : Hid (Blk7 w0 w.heap.size A L D S a l d ca cl cd n cs c hub tip) := Lib.hid (by rw [hw0]; exact blk7_at w A L D S a l d ca cl cd n cs c hub tip _ rfl)
  go_enter Tryz.func34, Tryz.ntmps34
  go_upto_region 1 with fail
  rw [← hw0]
  clear hw0
  by_cases hz1 : 1 ≤ sps.length
  · by_cases h32 : sps.length ≤ 32
    · skip
      obtain ⟨i0, hi, hz0, hz1_, hz2⟩ := info_parts f32_info
      have HST : Hid (Gr (w0.alloc (.cells #[] 26)) w0.heap.size (.slice (some ⟨w0.heap.size, 0, none⟩) 0 0) []) := Lib.hid (Gr.made _ _ 0 #[] (Nat.le_refl _) (by unfold maxLen; omega) rfl)
      have HB0 : Hid (Below w0.heap.size w0 (w0.alloc (.cells #[] 26))) := Lib.hid ((Below.refl _ _).alloc (Nat.le_refl _) _)
      go_wp2
      go_loopw [13, 30] (fun v i wr => ∃ (k : Nat) (ys : List Nat), k ≤ sps.length ∧ i = .int .i64 k ∧ Hid (Gr wr w0.heap.size v ys) ∧ Hid (ys.length = k) ∧ Hid (∀ j, j < k → canon .f32 (ys.getD j 0) = bsq a l d s n c hub tip wi p dn (sps.getD j 0)) ∧ Hid (alls (fun j => bsp a l d s n c hub tip wi p dn (sps.getD j 0)) k = true) ∧ Hid (Below w0.heap.size w0 wr)) (fun _ i _ => sps.length - (intOf i).toNat)
      case atStart => exact ⟨0, [], Nat.zero_le _, rfl, HST, rfl, Lib.hid (fun j hj => absurd hj (Nat.not_lt_zero j)), rfl, HB0⟩
      case round =>
        obtain ⟨k, ys, hk, rfl, HG, HL, HQ, HA, HBW⟩ := hrel
        clear HST HB0
        have HBr : Hid (Below w.heap.size w wr) := Lib.hid (below_of B0.out B0.out.size HBW.out)
        by_cases hlt : k < sps.length
        · obtain ⟨bz, oz, rfl, hbz, hcz⟩ := HZ.out.at_ hlt
          have c0 := (HBr.out.cell (p := ⟨bz, oz + k, none⟩) hbz).trans hcz
          obtain ⟨k0, k1, k2, k3, k4, k5, k6⟩ := (K0.out.below HBW.out).limbs
          have HCL : Hid (∀ W, Below w.heap.size w W → Blk7 W w.heap.size A L D S a l d ca cl cd n cs c hub tip → Calls Tryz.prog 59 #[.pointer (some ⟨w.heap.size, 0, none⟩), .float .f32 wi, .float .f32 (sps.getD k 0), .float .f32 p, .float .f32 dn] W fun e w' => ∃ r, e = .returned (.tuple #[.float .f32 r, .bool (bsp a l d s n c hub tip wi p dn (sps.getD k 0))]) ∧ canon .f32 r = bsq a l d s n c hub tip wi p dn (sps.getD k 0) ∧ Below W.heap.size W w') := Lib.hid (fun W hb hk => s_l03Power A L D S ca cl cd n cs c hub tip a l d s w.heap.size wi (sps.getD k 0) p dn W (HP.out.below hb) HN.out hk)
          have HPK : Hid (alls (fun j => bsp a l d s n c hub tip wi p dn (sps.getD j 0)) (k + 1) = bsp a l d s n c hub tip wi p dn (sps.getD k 0)) := Lib.hid (by simp only [alls]; rw [HA.out]; rfl)
          obtain ⟨q, hq⟩ : ∃ q, Hid (q = bsq a l d s n c hub tip wi p dn (sps.getD k 0)) := ⟨_, Lib.hid rfl⟩
          obtain ⟨pk, hpk⟩ : ∃ q, Hid (q = bsp a l d s n c hub tip wi p dn (sps.getD k 0)) := ⟨_, Lib.hid rfl⟩
          rw [← hq.out, ← hpk.out] at HCL
          rw [← hpk.out] at HPK
          clear hcz
          obtain ⟨x, hxe⟩ : ∃ x, x = sps.getD k 0 := ⟨_, rfl⟩
          rw [← hxe] at c0 HCL hq hpk
          have HXE := Lib.hid hxe
          clear hxe
          go_wp2_with fail
          refine (HCL.out _ HBr.out (K0.out.below HBW.out)).mono ?_
          rintro e w5 ⟨r, rfl, hr, b5⟩
          have B5 : Hid (Below w0.heap.size w0 w5) := Lib.hid (below_of HBW.out HBW.out.size b5)
          have B5w : Hid (Below w.heap.size w w5) := Lib.hid (below_of HBr.out HBr.out.size b5)
          have HG5 := Lib.hid (HG.out.below b5)
          have HR := Lib.hid hr
          clear b5 hr HG c0 k0 k1 k2 k3 k4 k5 k6 HCL
          cases hp : pk
          · have HPF : Hid (alls (fun j => bsp a l d s n c hub tip wi p dn (sps.getD j 0)) (k + 1) = false) := Lib.hid (HPK.out.trans hp)
            clear hp
            have HNo : Hid (bsO a l d s n c hub tip wi p dn sps = false) := Lib.hid (bsO_a HPF.out (by omega))
            go_wp2
            refine bodyPost_ret (results_tmp3 rfl _ _ _) rfl ?_
            exact ⟨0, by rw [HNo.out, (bs_no HNo.out).1]; rfl, by rw [(bs_no HNo.out).2]; exact canon_zero, B5w.out⟩
          · have HPT : Hid (alls (fun j => bsp a l d s n c hub tip wi p dn (sps.getD j 0)) (k + 1) = true) := Lib.hid (HPK.out.trans hp)
            clear hp
            go_wp2_with (first
              | (at_builtin; refine wpList_append_own _ rfl _ _ 22 rfl w0.heap.size 26 i0 (.float .f32 0) 1 4 Tryz.underlying22 hi hz0 hz1_ hz2 rfl (by decide) _ _ _ rfl (World.ownsRow.alloc (Gr.of_ownsRow HG5.out) _) ⟨_, 0, none⟩ 1 1 [.float .f32 r] rfl rfl ?c1 ?c2 ?c3 ?c4 ?c5 ?_)
              | fail)
            case c1 =>
              intro j u hj
              match j, hj with
              | 0, hj => simp at hj; subst hj; simp [Addr.add]
            case c2 => intro u hu; simp at hu; subst hu; rfl
            case c3 => have := HL.out; unfold maxLen; omega
            case c4 => have := HL.out; omega
            case c5 => have := B5.out.size; simp; omega
            · intro v' w7 hown' hgrow _
              obtain ⟨g7, b7⟩ := Gr.next HG5.out B5.out (Nat.le_refl _) hown' hgrow
              have HG7 := Lib.hid g7
              have B7 := Lib.hid b7
              have HL7 : Hid ((ys ++ [r]).length = k + 1) := Lib.hid (by simp [HL.out])
              have HQ7 : Hid (∀ j, j < k + 1 → canon .f32 ((ys ++ [r]).getD j 0) = bsq a l d s n c hub tip wi p dn (sps.getD j 0)) := Lib.hid (fun j hj => by
                rw [getD_snoc _ _ _ (by rw [HL.out]; exact hj), HL.out]
                by_cases e : j = k
                · rw [if_pos e, HR.out, hq.out, HXE.out, e]
                · rw [if_neg e]; exact HQ.out j (by omega))
              clear g7 b7 hown' hgrow HG5
              go_wp2
              go_roundw
              case rel => exact ⟨k + 1, ys ++ [r], by omega, by go_num, HG7, HL7, HQ7, HPT, B7⟩
              case measure => simp [intOf]; omega
        · have hkk : k = sps.length := by omega
          have ha : alls (fun j => bsp a l d s n c hub tip wi p dn (sps.getD j 0)) sps.length = true := by have := HA.out; rw [hkk] at this; exact this
          have HNo : Hid (bsO a l d s n c hub tip wi p dn sps = true) := Lib.hid (bsO_yes ⟨hz1, h32⟩ ha)
          have hyl : ys.length = sps.length := by rw [HL.out, hkk]
          obtain ⟨e1, e2⟩ := bsL_is ha hyl (fun j hj => HQ.out j (by omega))
          have HE := Lib.hid e1
          have HI := Lib.hid e2
          obtain ⟨A', c', g', rfl, ho⟩ := HG.out.own
          have HF := Lib.hid ho.fl
          have HY := Lib.hid hyl
          have HBI : Hid (canon .f32 (ys.getD (bi ys sps.length) 0) = ys.getD (bi ys sps.length) 0) := Lib.hid (canon_of_not (HI.out _ (bi_lt hz1 _ (Nat.le_refl _))))
          clear ho HG ha e1 e2 hyl
          go_wp2_with fail
          refine (s_l03Best A' c' ys _ HF.out (by rw [HY.out]; exact hz1) (by rw [HY.out]; omega)).mono ?_
          rintro e w5 ⟨rfl, m5, rfl⟩
          rw [HY.out]
          go_wp2
          refine bodyPost_ret (results_tmp3 rfl _ _ _) rfl ?_
          exact ⟨_, by rw [HNo.out, (bs_yes HNo.out).1, ← HE.out]; rfl, by rw [(bs_yes HNo.out).2, ← HE.out]; exact HBI.out, below_draws HBr.out _⟩
    · skip
      have HNo : Hid (bsO a l d s n c hub tip wi p dn sps = false) := Lib.hid (bsO_z (by omega))
      go_wp2
      refine bodyPost_ret (results_tmp3 rfl _ _ _) rfl ?_
      exact ⟨0, by rw [HNo.out, (bs_no HNo.out).1]; rfl, by rw [(bs_no HNo.out).2]; exact canon_zero, B0.out⟩
  · skip
    have HNo : Hid (bsO a l d s n c hub tip wi p dn sps = false) := Lib.hid (bsO_z (by omega))
    go_wp2
    refine bodyPost_ret (results_tmp3 rfl _ _ _) rfl ?_
    exact ⟨0, by rw [HNo.out, (bs_no HNo.out).1]; rfl, by rw [(bs_no HNo.out).2]; exact canon_zero, B0.out⟩
end Go.Proofs.YtahbcpjipomcgaaGreat
namespace Go.Proofs.YtahbcpjipomcgaaGreat
open Go Go.RowKit
theorem BlkL.sevenT {w : World} {B : Nat} {v0 v1 v2 v3 v4 v5 v6 : Value} (h : BlkL w B [v0, v1, v2, v3, v4, v5, v6]) : w.cell? ⟨B, 0, none⟩ = some v0 ∧ w.cell? ⟨B, 1, none⟩ = some v1 ∧ w.cell? ⟨B, 2, none⟩ = some v2 ∧ w.cell? ⟨B, 3, none⟩ = some v3 ∧ w.cell? ⟨B, 4, none⟩ = some v4 ∧ w.cell? ⟨B, 5, none⟩ = some v5 ∧ w.cell? ⟨B, 6, none⟩ = some v6 :=
  ⟨(h.2 0 _ rfl).1, (h.2 1 _ rfl).1, (h.2 2 _ rfl).1, (h.2 3 _ rfl).1, (h.2 4 _ rfl).1, (h.2 5 _ rfl).1, (h.2 6 _ rfl).1⟩
end Go.Proofs.YtahbcpjipomcgaaGreat
