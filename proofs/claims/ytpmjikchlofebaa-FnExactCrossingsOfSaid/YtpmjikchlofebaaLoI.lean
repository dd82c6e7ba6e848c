/- Lists of pairs of int64, each a list of its own: what holds them, how the laws compare and mark them. No statement is proved here. -/
import Derived.Test.YtpmjikchlofebaaMarkI
import Derived.BigQuiet
namespace Go.Proofs.Ytpmjikchlofebaa
open Go Go.RowKit
def prL (v : Int × Int) : List Int := [v.1, v.2]
/-- a slice that reads as these pairs -/
def FlII (w : World) (A : Option Addr) (vs : List (Int × Int)) : Prop :=
  vs = [] ∨ ∃ (b off : Nat) (q : Nat → Nat), A = some ⟨b, off, none⟩ ∧ ∀ k, k < vs.length → w.cell? ⟨b, off + k, none⟩ = some (.slice (some ⟨q k, 0, none⟩) 2 2) ∧ FlI w (some ⟨q k, 0, none⟩) (prL (vs.getD k (0, 0)))
/-- one of the call's own: its block, and a block for each pair -/
def OwnII (w : World) (B0 : Nat) (A : Option Addr) (g : Nat) (q : Nat → Nat) (vs : List (Int × Int)) : Prop :=
  vs = [] ∨ (A = some ⟨g, 0, none⟩ ∧ B0 ≤ g ∧ g < w.heap.size ∧ (∀ k, k < vs.length → w.cell? ⟨g, k, none⟩ = some (.slice (some ⟨q k, 0, none⟩) 2 2) ∧ B0 ≤ q k ∧ q k ≠ g ∧ OwnI w (q k) (prL (vs.getD k (0, 0)))) ∧ ∀ i j, i < j → j < vs.length → q i ≠ q j)
def SBII (vs : List (Int × Int)) (g : Nat) (q : Nat → Nat) : Nat → Prop := fun b => vs ≠ [] ∧ (b = g ∨ ∃ i, i < vs.length ∧ b = q i)
theorem OwnII.fl {w : World} {B0 g : Nat} {A : Option Addr} {q : Nat → Nat} {vs : List (Int × Int)} (h : OwnII w B0 A g q vs) : FlII w A vs := by
  rcases h with h | ⟨rfl, -, -, h, -⟩
  · exact .inl h
  · exact .inr ⟨g, 0, q, rfl, fun k hk => ⟨by rw [Nat.zero_add]; exact (h k hk).1, (h k hk).2.2.2.fl⟩⟩
theorem OwnII.below {w w' : World} {B0 g : Nat} {A : Option Addr} {q : Nat → Nat} {vs : List (Int × Int)} (h : OwnII w B0 A g q vs) (hb : Below w.heap.size w w') : OwnII w' B0 A g q vs := by
  rcases h with h | ⟨h1, h2, h3, h4, h5⟩
  · exact .inl h
  · exact .inr ⟨h1, h2, Nat.lt_of_lt_of_le h3 hb.size, fun k hk => ⟨by rw [hb.cell (p := ⟨g, k, none⟩) h3]; exact (h4 k hk).1, (h4 k hk).2.1, (h4 k hk).2.2.1, (h4 k hk).2.2.2.below hb⟩, h5⟩
theorem OwnII.turnS {w w' : World} {S : Nat → Prop} {B0 g : Nat} {A : Option Addr} {q : Nat → Nat} {vs : List (Int × Int)} (h : OwnII w B0 A g q vs) (ht : Turn w w' S) (hs : ∀ c, SBII vs g q c → ¬ S c) : OwnII w' B0 A g q vs := by
  by_cases hx : vs = []
  · exact .inl hx
  · rcases h with h | ⟨h1, h2, h3, h4, h5⟩
    · exact .inl h
    · exact .inr ⟨h1, h2, Nat.lt_of_lt_of_le h3 ht.1, fun k hk => ⟨by rw [ht.2.1 ⟨g, k, none⟩ h3 (hs g ⟨hx, .inl rfl⟩)]; exact (h4 k hk).1, (h4 k hk).2.1, (h4 k hk).2.2.1, (h4 k hk).2.2.2.turn ht (hs (q k) ⟨hx, .inr ⟨k, hk, rfl⟩⟩)⟩, h5⟩
theorem OwnII.bd {w : World} {B0 g : Nat} {A : Option Addr} {q : Nat → Nat} {vs : List (Int × Int)} (h : OwnII w B0 A g q vs) {c : Nat} (hc : SBII vs g q c) : B0 ≤ c ∧ c < w.heap.size := by
  obtain ⟨h0, hc⟩ := hc
  rcases h with h | ⟨h1, h2, h3, h4, h5⟩
  · exact absurd h h0
  · rcases hc with rfl | ⟨i, hi, rfl⟩
    · exact ⟨h2, h3⟩
    · exact ⟨(h4 i hi).2.1, (h4 i hi).2.2.2.1⟩
def markV (k0 j : Nat) : Int × Int := ((k0 : Int) + 2 * (j : Int), (k0 : Int) + 2 * (j : Int) + 1)
def marksII (k0 n : Nat) : List (Int × Int) := (List.range n).map (markV k0)
def halfII (vs : List (Int × Int)) (k0 k : Nat) : List (Int × Int) := (List.range vs.length).map fun j => if j < k then markV k0 j else vs.getD j (0, 0)
theorem half_lengthII (vs : List (Int × Int)) (k0 k : Nat) : (halfII vs k0 k).length = vs.length := by simp [halfII]
theorem marks_lengthII (k0 n : Nat) : (marksII k0 n).length = n := by simp [marksII]
theorem marks_atII {k0 n j : Nat} (h : j < n) : (marksII k0 n).getD j (0, 0) = markV k0 j := by simp [marksII, List.getD, h]
theorem half_atII {vs : List (Int × Int)} {k0 k j : Nat} (h : j < vs.length) : (halfII vs k0 k).getD j (0, 0) = if j < k then markV k0 j else vs.getD j (0, 0) := by simp [halfII, List.getD, h]
theorem half_zeroII (vs : List (Int × Int)) (k0 : Nat) : halfII vs k0 0 = vs := by
  apply List.ext_getElem
  · simp [halfII]
  · intro j h1 h2; simp [halfII, List.getD, h2]
theorem half_allII (vs : List (Int × Int)) (k0 : Nat) : halfII vs k0 vs.length = marksII k0 vs.length := by
  apply List.ext_getElem
  · simp [halfII, marksII]
  · intro j h1 h2
    simp [halfII] at h1
    simp [halfII, marksII, h1]
theorem mark_pair (k0 k : Nat) : marksI (k0 + 2 * k) 2 = prL (markV k0 k) := by
  unfold marksI prL markV
  simp [List.range, List.range.loop]
theorem OwnII.mark {w w' : World} {B0 g k0 k : Nat} {A : Option Addr} {q : Nat → Nat} {vs : List (Int × Int)} (h : OwnII w B0 A g q (halfII vs k0 k)) (hk : k < vs.length) (ht : Turn w w' (fun b => b = q k)) (ho : OwnI w' (q k) (marksI (k0 + 2 * k) 2)) : OwnII w' B0 A g q (halfII vs k0 (k + 1)) := by
  rcases h with h | ⟨h1, h2, h3, h4, h5⟩
  · have := congrArg List.length h
    rw [half_lengthII] at this
    rw [this] at hk; cases hk
  · rw [half_lengthII] at h5 h4
    refine .inr ⟨h1, h2, Nat.lt_of_lt_of_le h3 ht.1, fun j hj => ?_, by rw [half_lengthII]; exact h5⟩
    rw [half_lengthII] at hj
    obtain ⟨c1, c2, c3, c4⟩ := h4 j hj
    refine ⟨by rw [ht.2.1 ⟨g, j, none⟩ h3 (fun e => (h4 k hk).2.2.1 e.symm)]; exact c1, c2, c3, ?_⟩
    rw [half_atII hj]
    rw [half_atII hj] at c4
    by_cases e : j = k
    · subst e
      rw [if_pos (by omega), ← mark_pair]
      exact ho
    · have hne : ¬ q j = q k := by
        rcases Nat.lt_or_gt_of_ne e with hlt | hgt
        · exact h5 j k hlt hk
        · exact fun e2 => h5 k j hgt hj e2.symm
      by_cases hj2 : j < k
      · rw [if_pos (by omega)]
        rw [if_pos hj2] at c4
        exact c4.turn ht hne
      · rw [if_neg (by omega)]
        rw [if_neg hj2] at c4
        exact c4.turn ht hne
set_option maxHeartbeats 4000000 in
theorem l_markII (A : Option Addr) (g cap k0 B0 : Nat) (q : Nat → Nat) (vs : List (Int × Int)) (w : World) (h : OwnII w B0 A g q vs) (hn : vs.length ≤ 2048) (hk0 : k0 ≤ 2097152) (K : Int) (hK : K = (k0 : Int)) :
    Calls Try.prog 53 #[.slice A vs.length cap, .int .i64 K] w fun e w' => e = .returned (.int .i64 ((k0 : Int) + 2 * (vs.length : Int))) ∧ OwnII w' B0 A g q (marksII k0 vs.length) ∧ Turn w w' (SBII vs g q) := by
  subst hK
  have H := Lib.hid h; clear h
  go_enter Try.func53, Try.ntmps53
  go_wp2
  go_loopw [1, 5] (fun s i wr => ∃ k : Nat, k ≤ vs.length ∧ i = .int .i64 k ∧ s = .int .i64 ((k0 : Int) + 2 * (k : Int)) ∧ Hid (OwnII wr B0 A g q (halfII vs k0 k)) ∧ Hid (Turn w wr (SBII vs g q))) (fun _ i _ => vs.length - (intOf i).toNat)
  case atStart => exact ⟨0, Nat.zero_le _, rfl, by simp, Lib.hid (by rw [half_zeroII]; exact H.out), Lib.hid (Turn.refl _ _)⟩
  case round =>
    obtain ⟨k, hk, rfl, rfl, HO, HT⟩ := hrel
    by_cases hlt : k < vs.length
    · have hlen : k < (halfII vs k0 k).length := by rw [half_lengthII]; exact hlt
      rcases HO.out with h0 | ⟨rfl, -, -, h4, -⟩
      · rw [h0] at hlen; cases hlen
      · obtain ⟨c1, -, -, c4⟩ := h4 k hlen
        clear h4 hlen
        rw [half_atII hlt, if_neg (Nat.lt_irrefl _)] at c4
        have HC4 : Hid (OwnAI wr (some ⟨q k, 0, none⟩) (q k) (prL (vs.getD k (0, 0)))) := Lib.hid (.inr ⟨rfl, c4⟩)
        have HNE : Hid (vs ≠ []) := Lib.hid (by intro h0; rw [h0] at hlt; cases hlt)
        clear c4
        have hlp : (prL (vs.getD k (0, 0))).length = 2 := rfl
        go_wp2_with fail
        refine (l_markI64 (some ⟨q k, 0, none⟩) (q k) 2 (k0 + 2 * k) (prL (vs.getD k (0, 0))) _ HC4.out (by rw [hlp]; omega) (by omega) _ (by omega)).mono ?_
        rintro e w' ⟨rfl, ho, t⟩
        have HO2 : Hid (OwnII w' B0 (some ⟨g, 0, none⟩) g q (halfII vs k0 (k + 1))) := Lib.hid (HO.out.mark hlt (t.mono (fun b hb => hb.2)) (by
          rcases ho with ho | ho
          · cases ho
          · exact ho))
        have HT2 : Hid (Turn w w' (SBII vs g q)) := Lib.hid (HT.out.trans (t.mono (fun b hb => ⟨HNE.out, .inr ⟨k, hlt, hb.2⟩⟩)))
        clear ho t HO HT HC4
        go_wp2
        go_roundw
        case rel => exact ⟨k + 1, by omega, by go_num, congrArg (Value.int IntKind.i64) (by simp [prL]; omega), HO2, HT2⟩
        case measure => simp [intOf]; omega
    · have hkk : k = vs.length := by omega
      subst hkk
      go_wp2
      go_ret
      exact ⟨rfl, by rw [← half_allII]; exact HO.out, HT.out⟩
set_option maxHeartbeats 4000000 in
theorem l_heldII (A : Option Addr) (g cap k0 B0 n : Nat) (q : Nat → Nat) (w : World) (h : OwnII w B0 A g q (marksII k0 n)) (hn : n ≤ 2048) (hk0 : k0 ≤ 2097152) (K : Int) (hK : K = (k0 : Int)) :
    Calls Try.prog 54 #[.slice A n cap, .int .i64 K] w fun e w' => ∃ m, e = .returned (.int .i64 ((k0 : Int) + 2 * (n : Int))) ∧ w' = w.drewN m := by
  subst hK
  have H := Lib.hid h; clear h
  go_enter Try.func54, Try.ntmps54
  go_wp2
  go_loopw [1, 5] (fun s i wr => ∃ k m : Nat, k ≤ n ∧ i = .int .i64 k ∧ s = .int .i64 ((k0 : Int) + 2 * (k : Int)) ∧ wr = w.drewN m) (fun _ i _ => n - (intOf i).toNat)
  case atStart => exact ⟨0, 0, Nat.zero_le _, rfl, by simp, rfl⟩
  case round =>
    obtain ⟨k, m, hk, rfl, rfl, rfl⟩ := hrel
    by_cases hlt : k < n
    · have hlen : k < (marksII k0 n).length := by rw [marks_lengthII]; exact hlt
      rcases H.out with h0 | ⟨rfl, -, -, h4, -⟩
      · rw [h0] at hlen; cases hlen
      · obtain ⟨c1, -, -, c4⟩ := h4 k hlen
        clear h4 hlen
        rw [marks_atII hlt, ← mark_pair] at c4
        have HC4 : Hid (OwnAI (w.drewN m) (some ⟨q k, 0, none⟩) (q k) (marksI (k0 + 2 * k) 2)) := Lib.hid (.inr ⟨rfl, c4⟩)
        clear c4
        have hpos : ¬ (k0 : Int) + 2 * (k : Int) + 2 < 0 := by omega
        go_wp2_with fail
        refine (l_heldI64 (some ⟨q k, 0, none⟩) (q k) 2 (k0 + 2 * k) 2 _ HC4.out (by omega) (by omega) _ (by omega)).mono ?_
        rintro e w' ⟨m2, rfl, rfl⟩
        clear HC4
        have e2 : ((k0 + 2 * k : Nat) : Int) + ((2 : Nat) : Int) = (k0 : Int) + 2 * (k : Int) + 2 := by omega
        rw [e2]
        go_wp2
        go_roundw
        case rel => exact ⟨k + 1, _, by omega, by go_num, congrArg (Value.int IntKind.i64) (by omega), by first | rfl | (simp only [World.drewN_drewN]; rfl)⟩
        case measure => simp [intOf]; omega
    · have hkk : k = n := by omega
      subst hkk
      go_wp2
      go_ret
      exact ⟨_, rfl, rfl⟩
set_option maxHeartbeats 4000000 in
theorem l_eqII (A B : Option Addr) (cap cap' : Nat) (vs : List (Int × Int)) (w : World) (h : FlII w A vs) (h' : FlII w B vs) (hn : vs.length ≤ 2048) :
    Calls Try.prog 52 #[.slice A vs.length cap, .slice B vs.length cap'] w fun e w' => ∃ n, e = .returned (.bool true) ∧ w' = w.drewN n := by
  go_enter Try.func52, Try.ntmps52
  go_wp2
  go_loopw [5] (fun i wr => ∃ k n : Nat, k ≤ vs.length ∧ i = .int .i64 k ∧ wr = w.drewN n) (fun i _ => vs.length - (intOf i).toNat)
  case atStart => exact ⟨0, 0, Nat.zero_le _, rfl, rfl⟩
  case round =>
    obtain ⟨k, n, hk, rfl, rfl⟩ := hrel
    by_cases hlt : k < vs.length
    · have H := Lib.hid h
      have H' := Lib.hid h'
      rcases h with h0 | ⟨b, off, q, rfl, hc⟩
      · rw [h0] at hlt; cases hlt
      rcases h' with h0 | ⟨b', off', q', rfl, hc'⟩
      · rw [h0] at hlt; cases hlt
      obtain ⟨c1, c2⟩ := hc k hlt
      obtain ⟨d1, d2⟩ := hc' k hlt
      have hlp : (prL (vs.getD k (0, 0))).length = 2 := rfl
      have HE : ∀ W, Below w.heap.size w W → Hid (Calls Try.prog 37 #[.slice (some ⟨q k, 0, none⟩) 2 2, .slice (some ⟨q' k, 0, none⟩) 2 2] W fun e w' => ∃ n, e = .returned (.bool true) ∧ w' = W.drewN n) := fun W hb => Lib.hid (l_eqI64 _ _ 2 2 (prL (vs.getD k (0, 0))) W (c2.below hb) (d2.below hb) (by rw [hlp]; omega))
      clear hc hc' c2 d2 hlp H H'
      go_wp2
      go_region_with (go_at_call 37; refine (HE _ (by repeat (first | exact Below.refl _ _ | refine below_draws ?_ _))).out.mono ?_; rintro e w' ⟨m, rfl, rfl⟩)
      all_goals
        go_wp2
        go_roundw
        case rel => exact ⟨k + 1, _, by omega, by go_num, rfl⟩
        case measure => simp [intOf]; omega
    · go_wp2
      go_ret
      exact ⟨_, rfl, rfl⟩
end Go.Proofs.Ytpmjikchlofebaa
