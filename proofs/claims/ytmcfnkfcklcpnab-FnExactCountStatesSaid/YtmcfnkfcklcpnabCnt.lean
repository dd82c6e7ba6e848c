/- How often each state is in a list, by a map: the program's side. No statement is proved here. -/
import Derived.Test.YtmcfnkfcklcpnabMarkI
import Derived.Test.YtmcfnkfcklcpnabDrvN
import Derived.Maps.OwnSet
import Derived.Maps.OwnOps
import Derived.IntWalk
namespace Go.Proofs.Ytmcfnkfcklcpnab
open Go Go.RowKit Go.Maps
/-- how many of the first k are x -/
def cnt (xs : List Int) (x : Int) : Nat → Nat
  | 0 => 0
  | k + 1 => cnt xs x k + (bif decide (xs.getD k 0 = x) then 1 else 0)
def stsV (xs : List Int) : Nat → Bool
  | 0 => true
  | k + 1 => stsV xs k && stateV (xs.getD k 0)
def stsO (xs : List Int) : Bool := decide (xs.length ≤ 128) && stsV xs xs.length
def cnt5 (xs : List Int) : List Int := [(cnt xs 0 xs.length : Int), (cnt xs 1 xs.length : Int), (cnt xs 2 xs.length : Int), (cnt xs 3 xs.length : Int), (cnt xs 4 xs.length : Int)]
def cntL (xs : List Int) : List Int := bif stsO xs then cnt5 xs else []
theorem cnt_le (xs : List Int) (x : Int) (k : Nat) : cnt xs x k ≤ k := by
  induction k with
  | zero => exact Nat.le_refl _
  | succ k ih => unfold cnt; cases decide (xs.getD k 0 = x) <;> simp <;> omega
theorem cnt5_at (xs : List Int) {i : Nat} (h : i < 5) : (cnt5 xs).getD i 0 = (cnt xs (i : Int) xs.length : Int) := by
  rcases i with _ | _ | _ | _ | _ | i
  all_goals first | rfl | omega
theorem stsV_at {xs : List Int} {n : Nat} (h : stsV xs n = true) : ∀ k, k < n → stateV (xs.getD k 0) = true := by
  induction n with
  | zero => intro k hk; omega
  | succ n ih =>
    simp only [stsV, Bool.and_eq_true] at h
    intro k hk
    by_cases e : k = n
    · subst e; exact h.2
    · exact ih h.1 k (by omega)
theorem stsV_not {xs : List Int} {n : Nat} (h : stsV xs n = false) : ∃ k, k < n ∧ stateV (xs.getD k 0) = false := by
  induction n with
  | zero => cases h
  | succ n ih =>
    simp only [stsV, Bool.and_eq_false_iff] at h
    rcases h with h | h
    · obtain ⟨k, hk, hs⟩ := ih h; exact ⟨k, by omega, hs⟩
    · exact ⟨n, by omega, h⟩
theorem cnt_pos {xs : List Int} {x : Int} {n : Nat} : 0 < cnt xs x n ↔ ∃ k, k < n ∧ xs.getD k 0 = x := by
  induction n with
  | zero => simp [cnt]
  | succ n ih =>
    unfold cnt
    by_cases e : xs.getD n 0 = x
    · rw [decide_eq_true e]; simp; exact ⟨n, by omega, e⟩
    · rw [decide_eq_false e]
      simp only [cond_false, Nat.add_zero]
      rw [ih]
      constructor
      · rintro ⟨k, hk, h⟩; exact ⟨k, by omega, h⟩
      · rintro ⟨k, hk, h⟩
        by_cases ek : k = n
        · subst ek; exact absurd h e
        · exact ⟨k, by omega, h⟩
abbrev DU := DataW Unit
def isI : Lit → Bool
  | .int .i64 _ => true
  | _ => false
/-- all keys are numbers -/
def okK : DU → Bool
  | .map es => !es.any (fun p => !isI p.1)
  | _ => true
theorem okK_put {D : DU} (hD : IsMap D) (h : okK D = true) (x : Int) (d : DU) : okK (D.put (.int .i64 x) d) = true := by
  obtain ⟨es, rfl⟩ := hD
  show (!(DataW.insert (.int .i64 x, d) (es.filter fun p => !p.1.sameKey (.int .i64 x))).any (fun p => !isI p.1)) = true
  rw [any_insert]
  have h : (!es.any (fun p => !isI p.1)) = true := h
  rw [Bool.not_eq_true', List.any_eq_false] at h
  rw [Bool.not_eq_true', Bool.or_eq_false_iff, List.any_eq_false]
  exact ⟨rfl, fun p hp => h p ((List.mem_filter.1 hp).1)⟩
theorem okK_del {D : DU} (hD : IsMap D) (h : okK D = true) (k : Lit) : okK (D.del k) = true := by
  obtain ⟨es, rfl⟩ := hD
  show (!(es.filter fun p => !p.1.sameKey k).any (fun p => !isI p.1)) = true
  have h : (!es.any (fun p => !isI p.1)) = true := h
  rw [Bool.not_eq_true', List.any_eq_false] at h
  rw [Bool.not_eq_true', List.any_eq_false]
  exact fun p hp => h p ((List.mem_filter.1 hp).1)
/-- the map reads as the numbers of the first k -/
def Cn (D : DU) (xs : List Int) (k : Nat) : Prop :=
  (∀ x, D.atKey (.int .i64 x) (.lit (.int .i64 0)) = .lit (.int .i64 (cnt xs x k))) ∧ ∀ kl, Maps.has D kl = true → ∃ x, kl = .int .i64 x ∧ 0 < cnt xs x k
theorem Cn.zero (xs : List Int) : Cn (.map []) xs 0 := ⟨fun _ => rfl, fun kl h => by cases h⟩
theorem Cn.step {D : DU} {xs : List Int} {k : Nat} (h : Cn D xs k) (hD : IsMap D) {c : Int} (hat : D.atKey (.int .i64 (xs.getD k 0)) (.lit (.int .i64 0)) = .lit (.int .i64 c)) (hk : k < 4611686018427387904) :
    Cn (D.put (.int .i64 (xs.getD k 0)) (.lit (.int .i64 (wrap64 (c + 1))))) xs (k + 1) := by
  have hc : c = (cnt xs (xs.getD k 0) k : Int) := by
    have h1 := h.1 (xs.getD k 0)
    rw [hat] at h1
    simpa using h1
  have hle := cnt_le xs (xs.getD k 0) k
  have hw : wrap64 (c + 1) = ((cnt xs (xs.getD k 0) k + 1 : Nat) : Int) := by rw [IntWalk.wrap64_in _ (by omega), hc]; omega
  rw [hw]
  have hkey : WideAt.IsKeyLit (.int .i64 (xs.getD k 0)) := by trivial
  refine ⟨fun x => ?_, fun kl hkl => ?_⟩
  · by_cases e : xs.getD k 0 = x
    · rw [← e, atKey_put_same hD hkey]
      conv => rhs; unfold cnt
      simp
    · rw [atKey_put_other (by intro hh; simp only [Lit.int.injEq] at hh; exact e hh.2.symm), h.1]
      conv => rhs; unfold cnt
      rw [decide_eq_false e]
      rfl
  · by_cases e : kl = .int .i64 (xs.getD k 0)
    · refine ⟨_, e, ?_⟩
      unfold cnt
      simp
    · rw [has_put_other e] at hkl
      obtain ⟨x, hx, hp⟩ := h.2 kl hkl
      exact ⟨x, hx, by unfold cnt; omega⟩
theorem Cn.mem {D : DU} {xs : List Int} {k : Nat} (h : Cn D xs k) {x : Int} (hp : 0 < cnt xs x k) : Maps.has D (.int .i64 x) = true := by
  cases hh : Maps.has D (.int .i64 x)
  · have h1 := h.1 x
    rw [atKey_of_not_has hh] at h1
    simp at h1
    omega
  · rfl
/-- the map, of which the first i states are deleted -/
def Cd (D : DU) (xs : List Int) (n i : Nat) : Prop :=
  (∀ x : Int, (i : Int) ≤ x → D.atKey (.int .i64 x) (.lit (.int .i64 0)) = .lit (.int .i64 (cnt xs x n))) ∧ (∀ x, 0 < cnt xs x n → (x < 0 ∨ (i : Int) ≤ x) → Maps.has D (.int .i64 x) = true) ∧
  ∀ kl, Maps.has D kl = true → ∃ x, kl = .int .i64 x ∧ 0 < cnt xs x n ∧ (x < 0 ∨ (i : Int) ≤ x)
theorem Cn.cd {D : DU} {xs : List Int} {n : Nat} (h : Cn D xs n) : Cd D xs n 0 :=
  ⟨fun x _ => h.1 x, fun _ hp _ => h.mem hp, fun kl hkl => by obtain ⟨x, e, hp⟩ := h.2 kl hkl; exact ⟨x, e, hp, by omega⟩⟩
theorem Cd.step {D : DU} {xs : List Int} {n i : Nat} (h : Cd D xs n i) : Cd (D.del (.int .i64 (i : Int))) xs n (i + 1) := by
  refine ⟨fun x hx => ?_, fun x hp hx => ?_, fun kl hkl => ?_⟩
  · rw [atKey_del_other (by intro hh; simp only [Lit.int.injEq] at hh; omega)]; exact h.1 x (by omega)
  · rw [has_del_other (by intro hh; simp only [Lit.int.injEq] at hh; omega)]; exact h.2.1 x hp (by omega)
  · by_cases e : kl = .int .i64 (i : Int)
    · subst e; rw [has_del_same] at hkl; cases hkl
    · rw [has_del_other e] at hkl
      obtain ⟨x, e', hp, hx⟩ := h.2.2 kl hkl
      refine ⟨x, e', hp, ?_⟩
      have : x ≠ (i : Int) := by intro hh; subst hh; exact e e'
      omega
theorem Cd.none {D : DU} {xs : List Int} {n : Nat} (h : Cd D xs n 5) (hD : IsMap D) (hok : okK D = true) (hv : stsV xs n = true) : Maps.size D = 0 := by
  obtain ⟨es, rfl⟩ := hD
  cases es with
  | nil => rfl
  | cons p es =>
    exfalso
    have hok : (!(p :: es).any (fun p => !isI p.1)) = true := hok
    rw [Bool.not_eq_true', List.any_eq_false] at hok
    have hi := hok p (by simp)
    have hkey : WideAt.IsKeyLit p.1 := by
      cases hp : p.1 <;> rw [hp] at hi <;> first | trivial | (exfalso; exact hi rfl)
    have hh : Maps.has (.map (p :: es)) p.1 = true := by
      rw [has_eq, List.any_cons, WideAt.sameKey_self hkey]; rfl
    obtain ⟨x, e, hp, hx⟩ := h.2.2 _ hh
    obtain ⟨k, hk, hk2⟩ := cnt_pos.1 hp
    have hs := stsV_at hv k hk
    rw [hk2] at hs
    have := stateV_cases hs
    omega
theorem Cd.some {D : DU} {xs : List Int} {n : Nat} (h : Cd D xs n 5) (hv : stsV xs n = false) : Maps.size D ≠ 0 := by
  obtain ⟨k, hk, hs⟩ := stsV_not hv
  have hp : 0 < cnt xs (xs.getD k 0) n := cnt_pos.2 ⟨k, hk, rfl⟩
  have hh := h.2.1 _ hp (by
    unfold stateV at hs
    rw [Bool.and_eq_false_iff, decide_eq_false_iff_not, decide_eq_false_iff_not] at hs
    omega)
  intro hz
  cases D with
  | map es =>
    rw [size_eq] at hz
    have : es = [] := List.eq_nil_of_length_eq_zero hz
    subst this
    cases hh
  | _ => cases hh
theorem lawK : Keyed Try.prog 2 := int_keyed Try.underlying2
theorem zeroI (w : World) : (zeroValue 2).run Try.prog w = .ok (.int .i64 0) w := by kernel_rfl
theorem make_5 (W : World) : (Instr.makeSlice 41 (.int .i64 5) (.int .i64 5)).run Try.prog W = .ok (.slice (some ⟨W.heap.size, 0, none⟩) 5 5) (W.alloc (.cells (madeCells #[.int .i64 0] 5) 2)) := make_i64 5 W (by decide)
/-- the list, of which the first i are written, beside a map -/
def L5 (w wr : World) (B i : Nat) (ys : List Int) : Prop := Below w.heap.size w wr ∧ w.heap.size < B ∧ B < wr.heap.size ∧ ∀ j, j < 5 → wr.cell? ⟨B, j, none⟩ = some (.int .i64 (if j < i then ys.getD j 0 else 0)) ∧ wr.frozen? ⟨B, j, none⟩ = false
theorem L5.start {w w1 : World} (h : Below w.heap.size w w1) (hs : w.heap.size < w1.heap.size) (E : TypeId) (ys : List Int) : L5 w (w1.alloc (.cells (madeCells #[.int .i64 0] 5) E)) w1.heap.size 0 ys := by
  refine ⟨h.alloc h.size _, hs, by simp, fun j hj => ⟨?_, ?_⟩⟩
  · rw [World.cell?_alloc_at (w := w1) (hn := rfl)]
    rw [if_neg (Nat.not_lt_zero j)]
    simp [madeCells, hj, Nat.mod_one]
  · rw [World.frozen?_alloc_at (w := w1) (hn := rfl)]
theorem L5.set {w wr : World} {B i : Nat} {ys : List Int} (h : L5 w wr B i ys) (hi : i < 5) : L5 w (wr.setCell ⟨B, i, none⟩ (.int .i64 (ys.getD i 0))) B (i + 1) ys := by
  obtain ⟨h1, h2, h3, h4⟩ := h
  refine ⟨h1.setCell (p := ⟨B, i, none⟩) (by show w.heap.size ≤ B; omega) _, h2, by simpa [World.setCell] using h3, fun j hj => ⟨?_, ?_⟩⟩
  · by_cases e : j = i
    · subst e
      rw [World.cell?_setCell_same (h := (h4 j hj).1), if_pos (by omega)]
    · rw [World.cell?_setCell_other (h := by intro hh; simp only [Addr.mk.injEq] at hh; omega), (h4 j hj).1]
      by_cases hj2 : j < i
      · rw [if_pos hj2, if_pos (by omega)]
      · rw [if_neg hj2, if_neg (by omega)]
  · rw [World.frozen?_setCell]; exact (h4 j hj).2
theorem L5.turned {w wr wr' : World} {B i : Nat} {ys : List Int} (h : L5 w wr B i ys) (ht : wr.mapTurned wr' w.heap.size) : L5 w wr' B i ys := by
  obtain ⟨h1, h2, h3, h4⟩ := h
  have hg := ht.grown
  refine ⟨h1.grown hg h1.size (fun j hj => by cases hj; exact Nat.le_refl _), h2, Nat.lt_of_lt_of_le h3 hg.size, fun j hj => ⟨hg.cell (h4 j hj).1 (by simp; omega), ?_⟩⟩
  rw [ht.frozen]; exact (h4 j hj).2
theorem L5.own {w wr : World} {B : Nat} {ys : List Int} (h : L5 w wr B 5 ys) (hy : ys.length = 5) : OwnI wr B ys := by
  obtain ⟨h1, h2, h3, h4⟩ := h
  exact ⟨h3, fun j hj => ⟨by rw [(h4 j (by omega)).1, if_pos (by omega)], (h4 j (by omega)).2⟩⟩
theorem cell_of_fl {w wr : World} {b off : Nat} {x : Int} {k : Nat} (h : Below w.heap.size w wr) (hb : b < w.heap.size) (hc : w.cell? ⟨b, off + k, none⟩ = some (.int .i64 x)) : wr.cell? ⟨b, off + k, none⟩ = some (.int .i64 x) := (h.cell (p := ⟨b, off + k, none⟩) hb).trans hc
set_option maxHeartbeats 8000000 in
set_option maxRecDepth 100000 in
theorem i_CountStates (A : Option Addr) (cap : Nat) (xs : List Int) (w : World) (h : FlI w A xs) (_hn : xs.length ≤ 1048576) (hwf : ∀ k, k < xs.length → (Lit.int .i64 (xs.getD k 0)).wf = true) :
    Calls Try.prog 32 #[.slice A xs.length cap] w fun e w' => ∃ A' c b, e = .returned (.tuple #[.slice A' (cntL xs).length c, .bool (stsO xs)]) ∧ OwnOI w' w.heap.size A' b (cntL xs) ∧ Below w.heap.size w w' := by
  have HF := Lib.hid h; clear h
  have HW := Lib.hid hwf; clear hwf
  by_cases h128 : xs.length ≤ 128
  · have hmm := @run_makeMap Try.prog
    go_enter Try.func32, Try.ntmps32
    go_wp2
    clear hmm
    go_loopw [16] (fun i wr => ∃ k : Nat, k ≤ xs.length ∧ i = .int .i64 k ∧ ∃ D : DU, wr.ownsMap Try.prog 2 (plainElem Try.prog 2) w.heap.size k D ∧ Hid (Cn D xs k) ∧ Hid (okK D = true) ∧ Below w.heap.size w wr)
      (fun i _ => xs.length - (intOf i).toNat)
    case atStart => exact ⟨0, Nat.zero_le _, rfl, .map [], World.ownsMap_made _ _ _ _, Lib.hid (Cn.zero xs), Lib.hid rfl, (Below.refl _ _).alloc (Nat.le_refl _) _⟩
    case round =>
      obtain ⟨k, hk, rfl, D, hown, hC, hok, hnx⟩ := hrel
      by_cases hlt : k < xs.length
      · obtain ⟨b, off, rfl, hb, hc⟩ := HF.out.at_ hlt
        have hcx := cell_of_fl hnx hb hc
        have hkey : keyOf Try.prog 2 (.int .i64 (xs.getD k 0)) = some (.int .i64 (xs.getD k 0)) := keyOf_int_mk Try.underlying2 (HW.out k hlt)
        have HS : Hid (∀ c : Int, D.atKey (.int .i64 (xs.getD k 0)) (.lit (.int .i64 0)) = .lit (.int .i64 c) → Cn (D.put (.int .i64 (xs.getD k 0)) (.lit (.int .i64 (wrap64 (c + 1))))) xs (k + 1)) := Lib.hid fun c hat => hC.out.step (hown.tidy lawK).isMap hat (by omega)
        generalize xs.getD k 0 = x at hcx hkey HS
        clear hb hc
        go_wp2_with (first
          | (at_lookup; refine wpList_lookup_own_int _ rfl _ _ 91 rfl 2 2 .i64 lawK Try.underlying91 Try.underlying2 (zeroI _) w.heap.size k _ rfl hown _ _ rfl hkey ?_; intro c hat hwc)
          | (at_mapUpdate; refine wpList_mapUpdate_own _ rfl _ _ _ 91 rfl 2 2 lawK Try.underlying91 _ w.heap.size k _ rfl hown (by unfold maxLen; omega) _ _ _ rfl rfl hkey _ [] (plainElem_int Try.underlying2 (wrap64_wf _)) ?_; intro w1 hown1 hgrow1)
          | go_in)
        go_roundw
        case rel => exact ⟨k + 1, by omega, by go_num, _, hown1, Lib.hid (HS.out c hat), Lib.hid (okK_put (hown.tidy lawK).isMap hok.out _ _), hnx.grown hgrow1 hnx.size (fun j hj => by cases hj; exact Nat.le_refl _)⟩
        case measure => simp [intOf]; omega
      · have hkk : k = xs.length := by omega
        subst hkk
        obtain ⟨wx, rfl⟩ : ∃ wx, wx = wr := ⟨_, rfl⟩
        have hmk := make_5
        have hlt1 := hown.lt
        go_wp2
        clear hmk
        go_loopw [28] (fun i wv => ∃ j : Nat, j ≤ 5 ∧ i = .int .i64 j ∧ ∃ D : DU, wv.ownsMap Try.prog 2 (plainElem Try.prog 2) w.heap.size xs.length D ∧ Hid (Cd D xs xs.length j) ∧ Hid (okK D = true) ∧ Hid (L5 w wv wx.heap.size j (cnt5 xs)))
          (fun i _ => 5 - (intOf i).toNat)
        case atStart => exact ⟨0, Nat.zero_le _, rfl, D, hown.alloc _, Lib.hid hC.out.cd, hok, Lib.hid (L5.start hnx hown.lt _ _)⟩
        case round =>
          obtain ⟨j, hj, rfl, D', hown', hC', hok', hL⟩ := hrel
          by_cases hlt5 : j < 5
          · obtain ⟨hcc, hfz⟩ := hL.out.2.2.2 j hlt5
            rw [if_neg (by omega)] at hcc
            have hkey : keyOf Try.prog 2 (.int .i64 (j : Int)) = some (.int .i64 (j : Int)) := keyOf_int_mk Try.underlying2 (WalkArith.wf_i64 (by omega))
            have HS : Hid (∀ c : Int, D'.atKey (.int .i64 (j : Int)) (.lit (.int .i64 0)) = .lit (.int .i64 c) → L5 w (wr.setCell ⟨wx.heap.size, j, none⟩ (.int .i64 c)) wx.heap.size (j + 1) (cnt5 xs)) := Lib.hid fun c hat => by
              have h1 := hC'.out.1 (j : Int) (Int.le_refl _)
              rw [hat] at h1
              have e : c = (cnt5 xs).getD j 0 := by rw [cnt5_at xs hlt5]; simpa using h1
              rw [e]
              exact hL.out.set hlt5
            clear hown hC hok hnx
            go_wp2_with (first
              | (at_lookup; refine wpList_lookup_own_int _ rfl _ _ 91 rfl 2 2 .i64 lawK Try.underlying91 Try.underlying2 (zeroI _) w.heap.size xs.length _ rfl hown' _ _ rfl hkey ?_; intro c hat hwc)
              | (at_delete; refine wpList_delete_own _ rfl _ _ 91 2 rfl 2 lawK Try.underlying91 (plainElem Try.prog 2) w.heap.size xs.length D' rfl (hown'.setCell (a := ⟨wx.heap.size, j, none⟩) (Nat.ne_of_lt hlt1) _) _ _ rfl hkey ?_; intro w1 hown1 hturn1)
              | go_in)
            go_roundw
            case rel => exact ⟨j + 1, by omega, by go_num, _, hown1, Lib.hid hC'.out.step, Lib.hid (okK_del (hown'.tidy lawK).isMap hok'.out _), Lib.hid ((HS.out c hat).turned hturn1)⟩
            case measure => simp [intOf]; omega
          · have hj5 : j = 5 := by omega
            subst hj5
            have hM := (hown'.tidy lawK).isMap
            cases hv : stsV xs xs.length
            · have HO : Hid (stsO xs = false) := Lib.hid (by unfold stsO; rw [hv]; simp)
              have hz : 0 < Maps.size D' := Nat.pos_of_ne_zero (hC'.out.some hv)
              go_wp2_with (first
                | (at_len; refine wpList_len_own _ rfl _ 91 rfl 2 2 Try.underlying91 _ w.heap.size xs.length D' rfl hown' ?_)
                | go_in)
              refine bodyPost_ret (v := .tuple #[.slice none 0 0, .bool false]) (by simp [results, Try.results32, go_sem]) rfl ⟨none, 0, 0, by unfold cntL; rw [HO.out]; rfl, .inl (by unfold cntL; rw [HO.out]; rfl), hL.out.1⟩
            · have HO : Hid (stsO xs = true) := Lib.hid (by unfold stsO; rw [hv, decide_eq_true h128]; rfl)
              have hz : Maps.size D' = 0 := hC'.out.none hM hok'.out hv
              go_wp2_with (first
                | (at_len; refine wpList_len_own _ rfl _ 91 rfl 2 2 Try.underlying91 _ w.heap.size xs.length D' rfl hown' ?_)
                | go_in)
              refine bodyPost_ret (v := .tuple #[.slice (some ⟨wx.heap.size, 0, none⟩) 5 5, .bool true]) (by simp [results, Try.results32, go_sem]) rfl ⟨some ⟨wx.heap.size, 0, none⟩, 5, wx.heap.size, by unfold cntL; rw [HO.out]; rfl, .inr ⟨rfl, Nat.le_of_lt hL.out.2.1, by unfold cntL; rw [HO.out]; exact hL.out.own rfl⟩, hL.out.1⟩
  · have HO : Hid (stsO xs = false) := Lib.hid (by unfold stsO; rw [decide_eq_false h128]; rfl)
    go_enter Try.func32, Try.ntmps32
    go_wp2
    refine bodyPost_ret (v := .tuple #[.slice none 0 0, .bool false]) (by simp [results, Try.results32, go_sem]) rfl ⟨none, 0, 0, by unfold cntL; rw [HO.out]; rfl, .inl (by unfold cntL; rw [HO.out]; rfl), Below.refl _ _⟩
end Go.Proofs.Ytmcfnkfcklcpnab
