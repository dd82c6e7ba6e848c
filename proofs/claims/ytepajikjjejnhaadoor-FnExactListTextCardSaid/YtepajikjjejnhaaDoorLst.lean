/- ListText of chapter 1, both sides. No statement is proved here. -/
import Derived.Test.YtepajikjjejnhaaDoorTxt
import Derived.Test.YtepajikjjejnhaaDoorDec
import Derived.Test.YtepajikjjejnhaaDoorMarkI
import Derived.Test.YtepajikjjejnhaaDoorPos
namespace Go.Proofs.YtepajikjjejnhaaDoor
open Go Go.RowKit
/-- a number that texts may have -/
def inR (x : Int) : Bool := decide (-1000000000000000 ≤ x) && decide (x ≤ 1000000000000000)
theorem inR_bd {x : Int} (h : inR x = true) : -1000000000000000 ≤ x ∧ x ≤ 1000000000000000 := by
  unfold inR at h
  simp only [Bool.and_eq_true, decide_eq_true_eq] at h
  exact h
def joinI (xs : List Int) : ByteArray := ⟨(Lib.join ((xs.map decS).map (·.data.toList)) [44]).toArray⟩
def listS (xs : List Int) : ByteArray := if xs.length = 0 then ⟨#[110, 111, 110, 101]⟩ else joinI xs
def lstA (xs : List Int) (k : Nat) : Bool := alls (fun j => inR (xs.getD j 0)) k
def lstO (xs : List Int) : Bool := decide (xs.length ≤ 64) && lstA xs xs.length
def lstT (xs : List Int) : ByteArray := if lstO xs then listS xs else ⟨#[]⟩
theorem lstO_len {xs : List Int} (h : ¬ xs.length ≤ 64) : lstO xs = false := by unfold lstO; rw [decide_eq_false h]; rfl
theorem lstO_no {xs : List Int} {k : Nat} (hk : k < xs.length) (h : inR (xs.getD k 0) = false) : lstO xs = false := by
  unfold lstO lstA
  rw [alls_no (k := k + 1) (by simp only [alls, h, Bool.and_false]) hk, Bool.and_false]
theorem lstO_yes {xs : List Int} (h : xs.length ≤ 64) (h2 : lstA xs xs.length = true) : lstO xs = true := by unfold lstO; rw [decide_eq_true h, h2]; rfl
theorem map_take_snocI (xs : List Int) (k : Nat) (h : k < xs.length) : (xs.take (k + 1)).map decS = (xs.take k).map decS ++ [decS (xs.getD k 0)] := by
  rw [List.take_succ_eq_append_getElem h, List.map_append]
  simp [List.getD, h]
theorem joinTail_lenI (xs : List Int) (h : ∀ x ∈ xs, inR x = true) : (Lib.joinTail [44] ((xs.map decS).map (·.data.toList))).length ≤ 22 * xs.length := by
  induction xs with
  | nil => simp [Lib.joinTail]
  | cons x t ih =>
    have h1 := ih (fun y hy => h y (List.mem_cons_of_mem _ hy))
    have hb := inR_bd (h x (List.mem_cons_self ..))
    have h2 := itoa_size x (by omega) (by omega)
    have h3 : (decS x).data.toList.length = (decS x).size := Array.length_toList
    unfold Lib.joinTail at h1 ⊢
    simp only [List.map_cons, List.flatten_cons, List.length_append, List.length_cons, List.length_nil] at h1 ⊢
    omega
theorem join_lenI (xs : List Int) (h : ∀ x ∈ xs, inR x = true) : (Lib.join ((xs.map decS).map (·.data.toList)) [44]).length ≤ 22 * xs.length := by
  cases xs with
  | nil => simp [Lib.join]
  | cons x t =>
    have h1 := joinTail_lenI t (fun y hy => h y (List.mem_cons_of_mem _ hy))
    have hb := inR_bd (h x (List.mem_cons_self ..))
    have h2 := itoa_size x (by omega) (by omega)
    have h3 : (decS x).data.toList.length = (decS x).size := Array.length_toList
    simp only [List.map_cons]
    rw [Lib.join_cons, List.length_append]
    simp only [List.length_cons]
    omega
theorem joinI_size (xs : List Int) (h : ∀ x ∈ xs, inR x = true) : (joinI xs).size ≤ 22 * xs.length := by
  show (Lib.join ((xs.map decS).map (·.data.toList)) [44]).toArray.size ≤ _
  rw [List.size_toArray]
  exact join_lenI xs h
theorem joinI_one (xs : List Int) (h : 0 < xs.length) : joinI (xs.take 1) = decS (xs.getD 0 0) := by
  cases xs with
  | nil => cases h
  | cons x t =>
    show joinI [x] = decS x
    unfold joinI
    simp only [List.map_cons, List.map_nil]
    rw [Lib.join_one]
theorem joinI_snoc (xs : List Int) (k : Nat) (h1 : 1 ≤ k) (h : k < xs.length) : joinI (xs.take (k + 1)) = joinI (xs.take k) ++ (⟨#[44]⟩ ++ decS (xs.getD k 0)) := by
  unfold joinI
  rw [map_take_snocI xs k h, List.map_append]
  obtain ⟨y, t, hy⟩ : ∃ y t, (xs.take k).map decS = y :: t := by
    cases e : (xs.take k).map decS with
    | nil =>
      have h2 := congrArg List.length e
      rw [List.length_map, List.length_take, List.length_nil] at h2
      omega
    | cons y t => exact ⟨y, t, rfl⟩
  rw [hy, List.map_cons, List.cons_append, List.map_cons, List.map_nil, Lib.join_cons, Lib.join_cons, joinTail_snoc]
  apply ByteArray.ext
  simp [decS]
theorem all_mem {xs : List Int} (h : lstA xs xs.length = true) : ∀ x ∈ xs, inR x = true := by
  intro x hx
  obtain ⟨k, hk, rfl⟩ := List.getElem_of_mem hx
  have := alls_at h k hk
  simpa [List.getD, hk] using this
theorem i_isValue (x : Int) (w : World) :
    Calls Tryd.prog 42 #[.int .i64 x] w fun e w' => e = .returned (.bool (inR x)) ∧ w' = w := by
  have HR : Hid (inR x = (decide (-1000000000000000 ≤ x) && decide (x ≤ 1000000000000000))) := rfl
  generalize inR x = r at HR ⊢
  cases h : decide (-1000000000000000 ≤ x)
  all_goals
    rw [h] at HR
    go_enter Tryd.func42, Tryd.ntmps42
    go_wp2
    go_ret
    exact ⟨by rw [HR.out]; simp_all, rfl⟩
theorem i_valueText_yes (n : Int) (w : World) (h : inR n = true) (hT : T10 w) :
    Calls Tryd.prog 39 #[.int .i64 n] w fun e w' => e = .returned (.tuple #[.string (decS n), .bool true]) ∧ Below w.heap.size w w' := by
  obtain ⟨h0, h1⟩ := inR_bd h
  have HC := Lib.hid (i_Decimal n w (by omega) (by omega) hT)
  have HV := i_isValue n w
  rw [h] at HV
  clear h hT h0 h1
  go_enter Tryd.func39, Tryd.ntmps39
  go_wp2_with fail
  refine HV.mono ?_
  rintro e w1 ⟨rfl, rfl⟩
  go_wp2_with fail
  refine HC.out.mono ?_
  rintro e w1 ⟨rfl, hb⟩
  have HB := Lib.hid hb
  clear hb
  go_wp2
  go_ret2
  exact ⟨rfl, HB.out⟩
theorem i_valueText_no (n : Int) (w : World) (h : inR n = false) :
    Calls Tryd.prog 39 #[.int .i64 n] w fun e w' => e = .returned (.tuple #[.string ⟨#[]⟩, .bool false]) ∧ w' = w := by
  have HV := i_isValue n w
  rw [h] at HV
  clear h
  go_enter Tryd.func39, Tryd.ntmps39
  go_wp2_with fail
  refine HV.mono ?_
  rintro e w1 ⟨rfl, rfl⟩
  go_wp2
  go_ret2
  exact ⟨rfl, rfl⟩
theorem i_joinInts_long (A : Option Addr) (n cap : Nat) (f : Value) (w : World) (h : 64 < n) :
    Calls Tryd.prog 38 #[.slice A n cap, .int .i64 64, f] w fun e w' => e = .returned (.tuple #[.string ⟨#[]⟩, .bool false]) ∧ w' = w := by
  go_enter Tryd.func38, Tryd.ntmps38
  go_wp2
  go_ret2
  exact ⟨rfl, rfl⟩
set_option maxHeartbeats 2000000 in
set_option maxRecDepth 100000 in
theorem i_joinInts (A : Option Addr) (cap : Nat) (xs : List Int) (w : World) (h : FlI w A xs) (hn : xs.length ≤ 64) (hT : T10 w) :
    Calls Tryd.prog 38 #[.slice A xs.length cap, .int .i64 64, .func (.func 39) #[] #[]] w fun e w' => e = .returned (.tuple #[.string (lstT xs), .bool (lstO xs)]) ∧ Below w.heap.size w w' := by
  by_cases h0 : xs.length = 0
  · have HO : Hid (lstO xs = true) := Lib.hid (lstO_yes hn (by rw [h0]; rfl))
    have HS : Hid (lstT xs = ⟨#[110, 111, 110, 101]⟩) := Lib.hid (by unfold lstT listS; rw [HO.out, if_pos h0]; rfl)
    go_enter Tryd.func38, Tryd.ntmps38
    go_wp2
    go_ret2
    exact ⟨by rw [HS.out, HO.out]; rfl, Below.refl _ _⟩
  · have HF := Lib.hid h
    have HT := Lib.hid hT
    have HS : Hid (listS xs = joinI xs) := Lib.hid (by unfold listS; rw [if_neg h0])
    have HNN : Hid (∀ k, k < xs.length → inR (xs.getD k 0) = false → lstO xs = false) := Lib.hid (fun k hk h => lstO_no hk h)
    obtain ⟨i0, hi, hz0, hz1, hz2⟩ := info_parts str_info
    have HI := Lib.hid hi
    have HZ0 := Lib.hid hz0
    have HZ1 := Lib.hid hz1
    have HZ2 := Lib.hid hz2
    clear h hT hi hz0 hz1 hz2
    have hz : ((xs.length : Int) == 0) = false := by simp; intro e; exact h0 (by simp [e])
    have H0 := Lib.hid h0
    clear h0
    have hmk := make_strs xs.length w (by omega)
    have HST : Hid (GrS (w.alloc (.cells (madeCells #[.string ⟨#[]⟩] xs.length) 9)) w.heap.size (.slice (some ⟨w.heap.size, 0, none⟩) 0 xs.length) []) := Lib.hid (GrS.made _ _ xs.length _ (Nat.le_refl _) (by unfold maxLen; omega) (by simp [madeCells]))
    have HB0 : Hid (Below w.heap.size w (w.alloc (.cells (madeCells #[.string ⟨#[]⟩] xs.length) 9))) := Lib.hid ((Below.refl _ _).alloc (Nat.le_refl _) _)
    go_enter Tryd.func38, Tryd.ntmps38
    go_wp2_with fail
    go_loopw [8, 25] (fun v i wr => ∃ k : Nat, k ≤ xs.length ∧ i = .int .i64 k ∧ Hid (lstA xs k = true) ∧ Hid (GrS wr w.heap.size v ((xs.take k).map decS)) ∧ Hid (Below w.heap.size w wr)) (fun _ i _ => xs.length - (intOf i).toNat)
    case atStart => exact ⟨0, Nat.zero_le _, rfl, Lib.hid rfl, HST, HB0⟩
    case round =>
      obtain ⟨k, hk, rfl, HA, HG, HB⟩ := hrel
      by_cases hlt : k < xs.length
      · obtain ⟨b, off, rfl, -, hc⟩ := (HF.out.below HB.out).at_ hlt
        have HNK : Hid (inR (xs.getD k 0) = false → lstO xs = false) := Lib.hid (HNN.out k hlt)
        have HAK : Hid (inR (xs.getD k 0) = true → lstA xs (k + 1) = true) := Lib.hid (fun h => by unfold lstA at HA ⊢; simp only [alls, HA.out, h, Bool.and_true])
        have HSN := Lib.hid (map_take_snocI xs k hlt)
        have HLN : Hid (((xs.take k).map decS).length = k) := Lib.hid (by simp; omega)
        generalize xs.getD k 0 = x at hc HNK HAK HSN
        generalize (xs.take k).map decS = ys at HG HSN HLN
        cases hv : inR x
        · have HO : Hid (lstO xs = false) := Lib.hid (HNK.out hv)
          have HTT : Hid (lstT xs = ⟨#[]⟩) := Lib.hid (by unfold lstT; rw [HO.out]; rfl)
          go_wp2_with fail
          refine (i_valueText_no x _ hv).mono ?_
          rintro e w1 ⟨rfl, rfl⟩
          clear hv
          go_wp2
          go_ret2
          exact ⟨by rw [HTT.out, HO.out]; rfl, HB.out⟩
        have HA1 := Lib.hid (HAK.out hv)
        go_wp2_with fail
        refine (i_valueText_yes x _ hv (HT.out.below HB.out)).mono ?_
        rintro e w1 ⟨rfl, hb1⟩
        clear hv
        have HG1 : Hid (GrS w1 w.heap.size _ ys) := Lib.hid (HG.out.below hb1)
        have HB1 : Hid (Below w.heap.size w w1) := Lib.hid (below_of HB.out HB.out.size hb1)
        clear hb1
        have hown := HG1.out
        unfold GrS at hown
        go_wp2_with (first
          | (at_builtin; refine wpList_append_own _ rfl _ _ 63 rfl w.heap.size 9 i0 (.string ⟨#[]⟩) 1 16 Tryd.underlying63 HI.out HZ0.out HZ1.out HZ2.out rfl (by decide) _ _ _ rfl (hown.alloc _) ⟨_, 0, none⟩ 1 1 [.string (decS x)] rfl rfl ?c1 ?c2 ?c3 ?c4 ?c5 ?_)
          | fail)
        case c1 =>
          intro j u hj
          match j, hj with
          | 0, hj => simp at hj; subst hj; simp [Addr.add]
        case c2 => intro u hu; simp at hu; subst hu; rfl
        case c3 => have := HLN.out; unfold maxLen; omega
        case c4 => have := HLN.out; omega
        case c5 => have := HB1.out.size; simp; omega
        · intro v' w9 hown' hgrow _
          obtain ⟨g2, b2⟩ := GrS.next HG1.out HB1.out (Nat.le_refl _) hown' hgrow
          have HG9 : Hid (GrS w9 w.heap.size v' ((xs.take (k + 1)).map decS)) := Lib.hid (by rw [HSN.out]; exact g2)
          have HB9 := Lib.hid b2
          clear g2 b2 hown hown' hgrow
          go_wp2
          go_roundw
          case rel => exact ⟨k + 1, by omega, by go_num, HA1, HG9, HB9⟩
          case measure => simp [intOf]; omega
      · obtain rfl : k = xs.length := by omega
        have HO : Hid (lstO xs = true) := Lib.hid (lstO_yes hn HA.out)
        have HTT : Hid (lstT xs = joinI xs) := Lib.hid (by unfold lstT; rw [HO.out, HS.out]; rfl)
        have hne : (xs.take xs.length).map decS ≠ [] := by intro e; have := congrArg List.length e; simp at this; exact H0.out (by simp [this])
        obtain ⟨b, cap', rfl, hB0, hlt', hcap, hmx, hcells⟩ := HG.out.own hne
        rw [List.take_length] at hcells hcap
        have hll : (List.map decS (List.take xs.length xs)).length = xs.length := by simp
        rw [hll] at *
        rw [List.length_map] at hcap
        have HJ := Lib.hid (Tryd.strings_Join b 0 cap' (xs.map decS) ⟨#[44]⟩ wr hcells hlt' (by simp; omega) (by rw [List.length_map]; exact hcap) (by have := join_lenI xs (all_mem HA.out); show (Lib.join ((xs.map decS).map (·.data.toList)) [44]).length ≤ _; omega))
        rw [List.length_map] at HJ
        clear hcells
        go_wp2_with fail
        refine HJ.out.mono ?_
        rintro e w2 ⟨rfl, hb2⟩
        have HB2 : Hid (Below w.heap.size w w2) := Lib.hid (below_of HB.out HB.out.size hb2)
        clear hb2
        go_wp2
        go_ret2
        exact ⟨by rw [HTT.out, HO.out]; unfold joinI; rw [List.map_map]; rfl, HB2.out⟩
theorem i_ListText (A : Option Addr) (cap : Nat) (xs : List Int) (w : World) (h : FlI w A xs) (hT : T10 w) :
    Calls Tryd.prog 17 #[.slice A xs.length cap] w fun e w' => e = .returned (.tuple #[.string (lstT xs), .bool (lstO xs)]) ∧ Below w.heap.size w w' := by
  have HC : Hid (Calls Tryd.prog 38 #[.slice A xs.length cap, .int .i64 64, .func (.func 39) #[] #[]] w fun e w' => e = .returned (.tuple #[.string (lstT xs), .bool (lstO xs)]) ∧ Below w.heap.size w w') := Lib.hid (by
    by_cases hn : xs.length ≤ 64
    · exact i_joinInts A cap xs w h hn hT
    · have e := lstO_len hn
      have e2 : lstT xs = ⟨#[]⟩ := by unfold lstT; rw [e]; rfl
      rw [e, e2]
      exact (i_joinInts_long A xs.length cap _ w (by omega)).mono fun e w' ⟨h1, h2⟩ => ⟨h1, h2 ▸ Below.refl _ _⟩)
  clear h hT
  go_enter Tryd.func17, Tryd.ntmps17
  go_wp2_with fail
  refine HC.out.mono ?_
  rintro e w1 ⟨rfl, hb⟩
  have HB := Lib.hid hb
  clear hb
  go_wp2
  go_ret2
  exact ⟨rfl, HB.out⟩
set_option maxHeartbeats 2000000 in
theorem s_l01Text (A : Option Addr) (cap : Nat) (xs : List Int) (w : World) (h : FlI w A xs) (hn : xs.length ≤ 64) (hw : ∀ x ∈ xs, inR x = true) :
    Calls Tryd.prog 37 #[.slice A xs.length cap] w fun e w' => e = .returned (.string (listS xs)) ∧ Below w.heap.size w w' := by
  by_cases h0 : xs.length = 0
  · have HS : Hid (listS xs = ⟨#[110, 111, 110, 101]⟩) := Lib.hid (by unfold listS; rw [if_pos h0])
    go_enter Tryd.func37, Tryd.ntmps37
    go_wp2
    go_ret
    exact ⟨by rw [HS.out]; rfl, Below.refl _ _⟩
  · have HF := Lib.hid h
    have HW := Lib.hid hw
    have HS : Hid (listS xs = joinI xs) := Lib.hid (by unfold listS; rw [if_neg h0])
    have hz : ((xs.length : Int) == 0) = false := by simp; intro e; exact h0 (by simp [e])
    obtain ⟨b, off, rfl, -, hc⟩ := h.at_ (k := 0) (by omega)
    have HX : Hid (inR (xs.getD 0 0) = true) := Lib.hid (hw _ (by simp [List.getD, show 0 < xs.length by omega]))
    have HJ1 : Hid (joinI (xs.take 1) = decS (xs.getD 0 0)) := Lib.hid (joinI_one xs (by omega))
    have hpos : 1 ≤ xs.length := by omega
    generalize xs.getD 0 0 = x0 at hc HX HJ1
    rw [Nat.add_zero] at hc
    clear h hw
    go_enter Tryd.func37, Tryd.ntmps37
    go_wp2_with fail
    refine (s_l01Dec x0 _ (by have := inR_bd HX.out; omega) (by have := inR_bd HX.out; omega)).mono ?_
    rintro e w1 ⟨rfl, hb1⟩
    have HB1 := Lib.hid hb1
    clear hb1 hc
    go_wp2_with fail
    go_loopw [3, 4] (fun v i wr => ∃ k : Nat, 1 ≤ k ∧ k ≤ xs.length ∧ i = .int .i64 k ∧ v = .string (joinI (xs.take k)) ∧ Hid (Below w.heap.size w wr)) (fun _ i _ => xs.length - (intOf i).toNat)
    case atStart => exact ⟨1, Nat.le_refl _, hpos, rfl, by rw [HJ1.out], HB1⟩
    case round =>
      obtain ⟨k, hk1, hk, rfl, rfl, HB⟩ := hrel
      by_cases hlt : k < xs.length
      · have hc : wr.cell? ⟨b, off + k, none⟩ = some (.int .i64 (xs.getD k 0)) := by
          obtain ⟨b', off', e, -, h⟩ := (HF.out.below HB.out).at_ hlt
          cases e; exact h
        have HX2 : Hid (inR (xs.getD k 0) = true) := Lib.hid (HW.out _ (by simp [List.getD, hlt]))
        have HJ : Hid (joinI (xs.take (k + 1)) = joinI (xs.take k) ++ (⟨#[44]⟩ ++ decS (xs.getD k 0))) := Lib.hid (joinI_snoc xs k hk1 hlt)
        have hs1 : (decS (xs.getD k 0)).size ≤ 21 := by have := inR_bd HX2.out; exact itoa_size _ (by omega) (by omega)
        have hs2 : (joinI (xs.take k)).size ≤ 1408 := by have := joinI_size (xs.take k) (fun x hx => HW.out x (List.mem_of_mem_take hx)); simp at this; omega
        generalize joinI (xs.take k) = J at HJ hs2
        generalize xs.getD k 0 = x at hc HX2 HJ hs1
        go_wp2_with fail
        refine (s_l01Dec x wr (by have := inR_bd HX2.out; omega) (by have := inR_bd HX2.out; omega)).mono ?_
        rintro e w2 ⟨rfl, hb2⟩
        have HB2 : Hid (Below w.heap.size w w2) := Lib.hid (below_of HB.out HB.out.size hb2)
        clear hb2 hc
        generalize decS x = T at HJ hs1 ⊢
        have hs3 : ((⟨#[44]⟩ : ByteArray) ++ T).size ≤ 22 := by rw [ByteArray.size_append]; show 1 + T.size ≤ 22; omega
        go_wp2
        go_roundw
        case rel => exact ⟨k + 1, by omega, by omega, by go_num, by rw [HJ.out], HB2⟩
        case measure => simp [intOf]; omega
      · obtain rfl : k = xs.length := by omega
        have HR : Hid (joinI (xs.take xs.length) = listS xs) := Lib.hid (by rw [List.take_length, HS.out])
        go_wp2
        go_ret
        exact ⟨by rw [HR.out]; rfl, HB.out⟩
set_option maxHeartbeats 2000000 in
theorem s_l01List (A : Option Addr) (cap : Nat) (xs : List Int) (w : World) (h : FlI w A xs) (hn : xs.length ≤ 1048576) :
    Calls Tryd.prog 36 #[.slice A xs.length cap] w fun e w' => e = .returned (.bool (lstO xs)) ∧ Below w.heap.size w w' := by
  have HF := Lib.hid h
  have HE : Hid (lstO xs = (decide (xs.length ≤ 64) && lstA xs xs.length)) := rfl
  have HNN : Hid (∀ k, k < xs.length → inR (xs.getD k 0) = false → lstO xs = false) := Lib.hid (fun k hk h => lstO_no hk h)
  generalize lstO xs = r at HE HNN ⊢
  clear h
  go_enter Tryd.func36, Tryd.ntmps36
  go_wp2
  go_loopw [3] (fun i wr => ∃ (k : Nat), k ≤ xs.length ∧ i = .int .i64 k ∧ Hid (lstA xs k = true) ∧ Hid (Below w.heap.size w wr)) (fun i _ => xs.length - (intOf i).toNat)
  case atStart => exact ⟨0, Nat.zero_le _, rfl, Lib.hid rfl, Lib.hid (Below.refl _ _)⟩
  case round =>
    obtain ⟨k, hk, rfl, HA, HB⟩ := hrel
    by_cases hlt : k < xs.length
    · obtain ⟨b, off, rfl, -, hc⟩ := (HF.out.below HB.out).at_ hlt
      have HNK := Lib.hid (HNN.out k hlt)
      have HAK : Hid (inR (xs.getD k 0) = true → lstA xs (k + 1) = true) := Lib.hid (fun h => by unfold lstA at HA ⊢; simp only [alls, HA.out, h, Bool.and_true])
      generalize xs.getD k 0 = x at hc HNK HAK
      go_wp2_with fail
      refine (s_l00In x (-1000000000000000) 1000000000000000 _).mono ?_
      rintro e w1 ⟨rfl, rfl⟩
      have HR : Hid ((decide (-1000000000000000 ≤ x) && decide (x ≤ 1000000000000000)) = inR x) := rfl
      rw [HR.out]
      cases hv : inR x
      · have HO := Lib.hid (HNK.out hv)
        go_wp2
        go_ret
        exact ⟨by rw [HO.out]; rfl, HB.out⟩
      · have HA1 := Lib.hid (HAK.out hv)
        go_wp2
        go_roundw
        case rel => exact ⟨k + 1, by omega, by go_num, HA1, HB⟩
        case measure => simp [intOf]; omega
    · have hke : k = xs.length := by omega
      have HA2 : Hid (lstA xs xs.length = true) := Lib.hid (by rw [← hke]; exact HA.out)
      go_wp2
      go_ret
      exact ⟨by rw [HE.out, HA2.out, Bool.and_true]; congr 1; simp; omega, HB.out⟩
theorem s_ListText (A : Option Addr) (cap : Nat) (xs : List Int) (w : World) (h : FlI w A xs) (hn : xs.length ≤ 1048576) :
    Calls Tryd.prog 15 #[.slice A xs.length cap] w fun e w' => e = .returned (.tuple #[.string (lstT xs), .bool (lstO xs)]) ∧ Below w.heap.size w w' := by
  have HF := Lib.hid h
  clear h
  go_enter Tryd.func15, Tryd.ntmps15
  go_wp2_with fail
  refine (s_l01List A cap xs w HF.out hn).mono ?_
  rintro e w1 ⟨rfl, hb⟩
  have HB1 := Lib.hid hb
  clear hb
  cases hv : lstO xs
  · have HT : Hid (lstT xs = ⟨#[]⟩) := Lib.hid (by unfold lstT; rw [hv]; rfl)
    have HQ := Lib.hid hv
    go_wp2
    go_ret2
    exact ⟨by rw [HT.out, HQ.out]; rfl, HB1.out⟩
  · have HT : Hid (lstT xs = listS xs) := Lib.hid (by unfold lstT; rw [hv]; rfl)
    have HQ := Lib.hid hv
    have h2 : xs.length ≤ 64 ∧ lstA xs xs.length = true := by
      unfold lstO at hv
      rw [Bool.and_eq_true] at hv
      exact ⟨of_decide_eq_true hv.1, hv.2⟩
    have H64 := Lib.hid h2.1
    have HAL := Lib.hid (all_mem h2.2)
    clear h2
    go_wp2_with fail
    refine (s_l01Text A cap xs w1 (HF.out.below HB1.out) H64.out HAL.out).mono ?_
    rintro e w2 ⟨rfl, hb⟩
    have HB2 : Hid (Below w.heap.size w w2) := Lib.hid (below_of HB1.out HB1.out.size hb)
    clear hb
    go_wp2
    go_ret2
    exact ⟨by rw [HT.out, HQ.out]; rfl, HB2.out⟩
end Go.Proofs.YtepajikjjejnhaaDoor
