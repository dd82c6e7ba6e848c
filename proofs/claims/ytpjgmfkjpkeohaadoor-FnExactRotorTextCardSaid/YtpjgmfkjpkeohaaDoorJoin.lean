/- The texts of lists of numbers, both sides. No statement is proved here. -/
import Derived.Test.YtpjgmfkjpkeohaaDoorFmt
import Derived.Test.YtpjgmfkjpkeohaaDoorByt
namespace Go.Proofs.YtpjgmfkjpkeohaaDoor
open Go Go.RowKit
/-- the table that tells trailing zeros holds what it is laid with, where it is looked at -/
def T64 (w : World) : Prop := w.cell? ⟨6, 15, none⟩ = some (.int .u8 4)
theorem T64.below {w w' : World} (h : T64 w) (hb : Below w.heap.size w w') : T64 w' := by
  unfold T64 at *
  rw [hb.cell (p := ⟨6, 15, none⟩) (cell_lt h).1]; exact h
/-- the text of a list -/
def joinS (xs : List Nat) : ByteArray := ⟨(Lib.join ((xs.map hexS).map (·.data.toList)) [44]).toArray⟩
def textS (xs : List Nat) : ByteArray := if xs.length = 0 then ⟨#[110, 111, 110, 101]⟩ else joinS xs
theorem joinTail_len (xs : List Nat) : (Lib.joinTail [44] ((xs.map hexS).map (·.data.toList))).length = 9 * xs.length := by
  induction xs with
  | nil => rfl
  | cons x t ih =>
    unfold Lib.joinTail at ih ⊢
    simp only [List.map_cons, List.flatten_cons, List.length_append, List.length_cons, List.length_nil, hexS_list, hexN_length] at ih ⊢
    omega
theorem join_len (xs : List Nat) : (Lib.join ((xs.map hexS).map (·.data.toList)) [44]).length ≤ 9 * xs.length := by
  cases xs with
  | nil => simp [Lib.join]
  | cons x t =>
    simp only [List.map_cons]
    rw [Lib.join_cons, List.length_append, hexS_list, hexN_length]
    have := joinTail_len t
    simp only [List.length_cons]
    omega
theorem joinS_size (xs : List Nat) : (joinS xs).size ≤ 9 * xs.length := by
  show (Lib.join ((xs.map hexS).map (·.data.toList)) [44]).toArray.size ≤ _
  rw [List.size_toArray]
  exact join_len xs
theorem textS_size (xs : List Nat) : (textS xs).size ≤ 9 * xs.length + 4 := by
  unfold textS
  split
  · show 4 ≤ _; omega
  · have := joinS_size xs; omega
theorem i_joinTexts_no (A : Option Addr) (n cap : Nat) (f : Value) (w : World) (h : 256 < n) :
    Calls Tryd.prog 138 #[.slice A n cap, .int .i64 256, f] w fun e w' => e = .returned (.tuple #[.string ⟨#[]⟩, .bool false]) ∧ w' = w := by
  go_enter Tryd.func138, Tryd.ntmps138
  go_wp2
  go_ret2
  exact ⟨rfl, rfl⟩
theorem make_strs (n : Nat) (w : World) (h : n ≤ 1048576) : (Instr.makeSlice 71 (.int .i64 0) (.int .i64 n)).run Tryd.prog w = .ok (.slice (some ⟨w.heap.size, 0, none⟩) 0 n) (w.alloc (.cells (madeCells #[.string ⟨#[]⟩] n) 9)) := by
  obtain ⟨i0, hi, hz, hs, hb⟩ := info_parts str_info
  have := run_make (P := Tryd.prog) w 71 9 i0 (.string ⟨#[]⟩) (by kernel_rfl) hi hz .i64 .i64 0 n (by omega) (by omega) (by rw [hb]; omega) (by omega)
  rw [this, hs]
  simp [Value.cells]
theorem map_take_snoc (xs : List Nat) (k : Nat) (h : k < xs.length) : (xs.take (k + 1)).map hexS = (xs.take k).map hexS ++ [hexS (xs.getD k 0)] := by
  rw [List.take_succ_eq_append_getElem h, List.map_append]
  simp [List.getD, h]
set_option maxHeartbeats 300000 in
set_option maxRecDepth 100000 in
theorem i_joinTexts (A : Option Addr) (cap : Nat) (xs : List Nat) (w : World) (h : Fl w A xs) (hn : xs.length ≤ 256) (hw : ∀ x ∈ xs, canon .f32 x < 4294967296) (hT : T64 w) :
    Calls Tryd.prog 138 #[.slice A xs.length cap, .int .i64 256, .func (.func 139) #[] #[]] w fun e w' => e = .returned (.tuple #[.string (textS xs), .bool true]) ∧ Below w.heap.size w w' := by
  by_cases h0 : xs.length = 0
  · have HS : Hid (textS xs = ⟨#[110, 111, 110, 101]⟩) := Lib.hid (by unfold textS; rw [if_pos h0])
    go_enter Tryd.func138, Tryd.ntmps138
    go_wp2
    go_ret2
    exact ⟨by rw [HS.out]; rfl, Below.refl _ _⟩
  · have HF := Lib.hid h
    have HW := Lib.hid hw
    have HT := Lib.hid hT
    have HS : Hid (textS xs = joinS xs) := Lib.hid (by unfold textS; rw [if_neg h0])
    obtain ⟨i0, hi, hz0, hz1, hz2⟩ := info_parts str_info
    have HI := Lib.hid hi
    have HZ0 := Lib.hid hz0
    have HZ1 := Lib.hid hz1
    have HZ2 := Lib.hid hz2
    clear h hw hT hi hz0 hz1 hz2
    have hz : ((xs.length : Int) == 0) = false := by simp; intro e; exact h0 (by simp [e])
    have H0 := Lib.hid h0
    clear h0
    have hmk := make_strs xs.length w (by omega)
    have HST : Hid (GrS (w.alloc (.cells (madeCells #[.string ⟨#[]⟩] xs.length) 9)) w.heap.size (.slice (some ⟨w.heap.size, 0, none⟩) 0 xs.length) []) := Lib.hid (GrS.made _ _ xs.length _ (Nat.le_refl _) (by unfold maxLen; omega) (by simp [madeCells]))
    have HB0 : Hid (Below w.heap.size w (w.alloc (.cells (madeCells #[.string ⟨#[]⟩] xs.length) 9))) := Lib.hid ((Below.refl _ _).alloc (Nat.le_refl _) _)
    go_enter Tryd.func138, Tryd.ntmps138
    go_wp2_with fail
    go_loopw [8, 25] (fun v i wr => ∃ k : Nat, k ≤ xs.length ∧ i = .int .i64 k ∧ Hid (GrS wr w.heap.size v ((xs.take k).map hexS)) ∧ Hid (Below w.heap.size w wr)) (fun _ i _ => xs.length - (intOf i).toNat)
    case atStart => exact ⟨0, Nat.zero_le _, rfl, HST, HB0⟩
    case round =>
      obtain ⟨k, hk, rfl, HG, HB⟩ := hrel
      by_cases hlt : k < xs.length
      · obtain ⟨b, off, rfl, -, hc⟩ := (HF.out.below HB.out).at_ hlt
        have HX : Hid (canon .f32 (xs.getD k 0) < 4294967296) := Lib.hid (HW.out _ (by simp [List.getD, hlt]))
        have HSN := Lib.hid (map_take_snoc xs k hlt)
        have HLN : Hid (((xs.take k).map hexS).length = k) := Lib.hid (by simp; omega)
        generalize xs.getD k 0 = x at hc HX HSN
        generalize (xs.take k).map hexS = ys at HG HSN HLN
        go_wp2_with fail
        refine (i_numberText x _ HX.out (HT.out.below HB.out)).mono ?_
        rintro e w1 ⟨rfl, hb1⟩
        have HG1 : Hid (GrS w1 w.heap.size _ ys) := Lib.hid (HG.out.below hb1)
        have HB1 : Hid (Below w.heap.size w w1) := Lib.hid (below_of HB.out HB.out.size hb1)
        clear hb1
        have hown := HG1.out
        unfold GrS at hown
        go_wp2_with (first
          | (at_builtin; refine wpList_append_own _ rfl _ _ 71 rfl w.heap.size 9 i0 (.string ⟨#[]⟩) 1 16 Tryd.underlying71 HI.out HZ0.out HZ1.out HZ2.out rfl (by decide) _ _ _ rfl (hown.alloc _) ⟨_, 0, none⟩ 1 1 [.string (hexS x)] rfl rfl ?c1 ?c2 ?c3 ?c4 ?c5 ?_)
          | fail)
        case c1 =>
          intro j u hj
          match j, hj with
          | 0, hj => simp at hj; subst hj; simp [Addr.add]
        case c2 => intro u hu; simp at hu; subst hu; rfl
        case c3 => have := HLN.out; unfold maxLen; omega
        case c4 => have := HLN.out; omega
        case c5 => have := HB1.out.size; simp; omega
        · intro v' w9 hown' hgrow _
          obtain ⟨g2, b2⟩ := GrS.next HG1.out HB1.out (Nat.le_refl _) hown' hgrow
          have HG9 : Hid (GrS w9 w.heap.size v' ((xs.take (k + 1)).map hexS)) := Lib.hid (by rw [HSN.out]; exact g2)
          have HB9 := Lib.hid b2
          clear g2 b2 hown hown' hgrow
          go_wp2
          go_roundw
          case rel => exact ⟨k + 1, by omega, by go_num, HG9, HB9⟩
          case measure => simp [intOf]; omega
      · obtain rfl : k = xs.length := by omega
        have hne : (xs.take xs.length).map hexS ≠ [] := by intro e; have := congrArg List.length e; simp at this; exact H0.out (by simp [this])
        obtain ⟨b, cap', rfl, hB0, hlt', hcap, hmx, hcells⟩ := HG.out.own hne
        rw [List.take_length] at hcells hcap
        have hll : (List.map hexS (List.take xs.length xs)).length = xs.length := by simp
        rw [hll] at *
        rw [List.length_map] at hcap
        have HJ := Lib.hid (Tryd.strings_Join b 0 cap' (xs.map hexS) ⟨#[44]⟩ wr hcells hlt' (by simp; omega) (by rw [List.length_map]; exact hcap) (by have := join_len xs; show (Lib.join ((xs.map hexS).map (·.data.toList)) [44]).length ≤ _; omega))
        rw [List.length_map] at HJ
        clear hcells
        go_wp2_with fail
        refine HJ.out.mono ?_
        rintro e w2 ⟨rfl, hb2⟩
        have HB2 : Hid (Below w.heap.size w w2) := Lib.hid (below_of HB.out HB.out.size hb2)
        clear hb2
        go_wp2
        go_ret2
        exact ⟨by rw [HS.out]; unfold joinS; rw [List.map_map]; rfl, HB2.out⟩
end Go.Proofs.YtpjgmfkjpkeohaaDoor
