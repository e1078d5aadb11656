/- Texts on which the proofs of several laws stand, one behind the other (5 of 10). No condition of their own. -/
import Derived.Test.YtlljmgphgmklcaaDoorR10P4
import Derived.Test.YtlljmgphgmklcaaDoorR10P1
import Derived.Test.YtlljmgphgmklcaaDoorChecked
import Derived.Test.YtlljmgphgmklcaaDoorR10P2
import Derived.WalkKit
import Derived.WalkSpells
import Derived.WalkLawsBesides
import Derived.BigQuiet
import Derived.OwnWalk
import Derived.Deep.LoopGhost
import Derived.Deep.QuietTactic
import Derived.IntWalk
import Derived.Lib.QuietBelow
/- slices.Sort of numbers as a plain function; the contract of the program's. No condition. -/
namespace Go.Proofs.YtlljmgphgmklcaaDoor.GxSlicesSortIntInt
set_option linter.unusedVariables false
open Go.RowKit
open Go.Proofs.YtlljmgphgmklcaaDoor.Turn Go.Proofs.YtlljmgphgmklcaaDoor.GoM
def P (x_0 : List Int) : Option (List Int) := if x_0.length < 4611686018427387904 then some (x_0.mergeSort fun x y => decide (x ≤ y)) else none
theorem C (x_0 : List Int) (A0 : Option Addr) (c0 : Nat) (b0 : Nat) (w : World) (M0 : Hid (w.ownsRow b0 3 1 (.slice A0 x_0.length c0) x_0.length (Go.Proofs.YtlljmgphgmklcaaDoor.HelpInt.iv x_0))) (N0 : Hid (x_0.length ≤ 9223372036854775807)) {l_ : List Int} (H : Hid (P x_0 = some l_)) :
    Calls Tryd.prog 55 #[.slice A0 x_0.length c0] w (fun e w' => e = .returned (.tuple #[]) ∧ w'.ownsRow b0 3 1 (.slice A0 x_0.length c0) x_0.length (Go.Proofs.YtlljmgphgmklcaaDoor.HelpInt.iv l_) ∧ l_.length = x_0.length ∧ w.grownBy w' (Value.slice A0 x_0.length c0).ownBlock) := by
  have h : P x_0 = some l_ := H
  unfold P at h
  by_cases hl : x_0.length < 4611686018427387904
  · rw [if_pos hl] at h
    obtain rfl := Option.some.inj h
    have M := M0.out
    by_cases hz : x_0 = []
    · subst hz
      refine (Tryd.slices_Sort_int_none A0 c0 w).mono ?_
      rintro e w' ⟨rfl, rfl⟩
      have e0 : (([] : List Int).mergeSort fun x y => decide (x ≤ y)) = [] := List.eq_nil_of_length_eq_zero (by simp)
      rw [e0]
      exact ⟨rfl, M, rfl, Aid.grown_refl _ _⟩
    · have hpos : 0 < x_0.length := List.length_pos_iff.2 hz
      obtain ⟨g, rfl⟩ := own_some M hpos
      have hg := (M.lt g (by simp [Value.ownBlock])).2
      refine (Tryd.slices_Sort_int g 0 c0 x_0 w (Go.Proofs.YtlljmgphgmklcaaDoor.GoS.own_holds rfl M) hg hl).mono ?_
      rintro e w' ⟨rfl, n, os, rfl⟩
      have hm : (x_0.mergeSort fun x y => decide (x ≤ y)).length = x_0.length := List.length_mergeSort _
      obtain ⟨h1, h2⟩ := Go.Proofs.YtlljmgphgmklcaaDoor.GoS.own_put (m := x_0.mergeSort fun x y => decide (x ≤ y)) rfl hm M n
      have h3 := Go.Proofs.YtlljmgphgmklcaaDoor.GoS.grown_grow (Sort.putRow (Value.int .i64) (Sort.ahead w n) g 0 (x_0.mergeSort fun x y => decide (x ≤ y)).toArray) os none
      exact ⟨rfl, h1.kept h3 (by simp [Value.ownBlock]), hm, Aid.grown_tr h2 (Go.Proofs.YtlljmgphgmklcaaDoor.GoS.grown_grow _ os _)⟩
  · rw [if_neg hl] at h; simp at h
end Go.Proofs.YtlljmgphgmklcaaDoor.GxSlicesSortIntInt

/- slices.Compact of numbers as a plain function; the contract of the program's. No condition. -/
namespace Go.Proofs.YtlljmgphgmklcaaDoor.GxSlicesCompactIntInt
set_option linter.unusedVariables false
open Go.RowKit
open Go.Proofs.YtlljmgphgmklcaaDoor.Turn Go.Proofs.YtlljmgphgmklcaaDoor.GoM
def P (s_0 : List Int) : Option (List Int) := some (Lib.compact s_0)
theorem C (s_0 : List Int) (A0 : Option Addr) (c0 : Nat) (b0 : Nat) (w : World) (M0 : Hid (w.ownsRow b0 3 1 (.slice A0 s_0.length c0) s_0.length (Go.Proofs.YtlljmgphgmklcaaDoor.HelpInt.iv s_0))) (N0 : Hid (s_0.length ≤ 9223372036854775807)) (LB : Hid (b0 ≤ w.heap.size)) {r : List Int} (H : Hid (P s_0 = some r)) :
    Calls Tryd.prog 56 #[.slice A0 s_0.length c0] w (fun e w' => ∃ A_r c_r, e = .returned (.slice A_r r.length c_r) ∧ w'.ownsRow b0 3 1 (.slice A_r r.length c_r) r.length (Go.Proofs.YtlljmgphgmklcaaDoor.HelpInt.iv r) ∧ w.grownBy w' (Value.slice A0 s_0.length c0).ownBlock ∧ Go.Proofs.YtlljmgphgmklcaaDoor.GoK.From w A0 A_r) := by
  have h : P s_0 = some r := H
  unfold P at h
  obtain rfl := Option.some.inj h
  have M := M0.out
  by_cases hz : s_0 = []
  · subst hz
    refine (Tryd.slices_Compact_int_empty A0 c0 w).mono ?_
    rintro e w' ⟨rfl, rfl⟩
    exact ⟨A0, c0, rfl, M, Aid.grown_refl _ _, Go.Proofs.YtlljmgphgmklcaaDoor.GoK.from_self⟩
  · have hpos : 0 < s_0.length := List.length_pos_iff.2 hz
    obtain ⟨g, rfl⟩ := own_some M hpos
    have hle := Lib.compact_length_le s_0
    have hR := own_room M
    refine (Tryd.slices_Compact_int g 0 c0 s_0 w (Go.Proofs.YtlljmgphgmklcaaDoor.GoS.own_holds rfl M) N0.out hR.1).mono ?_
    rintro e w' ⟨rfl, q, rfl⟩
    obtain ⟨h1, h2⟩ := Go.Proofs.YtlljmgphgmklcaaDoor.GoS.own_put (m := Lib.compact s_0 ++ List.replicate (s_0.length - (Lib.compact s_0).length) 0) rfl (by rw [List.length_append, List.length_replicate]; omega) M q
    obtain ⟨i0, hi, hz0, hz1, hz2⟩ := Aid.info_parts (P := Tryd.prog) (T := 3) (z := .int .i64 0) (s := 1) (b := 8) (by kernel_rfl)
    have h3 := (slice_head (P := Tryd.prog) (t := 49) (k := .i64) (hi := ((Lib.compact s_0).length : Int)) (m := (Lib.compact s_0).length) (ys := Go.Proofs.YtlljmgphgmklcaaDoor.HelpInt.iv (Lib.compact s_0)) (by kernel_rfl) (by kernel_rfl) hi hz1 h1 ⟨by omega, by omega⟩ (by omega) (by
      unfold Go.Proofs.YtlljmgphgmklcaaDoor.HelpInt.iv
      rw [List.map_append, Int.toNat_natCast, Nat.mul_one, List.take_left' (by simp)])).2
    exact ⟨_, c0, rfl, h3, h2, Go.Proofs.YtlljmgphgmklcaaDoor.GoK.from_self⟩
end Go.Proofs.YtlljmgphgmklcaaDoor.GxSlicesCompactIntInt

/- loop.example/g01062/impl.turningDays as a plain function, and the contract of the program's: where the plain one has an answer, the program has it. Conditions: slices read as lists. -/
namespace Go.Proofs.YtlljmgphgmklcaaDoor.GiTurningDays
set_option linter.unusedVariables false
set_option linter.unusedSimpArgs false
open Go.RowKit
open Go.Proofs.YtlljmgphgmklcaaDoor.Rowed Go.Proofs.YtlljmgphgmklcaaDoor.Turn Go.Proofs.YtlljmgphgmklcaaDoor.Aid Go.Proofs.YtlljmgphgmklcaaDoor.GoP Go.Proofs.YtlljmgphgmklcaaDoor.GoM

def l0 (list : (List Go.Proofs.YtlljmgphgmklcaaDoor.PRate.Rate)) (k0 : Nat) (s : (List Int)) (nx0 bk0 : (List Int) → Option ((List Int))) : Option ((List Int)) :=
  letK s fun days_3l0 =>
  Option.bind (idx list (k0 : Int)) fun (yt_7 : Go.Proofs.YtlljmgphgmklcaaDoor.PRate.Rate) =>
  unRate yt_7 fun (t_7_zone : Int) (t_7_grams : Int) (t_7_from_ : Int) (t_7_until_ : Int) (t_7_cents : Int) =>
  letK (IntKind.i64.wrap (t_7_until_ + 1)) fun (t_16 : Int) =>
  letK ([t_7_from_, t_16]) fun (t_17 : (List Int)) =>
  guardK (days_3l0.length + t_17.length ≤ 1099511627776) <|
  letK (days_3l0 ++ t_17) fun (t_18 : (List Int)) =>
  appK nx0 (t_18)

def e0  (s : (List Int)) : Option ((List Int)) :=
  letK s fun days_3l0 =>
  Option.bind (Go.Proofs.YtlljmgphgmklcaaDoor.GxSlicesSortIntInt.P days_3l0) fun (lt_23 : (List Int)) =>
  Option.bind (Go.Proofs.YtlljmgphgmklcaaDoor.GxSlicesCompactIntInt.P lt_23) fun (t_25 : (List Int)) =>
  some t_25

def P (list : (List Go.Proofs.YtlljmgphgmklcaaDoor.PRate.Rate)) : Option ((List Int)) :=
  cntK (l0 list) (list.length) 0 (([] : List Int)) (e0 )

set_option maxRecDepth 100000 in
set_option maxHeartbeats 2000000 in
theorem C (list : (List Go.Proofs.YtlljmgphgmklcaaDoor.PRate.Rate)) (A0 : Option Addr) (c0 : Nat)  (w : World) (M0 : Hid (Cells w 5 A0 list.length (Go.Proofs.YtlljmgphgmklcaaDoor.PRate.flat list))) (N0 : Hid (list.length ≤ 9223372036854775807))  {r : (List Int)} (H : Hid (P list = some r)) :
    Calls Tryd.prog 46 #[.slice A0 list.length c0] w (fun e w' => ∃ A_r c_r, e = .returned (.slice A_r r.length c_r) ∧ w'.ownsRow w.heap.size 3 1 (.slice A_r r.length c_r) r.length (Go.Proofs.YtlljmgphgmklcaaDoor.HelpInt.iv r) ∧ Below w.heap.size w w') := by
  have HB := Lib.hid (Below.refl w.heap.size w)
  unfold P at H
  have N0o := N0.out
  obtain ⟨i0_3, hi_3, hz0_3, hz1_3, hz2_3⟩ := Aid.info_parts (P := Tryd.prog) (T := 3) (z := .int .i64 0) (s := 1) (b := 8) (by kernel_rfl)
  go_enter Tryd.func46, Tryd.ntmps46
  obtain ⟨w_t_1, hw_t_1⟩ : ∃ x, w.alloc (.cells #[] 3) = x := ⟨_, rfl⟩
  have bw_t_1 : Below w.heap.size w w_t_1 := by rw [← hw_t_1]; exact (Below.refl _ _).alloc (Nat.le_refl _) _
  have Ot_1 : Hid (w_t_1.ownsRow w.heap.size 3 1 (.slice (some ⟨w.heap.size, 0, none⟩) 0 0) 0 []) := Lib.hid (by rw [← hw_t_1]; exact own_empty HB.out.size)
  have HBw_t_1 := Lib.hid (Below.step HB.out bw_t_1)
  clear bw_t_1
  go_wp2_with fail
  go_loopg [9, 3] (list.length) (fun m_ v9_ v3_ wr => ∃ (k0 : Nat) (days_3l0 : (List Int)) (Adays_3l0 : Option Addr) (cdays_3l0 : Nat), k0 + m_ = list.length ∧ v9_ = .int .i64 (k0 : Int) ∧ v3_ = .slice Adays_3l0 days_3l0.length cdays_3l0 ∧ Hid (cntK (l0 list) m_ k0 (days_3l0) (e0 ) = some r) ∧ Hid (Below w.heap.size w wr) ∧ Hid (wr.ownsRow w.heap.size 3 1 (.slice Adays_3l0 days_3l0.length cdays_3l0) days_3l0.length (Go.Proofs.YtlljmgphgmklcaaDoor.HelpInt.iv days_3l0)))
  case atStart => exact ⟨0, _, _, _, by omega, rfl, rfl, H, HBw_t_1, Ot_1⟩
  case round =>
    obtain ⟨k0, days_3l0, Adays_3l0, cdays_3l0, hkm0, rfl, rfl, H, HBwr0, Odays_3l0⟩ := hrel
    rename World => wr0
    cases gk with
    | zero =>
      obtain rfl : k0 = list.length := by omega
      have hc0 : decide (((list.length : Nat) : Int) < ((list.length : Nat) : Int)) = false := by simp
      replace H := cnt_zero H
      unfold e0 at H
      replace H := let_hid H
      obtain ⟨_, rfl, H⟩ := H
      replace H := bind_hid H
      obtain ⟨lt_23, qt_23, H⟩ := H
      go_wp2_with fail
      go_at_call 55
      refine (Go.Proofs.YtlljmgphgmklcaaDoor.GxSlicesSortIntInt.C (days_3l0) Adays_3l0 cdays_3l0 w.heap.size _   Odays_3l0 (Lib.hid (own_max Odays_3l0.out))   qt_23).mono ?_
      rintro e_t_23 wt_23 ⟨rfl, ot_23, nt_23, gt_23⟩
      have Pt_23 := Lib.hid ot_23
      have Gt_23 := Lib.hid gt_23
      replace nt_23 := Lib.hid nt_23
      clear ot_23 gt_23
      have HBwt_23 := Lib.hid (HBwr0.out.grown Gt_23.out HBwr0.out.size (fun q hq => (Odays_3l0.out.lt q hq).1))
      clear Odays_3l0 Gt_23
      replace H := bind_hid H
      obtain ⟨t_25, qt_25, H⟩ := H
      go_wp2_with fail
      have hc0_ := nt_23.out
      have Oct_25_1 := Lib.hid (own_len hc0_ Pt_23.out)
      have con_ := Go.Proofs.YtlljmgphgmklcaaDoor.GxSlicesCompactIntInt.C (lt_23) Adays_3l0 cdays_3l0 w.heap.size _   Oct_25_1 (Lib.hid (own_max Oct_25_1.out)) (Lib.hid HBwt_23.out.size)  qt_25
      rw [hc0_] at con_
      clear hc0_ Oct_25_1
      go_at_call 56
      refine con_.mono ?_
      rintro e_t_25 wt_25 ⟨At_25, ct_25, rfl, ot_25, gt_25, yt_25⟩
      have Pt_25 := Lib.hid ot_25
      have Gt_25 := Lib.hid gt_25
      replace yt_25 := Lib.hid yt_25
      clear ot_25 gt_25
      have HBwt_25 := Lib.hid (HBwt_23.out.grown Gt_25.out HBwt_23.out.size (fun q hq => (Pt_23.out.lt q hq).1))
      clear Pt_23 Gt_25 yt_25
      obtain rfl := ret_hid H
      go_wp2_with fail
      go_ret
      exact ⟨At_25, ct_25, rfl, Pt_25.out, HBwt_25.out⟩
    | succ m0 =>
      have hlt0 : k0 < list.length := by omega
      have hc0 : decide ((k0 : Int) < ((list.length : Nat) : Int)) = true := by simp; omega
      replace H := cnt_succ H
      unfold l0 at H
      replace H := let_hid H
      obtain ⟨_, rfl, H⟩ := H
      replace H := idx_hid H
      obtain ⟨nt_7, yt_7, et_7, lt_7, gt_7, H⟩ := H
      obtain rfl : k0 = nt_7 := by omega
      clear et_7
      obtain ⟨t_7_zone, t_7_grams, t_7_from_, t_7_until_, t_7_cents⟩ := yt_7
      replace H := unRate_hid H
      obtain ⟨ab_t_7, ao_t_7, zt_7, At_7, z_t_7, ct_7_0, ct_7_1, ct_7_2, ct_7_3, ct_7_4⟩ := Go.Proofs.YtlljmgphgmklcaaDoor.ORate.at_ M0.out lt_7
      obtain rfl := Option.some.inj (gt_7.out.symm.trans z_t_7)
      subst At_7
      have ltt_7 := cell_lt ct_7_0
      replace ct_7_0 := cell_below HBwr0.out ct_7_0
      replace ct_7_1 := cell_below HBwr0.out ct_7_1
      replace ct_7_2 := cell_below HBwr0.out ct_7_2
      replace ct_7_3 := cell_below HBwr0.out ct_7_3
      replace ct_7_4 := cell_below HBwr0.out ct_7_4
      clear z_t_7
      have b0t_7 : (0 : Int) ≤ (k0 : Int) := by omega
      have b1t_7 : (k0 : Int) < ((list.length : Nat) : Int) := by omega
      have b2t_7 : ((k0 : Int)).toNat = k0 := by omega
      obtain ⟨w_r_9, hw_r_9⟩ : ∃ x, wr0.alloc (.cells #[.int .i64 t_7_zone, .int .i64 t_7_grams, .int .i64 t_7_from_, .int .i64 t_7_until_, .int .i64 t_7_cents] 38) = x := ⟨_, rfl⟩
      have bw_r_9 : Below wr0.heap.size wr0 w_r_9 := by rw [← hw_r_9]; exact (Below.refl _ _).alloc (Nat.le_refl _) _
      have Dr_9_days_3l0 := Lib.hid (apart_fresh Odays_3l0.out)
      have HBw_r_9 := Lib.hid (Below.step HBwr0.out bw_r_9)
      have ct_7_0__137 := cell_below bw_r_9 ct_7_0
      have ct_7_1__138 := cell_below bw_r_9 ct_7_1
      have ct_7_2__139 := cell_below bw_r_9 ct_7_2
      have ct_7_3__140 := cell_below bw_r_9 ct_7_3
      have ct_7_4__141 := cell_below bw_r_9 ct_7_4
      replace Odays_3l0 := Lib.hid (own_below Odays_3l0.out bw_r_9)
      clear bw_r_9
      have kr_9_0 : w_r_9.cell? ⟨wr0.heap.size, 0, none⟩ = some (.int .i64 t_7_zone) := by rw [← hw_r_9]; exact box_new _ _ _ 0 _ rfl
      have kr_9_1 : w_r_9.cell? ⟨wr0.heap.size, 1, none⟩ = some (.int .i64 t_7_grams) := by rw [← hw_r_9]; exact box_new _ _ _ 1 _ rfl
      have kr_9_2 : w_r_9.cell? ⟨wr0.heap.size, 2, none⟩ = some (.int .i64 t_7_from_) := by rw [← hw_r_9]; exact box_new _ _ _ 2 _ rfl
      have kr_9_3 : w_r_9.cell? ⟨wr0.heap.size, 3, none⟩ = some (.int .i64 t_7_until_) := by rw [← hw_r_9]; exact box_new _ _ _ 3 _ rfl
      have kr_9_4 : w_r_9.cell? ⟨wr0.heap.size, 4, none⟩ = some (.int .i64 t_7_cents) := by rw [← hw_r_9]; exact box_new _ _ _ 4 _ rfl
      replace H := let_hid H
      obtain ⟨t_16, ht_16, H⟩ := H
      replace H := let_hid H
      obtain ⟨t_17, ht_17, H⟩ := H
      obtain ⟨w_t_17, hw_t_17⟩ : ∃ x, w_r_9.alloc (.cells #[.int .i64 t_7_from_, .int .i64 t_16] 3) = x := ⟨_, rfl⟩
      have bw_t_17 : Below w_r_9.heap.size w_r_9 w_t_17 := by rw [← hw_t_17]; exact (Below.refl _ _).alloc (Nat.le_refl _) _
      have hs_t_17 := HBw_r_9.out.size
      have nt_17 : t_17.length = 2 := by rw [← ht_17]; rfl
      have Ot_17 : Hid (w_t_17.ownsRow w.heap.size 3 1 (.slice (some ⟨w_r_9.heap.size, 0, none⟩) 2 2) 2 (Go.Proofs.YtlljmgphgmklcaaDoor.HelpInt.iv t_17)) := by
        rw [← hw_t_17, ← ht_17]
        have e_ : ([.int .i64 t_7_from_, .int .i64 t_16] : List Value) = (Go.Proofs.YtlljmgphgmklcaaDoor.HelpInt.iv ([t_7_from_, t_16] : List Int)) := rfl
        exact Lib.hid (own_laid (n := 2) hs_t_17 e_ rfl (by unfold maxLen; omega))
      clear hs_t_17
      have hht_17 := Lib.hid ht_17
      clear ht_17
      replace nt_17 := Lib.hid nt_17
      have Dt_17_days_3l0 := Lib.hid (apart_fresh Odays_3l0.out)
      have Dt_17_r_9 := Lib.hid (apart_box kr_9_0)
      have HBw_t_17 := Lib.hid (Below.step HBw_r_9.out bw_t_17)
      have ct_7_0__142 := cell_below bw_t_17 ct_7_0__137
      have ct_7_1__143 := cell_below bw_t_17 ct_7_1__138
      have ct_7_2__144 := cell_below bw_t_17 ct_7_2__139
      have ct_7_3__145 := cell_below bw_t_17 ct_7_3__140
      have ct_7_4__146 := cell_below bw_t_17 ct_7_4__141
      have kr_9_0__147 := cell_below bw_t_17 kr_9_0
      have kr_9_1__148 := cell_below bw_t_17 kr_9_1
      have kr_9_2__149 := cell_below bw_t_17 kr_9_2
      have kr_9_3__150 := cell_below bw_t_17 kr_9_3
      have kr_9_4__151 := cell_below bw_t_17 kr_9_4
      replace Odays_3l0 := Lib.hid (own_below Odays_3l0.out bw_t_17)
      clear bw_t_17
      have hc_ := nt_17.out
      have hv_ : (Value.slice (some ⟨w_r_9.heap.size, 0, none⟩) 2 2 : Value) = Value.slice (some ⟨w_r_9.heap.size, 0, none⟩) t_17.length 2 := by rw [hc_]
      replace Ot_17 := Lib.hid (own_len hc_ Ot_17.out)
      replace H := guard_hid H
      obtain ⟨hlt_18, H⟩ := H
      replace H := let_hid H
      obtain ⟨t_18, ht_18, H⟩ := H
      have hht_18 := Lib.hid ht_18
      clear ht_18
      have hst_18 := HBw_t_17.out.size
      have Ct_18 := Lib.hid ((own_cells Ot_17.out))
      go_wp2_with (at_builtin; skip; refine append_spread rfl _ _ 49 rfl w.heap.size 3 i0_3 (.int .i64 0) 1 8 Tryd.underlying49 hi_3 hz0_3 hz1_3 hz2_3 rfl (by decide) Adays_3l0 cdays_3l0 days_3l0.length _ rfl Odays_3l0.out (some ⟨w_r_9.heap.size, 0, none⟩) t_17.length 2 (Go.Proofs.YtlljmgphgmklcaaDoor.HelpInt.iv t_17) rfl (own_room Ot_17.out) Ct_18.out (fun u hu => by unfold Go.Proofs.YtlljmgphgmklcaaDoor.HelpInt.iv at hu; obtain ⟨y_, _, rfl⟩ := List.mem_map.1 hu; rfl) (by unfold maxLen; omega) (by omega) hst_18 ?_; intro vt_18 wt_18 ot_18 gt_18 yt_18; obtain ⟨At_18, ct_18, rfl, pt_18⟩ := own_pushS (f := Go.Proofs.YtlljmgphgmklcaaDoor.HelpInt.iv) hht_18.out (by simp [Go.Proofs.YtlljmgphgmklcaaDoor.HelpInt.iv]) rfl ot_18; have Pt_18 := Lib.hid pt_18; have Yt_18 := Lib.hid yt_18; have Gt_18 := Lib.hid gt_18; clear ot_18 gt_18 pt_18 yt_18; refine stop_in ?_)
      refine stop_out ?_
      clear Ct_18 hc_ hv_
      have HBwt_18 := Lib.hid (HBw_t_17.out.grown Gt_18.out hst_18 (fun q hq => (Odays_3l0.out.lt q hq).1))
      clear hst_18
      have Dt_18_r_9 : Hid (Apart At_18 _) := Lib.hid (apart_app (Apart.symm Dr_9_days_3l0.out) (fun a_ ha_ => by cases ha_; exact cell_lt kr_9_0__147) Yt_18.out)
      have Dt_18_t_17 : Hid (Apart At_18 _) := Lib.hid (apart_app (Apart.symm Dt_17_days_3l0.out) (fun a_ ha_ => (own_lt Ot_17.out a_ ha_).2) Yt_18.out)
      replace ct_7_0__142 := cell_other ct_7_0__142 Gt_18.out (apart_old Odays_3l0.out ltt_7)
      replace ct_7_1__143 := cell_other ct_7_1__143 Gt_18.out (apart_old Odays_3l0.out ltt_7)
      replace ct_7_2__144 := cell_other ct_7_2__144 Gt_18.out (apart_old Odays_3l0.out ltt_7)
      replace ct_7_3__145 := cell_other ct_7_3__145 Gt_18.out (apart_old Odays_3l0.out ltt_7)
      replace ct_7_4__146 := cell_other ct_7_4__146 Gt_18.out (apart_old Odays_3l0.out ltt_7)
      replace kr_9_0__147 := cell_other kr_9_0__147 Gt_18.out (Apart.symm Dr_9_days_3l0.out)
      replace kr_9_1__148 := cell_other kr_9_1__148 Gt_18.out (Apart.symm Dr_9_days_3l0.out)
      replace kr_9_2__149 := cell_other kr_9_2__149 Gt_18.out (Apart.symm Dr_9_days_3l0.out)
      replace kr_9_3__150 := cell_other kr_9_3__150 Gt_18.out (Apart.symm Dr_9_days_3l0.out)
      replace kr_9_4__151 := cell_other kr_9_4__151 Gt_18.out (Apart.symm Dr_9_days_3l0.out)
      replace Ot_17 := Lib.hid (own_other Ot_17.out Gt_18.out (Apart.symm Dt_17_days_3l0.out))
      clear ct_7_0 ct_7_1 ct_7_2 ct_7_3 ct_7_4 ct_7_0__137 ct_7_1__138 ct_7_2__139 ct_7_3__140 ct_7_4__141 kr_9_0 kr_9_1 kr_9_2 kr_9_3 kr_9_4
      clear Odays_3l0 Yt_18 Gt_18
      replace H := app_hid H
      go_wp2_with fail
      go_roundg m0
      case measure => omega
      case rel => exact ⟨k0 + 1, _, _, _, by omega, by go_num, rfl, H, HBwt_18, Pt_18⟩
end Go.Proofs.YtlljmgphgmklcaaDoor.GiTurningDays

/- loop.example/g01062/impl.rateOn as a plain function, and the contract of the program's: where the plain one has an answer, the program has it. Conditions: slices read as lists. -/
namespace Go.Proofs.YtlljmgphgmklcaaDoor.GiRateOn
set_option linter.unusedVariables false
set_option linter.unusedSimpArgs false
open Go.RowKit
open Go.Proofs.YtlljmgphgmklcaaDoor.Rowed Go.Proofs.YtlljmgphgmklcaaDoor.Turn Go.Proofs.YtlljmgphgmklcaaDoor.Aid Go.Proofs.YtlljmgphgmklcaaDoor.GoP Go.Proofs.YtlljmgphgmklcaaDoor.GoM

def l0 (list : (List Go.Proofs.YtlljmgphgmklcaaDoor.PRate.Rate)) (day : Int) (zone : Int) (grams : Int) (k0 : Nat) (s : Unit) (nx0 bk0 : Unit → Option (Int)) : Option (Int) :=
  
  Option.bind (idx list (k0 : Int)) fun (yt_5 : Go.Proofs.YtlljmgphgmklcaaDoor.PRate.Rate) =>
  unRate yt_5 fun (t_5_zone : Int) (t_5_grams : Int) (t_5_from_ : Int) (t_5_until_ : Int) (t_5_cents : Int) =>
  letK (t_5_zone == zone) fun (t_12 : Bool) =>
  joinK (fun (t_18 : Bool) =>
  joinK (fun (t_26 : Bool) =>
  iteK t_26
  (some t_5_cents)
  (appK nx0 ())) fun jt_26 => iteK t_18 (Option.bind (Go.Proofs.YtlljmgphgmklcaaDoor.GiWithin.P day t_5_from_ t_5_until_) fun (t_25 : Bool) =>
  appK jt_26 t_25) (appK jt_26 false)) fun jt_18 => iteK t_12 (letK (decide (grams ≤ t_5_grams)) fun (t_17 : Bool) =>
  appK jt_18 t_17) (appK jt_18 false)

def e0  (s : Unit) : Option (Int) :=
  
  some 0

def P (list : (List Go.Proofs.YtlljmgphgmklcaaDoor.PRate.Rate)) (day : Int) (zone : Int) (grams : Int) : Option (Int) :=
  cntK (l0 list day zone grams) (list.length) 0 () (e0 )

set_option maxRecDepth 100000 in
set_option maxHeartbeats 2000000 in
theorem C (list : (List Go.Proofs.YtlljmgphgmklcaaDoor.PRate.Rate)) (day : Int) (zone : Int) (grams : Int) (A0 : Option Addr) (c0 : Nat)  (w : World) (M0 : Hid (Cells w 5 A0 list.length (Go.Proofs.YtlljmgphgmklcaaDoor.PRate.flat list))) (N0 : Hid (list.length ≤ 9223372036854775807))  {r : Int} (H : Hid (P list day zone grams = some r)) :
    Calls Tryd.prog 32 #[.slice A0 list.length c0, .int .i64 day, .int .i64 zone, .int .i64 grams] w (Gives (.int .i64 r) w) := by
  have HB := Lib.hid (Below.refl w.heap.size w)
  unfold P at H
  have N0o := N0.out
  go_enter Tryd.func32, Tryd.ntmps32
  go_wp2_with fail
  go_loopg [13] (list.length) (fun m_ v13_ wr => ∃ (k0 : Nat) , k0 + m_ = list.length ∧ v13_ = .int .i64 (k0 : Int) ∧ Hid (cntK (l0 list day zone grams) m_ k0 () (e0 ) = some r) ∧ Hid (Below w.heap.size w wr))
  case atStart => exact ⟨0, by omega, rfl, H, HB⟩
  case round =>
    obtain ⟨k0, hkm0, rfl, H, HBwr0⟩ := hrel
    rename World => wr0
    cases gk with
    | zero =>
      obtain rfl : k0 = list.length := by omega
      have hc0 : decide (((list.length : Nat) : Int) < ((list.length : Nat) : Int)) = false := by simp
      replace H := cnt_zero H
      unfold e0 at H
      obtain rfl := ret_hid H
      go_wp2_with fail
      go_ret
      exact ⟨rfl, HBwr0.out⟩
    | succ m0 =>
      have hlt0 : k0 < list.length := by omega
      have hc0 : decide ((k0 : Int) < ((list.length : Nat) : Int)) = true := by simp; omega
      replace H := cnt_succ H
      unfold l0 at H
      replace H := idx_hid H
      obtain ⟨nt_5, yt_5, et_5, lt_5, gt_5, H⟩ := H
      obtain rfl : k0 = nt_5 := by omega
      clear et_5
      obtain ⟨t_5_zone, t_5_grams, t_5_from_, t_5_until_, t_5_cents⟩ := yt_5
      replace H := unRate_hid H
      obtain ⟨ab_t_5, ao_t_5, zt_5, At_5, z_t_5, ct_5_0, ct_5_1, ct_5_2, ct_5_3, ct_5_4⟩ := Go.Proofs.YtlljmgphgmklcaaDoor.ORate.at_ M0.out lt_5
      obtain rfl := Option.some.inj (gt_5.out.symm.trans z_t_5)
      subst At_5
      have ltt_5 := cell_lt ct_5_0
      replace ct_5_0 := cell_below HBwr0.out ct_5_0
      replace ct_5_1 := cell_below HBwr0.out ct_5_1
      replace ct_5_2 := cell_below HBwr0.out ct_5_2
      replace ct_5_3 := cell_below HBwr0.out ct_5_3
      replace ct_5_4 := cell_below HBwr0.out ct_5_4
      clear z_t_5
      have b0t_5 : (0 : Int) ≤ (k0 : Int) := by omega
      have b1t_5 : (k0 : Int) < ((list.length : Nat) : Int) := by omega
      have b2t_5 : ((k0 : Int)).toNat = k0 := by omega
      obtain ⟨w_r_7, hw_r_7⟩ : ∃ x, wr0.alloc (.cells #[.int .i64 t_5_zone, .int .i64 t_5_grams, .int .i64 t_5_from_, .int .i64 t_5_until_, .int .i64 t_5_cents] 38) = x := ⟨_, rfl⟩
      have bw_r_7 : Below wr0.heap.size wr0 w_r_7 := by rw [← hw_r_7]; exact (Below.refl _ _).alloc (Nat.le_refl _) _
      have HBw_r_7 := Lib.hid (Below.step HBwr0.out bw_r_7)
      have ct_5_0__152 := cell_below bw_r_7 ct_5_0
      have ct_5_1__153 := cell_below bw_r_7 ct_5_1
      have ct_5_2__154 := cell_below bw_r_7 ct_5_2
      have ct_5_3__155 := cell_below bw_r_7 ct_5_3
      have ct_5_4__156 := cell_below bw_r_7 ct_5_4
      clear bw_r_7
      have kr_7_0 : w_r_7.cell? ⟨wr0.heap.size, 0, none⟩ = some (.int .i64 t_5_zone) := by rw [← hw_r_7]; exact box_new _ _ _ 0 _ rfl
      have kr_7_1 : w_r_7.cell? ⟨wr0.heap.size, 1, none⟩ = some (.int .i64 t_5_grams) := by rw [← hw_r_7]; exact box_new _ _ _ 1 _ rfl
      have kr_7_2 : w_r_7.cell? ⟨wr0.heap.size, 2, none⟩ = some (.int .i64 t_5_from_) := by rw [← hw_r_7]; exact box_new _ _ _ 2 _ rfl
      have kr_7_3 : w_r_7.cell? ⟨wr0.heap.size, 3, none⟩ = some (.int .i64 t_5_until_) := by rw [← hw_r_7]; exact box_new _ _ _ 3 _ rfl
      have kr_7_4 : w_r_7.cell? ⟨wr0.heap.size, 4, none⟩ = some (.int .i64 t_5_cents) := by rw [← hw_r_7]; exact box_new _ _ _ 4 _ rfl
      replace H := let_hid H
      obtain ⟨t_12, ht_12, H⟩ := H
      replace H := join_hid H
      cases t_12 with
      | false =>
        replace H := ite_f H
        replace H := app_hid H
        replace H := join_hid H
        replace H := ite_f H
        replace H := app_hid H
        replace H := ite_f H
        replace H := app_hid H
        go_wp2_with fail
        clear ct_5_0 ct_5_1 ct_5_2 ct_5_3 ct_5_4
        go_roundg m0
        case measure => omega
        case rel => exact ⟨k0 + 1, by omega, by go_num, H, HBw_r_7⟩
      | true =>
        replace H := ite_t H
        replace H := let_hid H
        obtain ⟨t_17, ht_17, H⟩ := H
        replace H := app_hid H
        replace H := join_hid H
        cases t_17 with
        | false =>
          replace H := ite_f H
          replace H := app_hid H
          replace H := ite_f H
          replace H := app_hid H
          go_wp2_with fail
          clear ct_5_0 ct_5_1 ct_5_2 ct_5_3 ct_5_4
          go_roundg m0
          case measure => omega
          case rel => exact ⟨k0 + 1, by omega, by go_num, H, HBw_r_7⟩
        | true =>
          replace H := ite_t H
          replace H := bind_hid H
          obtain ⟨t_25, qt_25, H⟩ := H
          go_wp2_with fail
          clear ct_5_0 ct_5_1 ct_5_2 ct_5_3 ct_5_4
          go_at_call 37
          refine (Go.Proofs.YtlljmgphgmklcaaDoor.GiWithin.C (day) (t_5_from_) (t_5_until_)  _    qt_25).mono ?_
          rintro e_t_25 wt_25 ⟨rfl, bt_25⟩
          have HBwt_25 := Lib.hid (Below.step HBw_r_7.out bt_25)
          replace ct_5_0__152 := cell_below bt_25 ct_5_0__152
          replace ct_5_1__153 := cell_below bt_25 ct_5_1__153
          replace ct_5_2__154 := cell_below bt_25 ct_5_2__154
          replace ct_5_3__155 := cell_below bt_25 ct_5_3__155
          replace ct_5_4__156 := cell_below bt_25 ct_5_4__156
          replace kr_7_0 := cell_below bt_25 kr_7_0
          replace kr_7_1 := cell_below bt_25 kr_7_1
          replace kr_7_2 := cell_below bt_25 kr_7_2
          replace kr_7_3 := cell_below bt_25 kr_7_3
          replace kr_7_4 := cell_below bt_25 kr_7_4
          clear bt_25
          replace H := app_hid H
          cases t_25 with
          | false =>
            replace H := ite_f H
            replace H := app_hid H
            go_wp2_with fail
            go_roundg m0
            case measure => omega
            case rel => exact ⟨k0 + 1, by omega, by go_num, H, HBwt_25⟩
          | true =>
            replace H := ite_t H
            obtain rfl := ret_hid H
            go_wp2_with fail
            go_ret
            exact ⟨rfl, HBwt_25.out⟩
end Go.Proofs.YtlljmgphgmklcaaDoor.GiRateOn

/- loop.example/g01062/impl.spansOf as a plain function, and the contract of the program's: where the plain one has an answer, the program has it. Conditions: slices read as lists. -/
namespace Go.Proofs.YtlljmgphgmklcaaDoor.GiSpansOf
set_option linter.unusedVariables false
set_option linter.unusedSimpArgs false
open Go.RowKit
open Go.Proofs.YtlljmgphgmklcaaDoor.Rowed Go.Proofs.YtlljmgphgmklcaaDoor.Turn Go.Proofs.YtlljmgphgmklcaaDoor.Aid Go.Proofs.YtlljmgphgmklcaaDoor.GoP Go.Proofs.YtlljmgphgmklcaaDoor.GoM

def l0 (list : (List Go.Proofs.YtlljmgphgmklcaaDoor.PRate.Rate)) (zone : Int) (grams : Int) (t_4 : (List Int)) (k0 : Nat) (s : (List Go.Proofs.YtlljmgphgmklcaaDoor.PIntA3.IntA3)) (nx0 bk0 : (List Go.Proofs.YtlljmgphgmklcaaDoor.PIntA3.IntA3) → Option ((List Go.Proofs.YtlljmgphgmklcaaDoor.PIntA3.IntA3))) : Option ((List Go.Proofs.YtlljmgphgmklcaaDoor.PIntA3.IntA3)) :=
  letK s fun spans_7l0 =>
  Option.bind (idx t_4 (k0 : Int)) fun (yt_11 : Int) =>
  Option.bind (Go.Proofs.YtlljmgphgmklcaaDoor.GiRateOn.P list yt_11 zone grams) fun (t_19 : Int) =>
  letK (t_19 == 0) fun (t_22 : Bool) =>
  iteK t_22
  (appK nx0 (spans_7l0))
  (letK (IntKind.i64.wrap ((k0 : Int) + 1)) fun (t_25 : Int) =>
  Option.bind (idx t_4 t_25) fun (yt_26 : Int) =>
  letK (IntKind.i64.wrap (yt_26 - 1)) fun (t_28 : Int) =>
  letK (IntKind.i64.wrap ((spans_7l0.length : Int) - 1)) fun (t_32 : Int) =>
  letK (decide (0 ≤ t_32)) fun (t_35 : Bool) =>
  joinK (fun (t_45 : Bool) =>
  joinK (fun (t_54 : Bool) =>
  iteK t_54
  (Option.bind (idx spans_7l0 t_32) fun (yt_58 : Go.Proofs.YtlljmgphgmklcaaDoor.PIntA3.IntA3) =>
  unIntA3 yt_58 fun (t_58_x0 : Int) (t_58_x1 : Int) (t_58_x2 : Int) =>
  letK (spans_7l0.set (t_32).toNat (Go.Proofs.YtlljmgphgmklcaaDoor.PIntA3.IntA3.mk t_58_x0 t_28 t_58_x2)) fun (l60_60 : (List Go.Proofs.YtlljmgphgmklcaaDoor.PIntA3.IntA3)) =>
  appK nx0 (l60_60))
  (guardK (spans_7l0.length ≤ 1099511627776) <|
  letK (spans_7l0 ++ [(Go.Proofs.YtlljmgphgmklcaaDoor.PIntA3.IntA3.mk yt_11 t_28 t_19)]) fun (t_67 : (List Go.Proofs.YtlljmgphgmklcaaDoor.PIntA3.IntA3)) =>
  appK nx0 (t_67))) fun jt_54 => iteK t_45 (Option.bind (idx spans_7l0 t_32) fun (yt_49 : Go.Proofs.YtlljmgphgmklcaaDoor.PIntA3.IntA3) =>
  unIntA3 yt_49 fun (t_49_x0 : Int) (t_49_x1 : Int) (t_49_x2 : Int) =>
  letK (t_49_x2 == t_19) fun (t_53 : Bool) =>
  appK jt_54 t_53) (appK jt_54 false)) fun jt_45 => iteK t_35 (Option.bind (idx spans_7l0 t_32) fun (yt_39 : Go.Proofs.YtlljmgphgmklcaaDoor.PIntA3.IntA3) =>
  unIntA3 yt_39 fun (t_39_x0 : Int) (t_39_x1 : Int) (t_39_x2 : Int) =>
  letK (IntKind.i64.wrap (yt_11 - 1)) fun (t_43 : Int) =>
  letK (t_39_x1 == t_43) fun (t_44 : Bool) =>
  appK jt_45 t_44) (appK jt_45 false))

def e0  (s : (List Go.Proofs.YtlljmgphgmklcaaDoor.PIntA3.IntA3)) : Option ((List Go.Proofs.YtlljmgphgmklcaaDoor.PIntA3.IntA3)) :=
  letK s fun spans_7l0 =>
  some spans_7l0

def P (list : (List Go.Proofs.YtlljmgphgmklcaaDoor.PRate.Rate)) (zone : Int) (grams : Int) : Option ((List Go.Proofs.YtlljmgphgmklcaaDoor.PIntA3.IntA3)) :=
  Option.bind (Go.Proofs.YtlljmgphgmklcaaDoor.GiTurningDays.P list) fun (t_4 : (List Int)) =>
  cntK (l0 list zone grams t_4) (t_4.length) 0 (([] : List Go.Proofs.YtlljmgphgmklcaaDoor.PIntA3.IntA3)) (e0 )

set_option maxRecDepth 100000 in
set_option maxHeartbeats 2000000 in
theorem C (list : (List Go.Proofs.YtlljmgphgmklcaaDoor.PRate.Rate)) (zone : Int) (grams : Int) (A0 : Option Addr) (c0 : Nat)  (w : World) (M0 : Hid (Cells w 5 A0 list.length (Go.Proofs.YtlljmgphgmklcaaDoor.PRate.flat list))) (N0 : Hid (list.length ≤ 9223372036854775807))  {r : (List Go.Proofs.YtlljmgphgmklcaaDoor.PIntA3.IntA3)} (H : Hid (P list zone grams = some r)) :
    Calls Tryd.prog 25 #[.slice A0 list.length c0, .int .i64 zone, .int .i64 grams] w (fun e w' => ∃ A_r c_r, e = .returned (.slice A_r r.length c_r) ∧ w'.ownsRow w.heap.size 34 3 (.slice A_r r.length c_r) r.length (Go.Proofs.YtlljmgphgmklcaaDoor.PIntA3.flat r) ∧ Below w.heap.size w w') := by
  have HB := Lib.hid (Below.refl w.heap.size w)
  unfold P at H
  have N0o := N0.out
  obtain ⟨i0_34, hi_34, hz0_34, hz1_34, hz2_34⟩ := Aid.info_parts (P := Tryd.prog) (T := 34) (z := .agg #[.int .i64 0, .int .i64 0, .int .i64 0]) (s := 3) (b := 24) (by kernel_rfl)
  go_enter Tryd.func25, Tryd.ntmps25
  obtain ⟨w_t_1, hw_t_1⟩ : ∃ x, w.alloc (.cells #[] 34) = x := ⟨_, rfl⟩
  have bw_t_1 : Below w.heap.size w w_t_1 := by rw [← hw_t_1]; exact (Below.refl _ _).alloc (Nat.le_refl _) _
  have Ot_1 : Hid (w_t_1.ownsRow w.heap.size 34 3 (.slice (some ⟨w.heap.size, 0, none⟩) 0 0) 0 []) := Lib.hid (by rw [← hw_t_1]; exact own_empty HB.out.size)
  have HBw_t_1 := Lib.hid (Below.step HB.out bw_t_1)
  clear bw_t_1
  replace H := bind_hid H
  obtain ⟨t_4, qt_4, H⟩ := H
  go_wp2_with fail
  go_at_call 46
  refine (Go.Proofs.YtlljmgphgmklcaaDoor.GiTurningDays.C (list) A0 c0 _   (Lib.hid (Cells.below M0.out HBw_t_1.out)) N0 qt_4).mono ?_
  rintro e_t_4 wt_4 ⟨At_4, ct_4, rfl, ot_4, bt_4⟩
  have Dt_4_t_1 := Lib.hid (apart_call ot_4 Ot_1.out)
  have Ot_4 := Lib.hid (own_lower ot_4 HBw_t_1.out.size)
  clear ot_4
  have HBwt_4 := Lib.hid (Below.step HBw_t_1.out bt_4)
  replace Ot_1 := Lib.hid (own_below Ot_1.out bt_4)
  clear bt_4
  have hb_0 : t_4.length ≤ 9223372036854775807 := own_max Ot_4.out
  go_wp2_with fail
  go_loopg [19, 7] (t_4.length) (fun m_ v19_ v7_ wr => ∃ (k0 : Nat) (spans_7l0 : (List Go.Proofs.YtlljmgphgmklcaaDoor.PIntA3.IntA3)) (Aspans_7l0 : Option Addr) (cspans_7l0 : Nat), k0 + m_ = t_4.length ∧ v19_ = .int .i64 (k0 : Int) ∧ v7_ = .slice Aspans_7l0 spans_7l0.length cspans_7l0 ∧ Hid (cntK (l0 list zone grams t_4) m_ k0 (spans_7l0) (e0 ) = some r) ∧ Hid (Below w.heap.size w wr) ∧ Hid (wr.ownsRow w.heap.size 34 3 (.slice Aspans_7l0 spans_7l0.length cspans_7l0) spans_7l0.length (Go.Proofs.YtlljmgphgmklcaaDoor.PIntA3.flat spans_7l0)) ∧ Hid (wr.ownsRow w.heap.size 3 1 (.slice At_4 t_4.length ct_4) t_4.length (Go.Proofs.YtlljmgphgmklcaaDoor.HelpInt.iv t_4)) ∧ Hid (Apart Aspans_7l0 At_4))
  case atStart => exact ⟨0, _, _, _, by omega, rfl, rfl, H, HBwt_4, Ot_1, Ot_4, Lib.hid (Apart.symm Dt_4_t_1.out)⟩
  case round =>
    obtain ⟨k0, spans_7l0, Aspans_7l0, cspans_7l0, hkm0, rfl, rfl, H, HBwr0, Ospans_7l0, Ot_4, Dspans_7l0_t_4⟩ := hrel
    rename World => wr0
    cases gk with
    | zero =>
      obtain rfl : k0 = t_4.length := by omega
      have hc0 : decide (((t_4.length : Nat) : Int) < ((t_4.length : Nat) : Int)) = false := by simp
      replace H := cnt_zero H
      unfold e0 at H
      replace H := let_hid H
      obtain ⟨_, rfl, H⟩ := H
      obtain rfl := ret_hid H
      go_wp2_with fail
      go_ret
      exact ⟨Aspans_7l0, cspans_7l0, rfl, Ospans_7l0.out, HBwr0.out⟩
    | succ m0 =>
      have hlt0 : k0 < t_4.length := by omega
      have hc0 : decide ((k0 : Int) < ((t_4.length : Nat) : Int)) = true := by simp; omega
      replace H := cnt_succ H
      unfold l0 at H
      replace H := let_hid H
      obtain ⟨_, rfl, H⟩ := H
      replace H := idx_hid H
      obtain ⟨nt_11, yt_11, et_11, lt_11, gt_11, H⟩ := H
      obtain rfl : k0 = nt_11 := by omega
      clear et_11
      obtain ⟨qt_11, Qt_11⟩ := own_some Ot_4.out (by omega)
      subst Qt_11
      obtain ⟨ab_t_11, ao_t_11, zt_11, At_11, z_t_11, ct_11_0⟩ := Go.Proofs.YtlljmgphgmklcaaDoor.HelpInt.Ints.at_ (own_cells Ot_4.out) (k := k0) (by omega)
      obtain rfl := Option.some.inj (gt_11.out.symm.trans z_t_11)
      simp only [Option.some.injEq, Addr.mk.injEq] at At_11
      obtain ⟨rfl, rfl, _⟩ := At_11
      clear z_t_11
      simp only [Nat.zero_add] at ct_11_0
      have b0t_11 : (0 : Int) ≤ (k0 : Int) := by omega
      have b1t_11 : (k0 : Int) < ((t_4.length : Nat) : Int) := by omega
      have b2t_11 : ((k0 : Int)).toNat = k0 := by omega
      replace H := bind_hid H
      obtain ⟨t_19, qt_19, H⟩ := H
      go_wp2_with fail
      go_at_call 32
      refine (Go.Proofs.YtlljmgphgmklcaaDoor.GiRateOn.C (list) (yt_11) (zone) (grams) A0 c0 _   (Lib.hid (Cells.below M0.out HBwr0.out)) N0 qt_19).mono ?_
      rintro e_t_19 wt_19 ⟨rfl, bt_19⟩
      have HBwt_19 := Lib.hid (Below.step HBwr0.out bt_19)
      replace ct_11_0 := cell_below bt_19 ct_11_0
      replace Ot_4 := Lib.hid (own_below Ot_4.out bt_19)
      replace Ospans_7l0 := Lib.hid (own_below Ospans_7l0.out bt_19)
      clear bt_19
      replace H := let_hid H
      obtain ⟨t_22, ht_22, H⟩ := H
      cases t_22 with
      | false =>
        replace H := ite_f H
        replace H := let_hid H
        obtain ⟨t_25, ht_25, H⟩ := H
        replace H := idx_hid H
        obtain ⟨nt_26, yt_26, et_26, lt_26, gt_26, H⟩ := H
        subst et_26
        obtain ⟨ab_t_26, ao_t_26, zt_26, At_26, z_t_26, ct_26_0⟩ := Go.Proofs.YtlljmgphgmklcaaDoor.HelpInt.Ints.at_ (own_cells Ot_4.out) (k := nt_26) (by omega)
        obtain rfl := Option.some.inj (gt_26.out.symm.trans z_t_26)
        simp only [Option.some.injEq, Addr.mk.injEq] at At_26
        obtain ⟨rfl, rfl, _⟩ := At_26
        clear z_t_26
        simp only [Nat.zero_add] at ct_26_0
        have b0t_26 : (0 : Int) ≤ (nt_26 : Int) := by omega
        have b1t_26 : (nt_26 : Int) < ((t_4.length : Nat) : Int) := by omega
        have b2t_26 : ((nt_26 : Int)).toNat = nt_26 := by omega
        replace H := let_hid H
        obtain ⟨t_28, ht_28, H⟩ := H
        replace H := let_hid H
        obtain ⟨t_32, ht_32, H⟩ := H
        try have hv_t_32 : (spans_7l0.length : Int) - 1 = t_32 := by rw [← ht_32]; exact (IntWalk.i64_in _ (by omega)).symm
        try have hv2_t_32 : IntKind.i64.wrap t_32 = t_32 := by rw [← hv_t_32]; exact IntWalk.i64_in _ (by omega)
        replace H := let_hid H
        obtain ⟨t_35, ht_35, H⟩ := H
        replace H := join_hid H
        cases t_35 with
        | false =>
          replace H := ite_f H
          replace H := app_hid H
          replace H := join_hid H
          replace H := ite_f H
          replace H := app_hid H
          replace H := ite_f H
          obtain ⟨w_t_66, hw_t_66⟩ : ∃ x, wt_19.alloc (.cells #[.int .i64 yt_11, .int .i64 t_28, .int .i64 t_19] 34) = x := ⟨_, rfl⟩
          have bw_t_66 : Below wt_19.heap.size wt_19 w_t_66 := by rw [← hw_t_66]; exact (Below.refl _ _).alloc (Nat.le_refl _) _
          have HBw_t_66 := Lib.hid (Below.step HBwt_19.out bw_t_66)
          have ct_11_0__157 := cell_below bw_t_66 ct_11_0
          have ct_26_0__158 := cell_below bw_t_66 ct_26_0
          replace Ot_4 := Lib.hid (own_below Ot_4.out bw_t_66)
          replace Ospans_7l0 := Lib.hid (own_below Ospans_7l0.out bw_t_66)
          clear bw_t_66
          replace H := guard_hid H
          obtain ⟨hlt_67, H⟩ := H
          replace H := let_hid H
          obtain ⟨t_67, ht_67, H⟩ := H
          have hht_67 := Lib.hid ht_67
          clear ht_67
          have hst_67 := HBw_t_66.out.size
          go_wp2_with (at_builtin; refine wpList_append_own_at _ rfl _ _ 27 rfl w.heap.size 34 i0_34 (.agg #[.int .i64 0, .int .i64 0, .int .i64 0]) 3 24 Tryd.underlying27 hi_34 hz0_34 hz1_34 hz2_34 rfl (by decide) _ _ _ rfl Ospans_7l0.out ⟨wt_19.heap.size, 0, none⟩ 1 1 [.int .i64 yt_11, .int .i64 t_28, .int .i64 t_19] rfl rfl (news_new hw_t_66) (one_cells rfl) (by unfold maxLen; omega) (by omega) hst_67 ?_; intro vt_67 wt_67 ot_67 gt_67 zt_67 yt_67; clear zt_67; obtain ⟨qt_67, ct_67, rfl, pt_67⟩ := own_push hht_67.out (Go.Proofs.YtlljmgphgmklcaaDoor.PIntA3.flat_snoc _ _) rfl ot_67; have Pt_67 := Lib.hid pt_67; have Yt_67 := Lib.hid yt_67; have Gt_67 := Lib.hid gt_67; clear ot_67 gt_67 pt_67 yt_67; refine stop_in ?_)
          refine stop_out ?_
          have HBwt_67 := Lib.hid (HBw_t_66.out.grown Gt_67.out hst_67 (fun q hq => (Ospans_7l0.out.lt q hq).1))
          clear hst_67
          have Dt_67_t_4 : Hid (Apart (some ⟨qt_67, 0, none⟩) _) := Lib.hid (apart_app Dspans_7l0_t_4.out (fun a_ ha_ => (own_lt Ot_4.out a_ ha_).2) Yt_67.out)
          replace ct_11_0__157 := cell_other ct_11_0__157 Gt_67.out Dspans_7l0_t_4.out
          replace ct_26_0__158 := cell_other ct_26_0__158 Gt_67.out Dspans_7l0_t_4.out
          replace Ot_4 := Lib.hid (own_other Ot_4.out Gt_67.out Dspans_7l0_t_4.out)
          clear ct_11_0 ct_26_0
          clear Ospans_7l0 Yt_67 Gt_67
          replace H := app_hid H
          go_wp2_with fail
          have hnx0_ : (nt_26 : Int) ≤ (k0 : Int) + 1 ∧ (k0 : Int) + 1 ≤ (nt_26 : Int) := by rw [← ht_25, IntWalk.i64_in _ (by omega)]; omega
          go_roundg m0
          case measure => omega
          case rel => exact ⟨k0 + 1, _, _, _, by omega, by go_num, rfl, H, HBwt_67, Pt_67, Ot_4, Lib.hid Dt_67_t_4.out⟩
        | true =>
          replace H := ite_t H
          replace H := idx_hid H
          obtain ⟨nt_39, yt_39, et_39, lt_39, gt_39, H⟩ := H
          subst et_39
          have nc_159 : 0 ≤ nt_39 := by have := of_decide_eq_true ht_35; omega
          obtain ⟨t_39_x0, t_39_x1, t_39_x2⟩ := yt_39
          replace H := unIntA3_hid H
          obtain ⟨qt_39, Qt_39⟩ := own_some Ospans_7l0.out (by omega)
          subst Qt_39
          obtain ⟨ab_t_39, ao_t_39, zt_39, At_39, z_t_39, ct_39_0, ct_39_1, ct_39_2⟩ := Go.Proofs.YtlljmgphgmklcaaDoor.OIntA3.at_ (own_cells Ospans_7l0.out) (k := nt_39) (by omega)
          obtain rfl := Option.some.inj (gt_39.out.symm.trans z_t_39)
          simp only [Option.some.injEq, Addr.mk.injEq] at At_39
          obtain ⟨rfl, rfl, _⟩ := At_39
          clear z_t_39
          simp only [Nat.zero_add] at ct_39_0 ct_39_1 ct_39_2
          have b0t_39 : (0 : Int) ≤ (nt_39 : Int) := by omega
          have b1t_39 : (nt_39 : Int) < ((spans_7l0.length : Nat) : Int) := by omega
          have b2t_39 : ((nt_39 : Int)).toNat = nt_39 := by omega
          replace H := let_hid H
          obtain ⟨t_43, ht_43, H⟩ := H
          replace H := let_hid H
          obtain ⟨t_44, ht_44, H⟩ := H
          replace H := app_hid H
          replace H := join_hid H
          cases t_44 with
          | false =>
            replace H := ite_f H
            replace H := app_hid H
            replace H := ite_f H
            obtain ⟨w_t_66, hw_t_66⟩ : ∃ x, wt_19.alloc (.cells #[.int .i64 yt_11, .int .i64 t_28, .int .i64 t_19] 34) = x := ⟨_, rfl⟩
            have bw_t_66 : Below wt_19.heap.size wt_19 w_t_66 := by rw [← hw_t_66]; exact (Below.refl _ _).alloc (Nat.le_refl _) _
            have HBw_t_66 := Lib.hid (Below.step HBwt_19.out bw_t_66)
            have ct_11_0__160 := cell_below bw_t_66 ct_11_0
            have ct_26_0__161 := cell_below bw_t_66 ct_26_0
            have ct_39_0__162 := cell_below bw_t_66 ct_39_0
            have ct_39_1__163 := cell_below bw_t_66 ct_39_1
            have ct_39_2__164 := cell_below bw_t_66 ct_39_2
            replace Ot_4 := Lib.hid (own_below Ot_4.out bw_t_66)
            replace Ospans_7l0 := Lib.hid (own_below Ospans_7l0.out bw_t_66)
            clear bw_t_66
            replace H := guard_hid H
            obtain ⟨hlt_67, H⟩ := H
            replace H := let_hid H
            obtain ⟨t_67, ht_67, H⟩ := H
            have hht_67 := Lib.hid ht_67
            clear ht_67
            have hst_67 := HBw_t_66.out.size
            go_wp2_with (at_builtin; refine wpList_append_own_at _ rfl _ _ 27 rfl w.heap.size 34 i0_34 (.agg #[.int .i64 0, .int .i64 0, .int .i64 0]) 3 24 Tryd.underlying27 hi_34 hz0_34 hz1_34 hz2_34 rfl (by decide) _ _ _ rfl Ospans_7l0.out ⟨wt_19.heap.size, 0, none⟩ 1 1 [.int .i64 yt_11, .int .i64 t_28, .int .i64 t_19] rfl rfl (news_new hw_t_66) (one_cells rfl) (by unfold maxLen; omega) (by omega) hst_67 ?_; intro vt_67 wt_67 ot_67 gt_67 zt_67 yt_67; clear zt_67; obtain ⟨qt_67, ct_67, rfl, pt_67⟩ := own_push hht_67.out (Go.Proofs.YtlljmgphgmklcaaDoor.PIntA3.flat_snoc _ _) rfl ot_67; have Pt_67 := Lib.hid pt_67; have Yt_67 := Lib.hid yt_67; have Gt_67 := Lib.hid gt_67; clear ot_67 gt_67 pt_67 yt_67; refine stop_in ?_)
            refine stop_out ?_
            have HBwt_67 := Lib.hid (HBw_t_66.out.grown Gt_67.out hst_67 (fun q hq => (Ospans_7l0.out.lt q hq).1))
            clear hst_67
            have Dt_67_t_4 : Hid (Apart (some ⟨qt_67, 0, none⟩) _) := Lib.hid (apart_app Dspans_7l0_t_4.out (fun a_ ha_ => (own_lt Ot_4.out a_ ha_).2) Yt_67.out)
            replace ct_11_0__160 := cell_other ct_11_0__160 Gt_67.out Dspans_7l0_t_4.out
            replace ct_26_0__161 := cell_other ct_26_0__161 Gt_67.out Dspans_7l0_t_4.out
            clear ct_39_0__162 ct_39_1__163 ct_39_2__164
            replace Ot_4 := Lib.hid (own_other Ot_4.out Gt_67.out Dspans_7l0_t_4.out)
            clear ct_11_0 ct_26_0 ct_39_0 ct_39_1 ct_39_2
            clear Ospans_7l0 Yt_67 Gt_67
            replace H := app_hid H
            go_wp2_with fail
            have hnx0_ : (nt_26 : Int) ≤ (k0 : Int) + 1 ∧ (k0 : Int) + 1 ≤ (nt_26 : Int) := by rw [← ht_25, IntWalk.i64_in _ (by omega)]; omega
            go_roundg m0
            case measure => omega
            case rel => exact ⟨k0 + 1, _, _, _, by omega, by go_num, rfl, H, HBwt_67, Pt_67, Ot_4, Lib.hid Dt_67_t_4.out⟩
          | true =>
            replace H := ite_t H
            replace H := idx_hid H
            obtain ⟨nt_49, yt_49, et_49, lt_49, gt_49, H⟩ := H
            obtain rfl : nt_39 = nt_49 := by omega
            clear et_49
            obtain rfl := Option.some.inj (gt_39.out.symm.trans gt_49.out)
            clear gt_49 lt_49
            replace H := unIntA3_hid H
            replace H := let_hid H
            obtain ⟨t_53, ht_53, H⟩ := H
            replace H := app_hid H
            cases t_53 with
            | false =>
              replace H := ite_f H
              obtain ⟨w_t_66, hw_t_66⟩ : ∃ x, wt_19.alloc (.cells #[.int .i64 yt_11, .int .i64 t_28, .int .i64 t_19] 34) = x := ⟨_, rfl⟩
              have bw_t_66 : Below wt_19.heap.size wt_19 w_t_66 := by rw [← hw_t_66]; exact (Below.refl _ _).alloc (Nat.le_refl _) _
              have HBw_t_66 := Lib.hid (Below.step HBwt_19.out bw_t_66)
              have ct_11_0__165 := cell_below bw_t_66 ct_11_0
              have ct_26_0__166 := cell_below bw_t_66 ct_26_0
              have ct_39_0__167 := cell_below bw_t_66 ct_39_0
              have ct_39_1__168 := cell_below bw_t_66 ct_39_1
              have ct_39_2__169 := cell_below bw_t_66 ct_39_2
              replace Ot_4 := Lib.hid (own_below Ot_4.out bw_t_66)
              replace Ospans_7l0 := Lib.hid (own_below Ospans_7l0.out bw_t_66)
              clear bw_t_66
              replace H := guard_hid H
              obtain ⟨hlt_67, H⟩ := H
              replace H := let_hid H
              obtain ⟨t_67, ht_67, H⟩ := H
              have hht_67 := Lib.hid ht_67
              clear ht_67
              have hst_67 := HBw_t_66.out.size
              go_wp2_with (at_builtin; refine wpList_append_own_at _ rfl _ _ 27 rfl w.heap.size 34 i0_34 (.agg #[.int .i64 0, .int .i64 0, .int .i64 0]) 3 24 Tryd.underlying27 hi_34 hz0_34 hz1_34 hz2_34 rfl (by decide) _ _ _ rfl Ospans_7l0.out ⟨wt_19.heap.size, 0, none⟩ 1 1 [.int .i64 yt_11, .int .i64 t_28, .int .i64 t_19] rfl rfl (news_new hw_t_66) (one_cells rfl) (by unfold maxLen; omega) (by omega) hst_67 ?_; intro vt_67 wt_67 ot_67 gt_67 zt_67 yt_67; clear zt_67; obtain ⟨qt_67, ct_67, rfl, pt_67⟩ := own_push hht_67.out (Go.Proofs.YtlljmgphgmklcaaDoor.PIntA3.flat_snoc _ _) rfl ot_67; have Pt_67 := Lib.hid pt_67; have Yt_67 := Lib.hid yt_67; have Gt_67 := Lib.hid gt_67; clear ot_67 gt_67 pt_67 yt_67; refine stop_in ?_)
              refine stop_out ?_
              have HBwt_67 := Lib.hid (HBw_t_66.out.grown Gt_67.out hst_67 (fun q hq => (Ospans_7l0.out.lt q hq).1))
              clear hst_67
              have Dt_67_t_4 : Hid (Apart (some ⟨qt_67, 0, none⟩) _) := Lib.hid (apart_app Dspans_7l0_t_4.out (fun a_ ha_ => (own_lt Ot_4.out a_ ha_).2) Yt_67.out)
              replace ct_11_0__165 := cell_other ct_11_0__165 Gt_67.out Dspans_7l0_t_4.out
              replace ct_26_0__166 := cell_other ct_26_0__166 Gt_67.out Dspans_7l0_t_4.out
              clear ct_39_0__167 ct_39_1__168 ct_39_2__169
              replace Ot_4 := Lib.hid (own_other Ot_4.out Gt_67.out Dspans_7l0_t_4.out)
              clear ct_11_0 ct_26_0 ct_39_0 ct_39_1 ct_39_2
              clear Ospans_7l0 Yt_67 Gt_67
              replace H := app_hid H
              go_wp2_with fail
              have hnx0_ : (nt_26 : Int) ≤ (k0 : Int) + 1 ∧ (k0 : Int) + 1 ≤ (nt_26 : Int) := by rw [← ht_25, IntWalk.i64_in _ (by omega)]; omega
              go_roundg m0
              case measure => omega
              case rel => exact ⟨k0 + 1, _, _, _, by omega, by go_num, rfl, H, HBwt_67, Pt_67, Ot_4, Lib.hid Dt_67_t_4.out⟩
            | true =>
              replace H := ite_t H
              replace H := idx_hid H
              obtain ⟨nt_58, yt_58, et_58, lt_58, gt_58, H⟩ := H
              obtain rfl : nt_39 = nt_58 := by omega
              clear et_58
              obtain rfl := Option.some.inj (gt_39.out.symm.trans gt_58.out)
              clear gt_58 lt_58
              replace H := unIntA3_hid H
              replace H := let_hid H
              obtain ⟨l60_60, hl60_60, H⟩ := H
              try simp only [Int.toNat_natCast] at hl60_60
              obtain ⟨wl60_60, hwl60_60⟩ : ∃ x, (wt_19).setCell ⟨qt_39, nt_39 * 3 + 1, none⟩ (.int .i64 t_28) = x := ⟨_, rfl⟩
              have z0l60_60 := Ospans_7l0.out.frozenAt (nt_39 * 3 + 1)
              have Sl60_60 := Lib.hid (own_stores [(nt_39 * 3 + 1, .int .i64 t_28)] Ospans_7l0.out)
              have nl60_60 : Hid (l60_60.length = spans_7l0.length) := Lib.hid (by rw [← hl60_60, List.length_set])
              have Pl60_60 : Hid (wl60_60.ownsRow w.heap.size 34 3 (.slice (some ⟨qt_39, 0, none⟩) spans_7l0.length cspans_7l0) spans_7l0.length (Go.Proofs.YtlljmgphgmklcaaDoor.PIntA3.flat l60_60)) := Lib.hid (by have es_ := set_self gt_39.out; have e0_ := flat_set Go.Proofs.YtlljmgphgmklcaaDoor.PIntA3.IntA3.cells 3 (fun _ => rfl) spans_7l0 (nt_39) 1 (Go.Proofs.YtlljmgphgmklcaaDoor.PIntA3.IntA3.mk t_39_x0 t_39_x1 t_39_x2) (Go.Proofs.YtlljmgphgmklcaaDoor.PIntA3.IntA3.mk t_39_x0 t_28 t_39_x2) (.int .i64 t_28) lt_39 (by decide) rfl; rw [es_] at e0_; have e_ : ([(nt_39 * 3 + 1, .int .i64 t_28)] : List (Nat × Value)).foldl (fun xs p => xs.set p.1 p.2) (Go.Proofs.YtlljmgphgmklcaaDoor.PIntA3.flat spans_7l0) = (Go.Proofs.YtlljmgphgmklcaaDoor.PIntA3.flat l60_60) := (by rw [← hl60_60]; show _ = List.flatMap Go.Proofs.YtlljmgphgmklcaaDoor.PIntA3.IntA3.cells _; first | (rw [← e0_]; first | done | rfl)); rw [← hwl60_60, ← e_]; exact Sl60_60.out.1)
              have Gl60_60 : Hid (wt_19.grownBy wl60_60 (Value.slice (some ⟨qt_39, 0, none⟩) spans_7l0.length cspans_7l0).ownBlock) := Lib.hid (by rw [← hwl60_60]; exact Sl60_60.out.2)
              have HBwl60_60 := Lib.hid (HBwt_19.out.grown Gl60_60.out HBwt_19.out.size (fun q hq => (Ospans_7l0.out.lt q hq).1))
              have hhl60_60 := Lib.hid hl60_60
              clear hl60_60 Sl60_60
              have ct_11_0__170 := cell_other ct_11_0 Gl60_60.out Dspans_7l0_t_4.out
              have ct_26_0__171 := cell_other ct_26_0 Gl60_60.out Dspans_7l0_t_4.out
              replace Ot_4 := Lib.hid (own_other Ot_4.out Gl60_60.out Dspans_7l0_t_4.out)
              clear Ospans_7l0 Gl60_60
              replace H := app_hid H
              go_wp2_with fail
              clear z0l60_60 ct_11_0 ct_26_0 ct_39_0 ct_39_1 ct_39_2
              have hc_ := nl60_60.out
              have hv_ : (Value.slice (some ⟨qt_39, 0, none⟩) spans_7l0.length cspans_7l0 : Value) = Value.slice (some ⟨qt_39, 0, none⟩) l60_60.length cspans_7l0 := by rw [hc_]
              try rw [hv_]
              replace Pl60_60 := Lib.hid (own_len hc_ Pl60_60.out)
              clear hc_ hv_
              go_wp2_with fail
              have hnx0_ : (nt_26 : Int) ≤ (k0 : Int) + 1 ∧ (k0 : Int) + 1 ≤ (nt_26 : Int) := by rw [← ht_25, IntWalk.i64_in _ (by omega)]; omega
              go_roundg m0
              case measure => omega
              case rel => exact ⟨k0 + 1, _, _, _, by omega, by go_num, rfl, H, HBwl60_60, Pl60_60, Ot_4, Lib.hid Dspans_7l0_t_4.out⟩
      | true =>
        replace H := ite_t H
        replace H := app_hid H
        go_wp2_with fail
        go_roundg m0
        case measure => omega
        case rel => exact ⟨k0 + 1, _, _, _, by omega, by go_num, rfl, H, HBwt_19, Ospans_7l0, Ot_4, Lib.hid Dspans_7l0_t_4.out⟩
end Go.Proofs.YtlljmgphgmklcaaDoor.GiSpansOf

/- loop.example/g01062/impl.RateSpans as a plain function, and the contract of the program's: where the plain one has an answer, the program has it. Conditions: slices read as lists. -/
namespace Go.Proofs.YtlljmgphgmklcaaDoor.GiRateSpans
set_option linter.unusedVariables false
set_option linter.unusedSimpArgs false
open Go.RowKit
open Go.Proofs.YtlljmgphgmklcaaDoor.Rowed Go.Proofs.YtlljmgphgmklcaaDoor.Turn Go.Proofs.YtlljmgphgmklcaaDoor.Aid Go.Proofs.YtlljmgphgmklcaaDoor.GoP Go.Proofs.YtlljmgphgmklcaaDoor.GoM

def P (list : (List Go.Proofs.YtlljmgphgmklcaaDoor.PRate.Rate)) (zone : Int) (grams : Int) : Option ((List Go.Proofs.YtlljmgphgmklcaaDoor.PIntA3.IntA3) × Bool) :=
  Option.bind (Go.Proofs.YtlljmgphgmklcaaDoor.GiCanSend.P list zone grams) fun (t_5 : Bool) =>
  letK (!t_5) fun (t_6 : Bool) =>
  iteK t_6
  (some (([] : List Go.Proofs.YtlljmgphgmklcaaDoor.PIntA3.IntA3), false))
  (Option.bind (Go.Proofs.YtlljmgphgmklcaaDoor.GiSpansOf.P list zone grams) fun (t_13 : (List Go.Proofs.YtlljmgphgmklcaaDoor.PIntA3.IntA3)) =>
  some (t_13, true))

set_option maxRecDepth 100000 in
set_option maxHeartbeats 2000000 in
theorem C (list : (List Go.Proofs.YtlljmgphgmklcaaDoor.PRate.Rate)) (zone : Int) (grams : Int) (A0 : Option Addr) (c0 : Nat)  (w : World) (M0 : Hid (Cells w 5 A0 list.length (Go.Proofs.YtlljmgphgmklcaaDoor.PRate.flat list))) (N0 : Hid (list.length ≤ 9223372036854775807))  {r0 : (List Go.Proofs.YtlljmgphgmklcaaDoor.PIntA3.IntA3)} {r1 : Bool} (H : Hid (P list zone grams = some (r0, r1))) :
    Calls Tryd.prog 6 #[.slice A0 list.length c0, .int .i64 zone, .int .i64 grams] w (fun e w' => ∃ A_r0 c_r0, e = .returned (.tuple #[.slice A_r0 r0.length c_r0, .bool r1]) ∧ w'.ownsRow w.heap.size 34 3 (.slice A_r0 r0.length c_r0) r0.length (Go.Proofs.YtlljmgphgmklcaaDoor.PIntA3.flat r0) ∧ Below w.heap.size w w') := by
  have HB := Lib.hid (Below.refl w.heap.size w)
  unfold P at H
  have N0o := N0.out
  go_enter Tryd.func6, Tryd.ntmps6
  replace H := bind_hid H
  obtain ⟨t_5, qt_5, H⟩ := H
  go_wp2_with fail
  go_at_call 24
  refine (Go.Proofs.YtlljmgphgmklcaaDoor.GiCanSend.C (list) (zone) (grams) A0 c0 _   (Lib.hid (Cells.below M0.out HB.out)) N0 qt_5).mono ?_
  rintro e_t_5 wt_5 ⟨rfl, bt_5⟩
  have HBwt_5 := Lib.hid (Below.step HB.out bt_5)
  clear bt_5
  cases t_5 with
  | false =>
    replace H := let_hid H
    obtain ⟨t_6, ht_6, H⟩ := H
    obtain rfl : t_6 = true := ht_6.symm
    replace H := ite_t H
    obtain ⟨w_t_7, hw_t_7⟩ : ∃ x, wt_5.alloc (.cells #[] 34) = x := ⟨_, rfl⟩
    have bw_t_7 : Below wt_5.heap.size wt_5 w_t_7 := by rw [← hw_t_7]; exact (Below.refl _ _).alloc (Nat.le_refl _) _
    have Ot_7 : Hid (w_t_7.ownsRow w.heap.size 34 3 (.slice (some ⟨wt_5.heap.size, 0, none⟩) 0 0) 0 []) := Lib.hid (by rw [← hw_t_7]; exact own_empty HBwt_5.out.size)
    have HBw_t_7 := Lib.hid (Below.step HBwt_5.out bw_t_7)
    clear bw_t_7
    cases ret_hid H
    go_wp2_with fail
    go_ret2
    exact ⟨(some ⟨wt_5.heap.size, 0, none⟩), 0, rfl, Ot_7.out, HBw_t_7.out⟩
  | true =>
    replace H := let_hid H
    obtain ⟨t_6, ht_6, H⟩ := H
    obtain rfl : t_6 = false := ht_6.symm
    replace H := ite_f H
    replace H := bind_hid H
    obtain ⟨t_13, qt_13, H⟩ := H
    go_wp2_with fail
    go_at_call 25
    refine (Go.Proofs.YtlljmgphgmklcaaDoor.GiSpansOf.C (list) (zone) (grams) A0 c0 _   (Lib.hid (Cells.below M0.out HBwt_5.out)) N0 qt_13).mono ?_
    rintro e_t_13 wt_13 ⟨At_13, ct_13, rfl, ot_13, bt_13⟩
    have Ot_13 := Lib.hid (own_lower ot_13 HBwt_5.out.size)
    clear ot_13
    have HBwt_13 := Lib.hid (Below.step HBwt_5.out bt_13)
    clear bt_13
    cases ret_hid H
    go_wp2_with fail
    go_ret2
    exact ⟨At_13, ct_13, rfl, Ot_13.out, HBwt_13.out⟩
end Go.Proofs.YtlljmgphgmklcaaDoor.GiRateSpans

/- loop.example/g01062/spec.l1In as a plain function, and the contract of the program's: where the plain one has an answer, the program has it. Conditions: slices read as lists. -/
namespace Go.Proofs.YtlljmgphgmklcaaDoor.GsL1In
set_option linter.unusedVariables false
set_option linter.unusedSimpArgs false
open Go.RowKit
open Go.Proofs.YtlljmgphgmklcaaDoor.Rowed Go.Proofs.YtlljmgphgmklcaaDoor.Turn Go.Proofs.YtlljmgphgmklcaaDoor.Aid Go.Proofs.YtlljmgphgmklcaaDoor.GoP Go.Proofs.YtlljmgphgmklcaaDoor.GoM

def P (x : Int) (a : Int) (b : Int) : Option (Bool) :=
  letK (decide (a ≤ x)) fun (t_3 : Bool) =>
  joinK (fun (t_8 : Bool) =>
  some t_8) fun jt_8 => iteK t_3 (letK (decide (x ≤ b)) fun (t_7 : Bool) =>
  appK jt_8 t_7) (appK jt_8 false)

set_option maxRecDepth 100000 in
set_option maxHeartbeats 2000000 in
theorem C (x : Int) (a : Int) (b : Int)   (w : World)   {r : Bool} (H : Hid (P x a b = some r)) :
    Calls Tryd.prog 48 #[.int .i64 x, .int .i64 a, .int .i64 b] w (Gives (.bool r) w) := by
  have HB := Lib.hid (Below.refl w.heap.size w)
  unfold P at H
  go_enter Tryd.func48, Tryd.ntmps48
  replace H := let_hid H
  obtain ⟨t_3, ht_3, H⟩ := H
  replace H := join_hid H
  cases t_3 with
  | false =>
    replace H := ite_f H
    replace H := app_hid H
    obtain rfl := ret_hid H
    go_wp2_with fail
    go_ret
    exact ⟨rfl, HB.out⟩
  | true =>
    replace H := ite_t H
    replace H := let_hid H
    obtain ⟨t_7, ht_7, H⟩ := H
    replace H := app_hid H
    obtain rfl := ret_hid H
    go_wp2_with fail
    go_ret
    exact ⟨rfl, HB.out⟩

set_option maxRecDepth 100000 in
set_option maxHeartbeats 2000000 in
theorem C0 (x : Int) (a : Int) (b : Int)   (w : World)   {r : Bool} (H : Hid (P x a b = some r)) :
    Calls Tryd.prog 48 #[.int .i64 x, .int .i64 a, .int .i64 b] w (fun e w'' => e = .returned (.bool r) ∧ w'' = w) := by
  have HB := Lib.hid (Below.refl w.heap.size w)
  unfold P at H
  go_enter Tryd.func48, Tryd.ntmps48
  replace H := let_hid H
  obtain ⟨t_3, ht_3, H⟩ := H
  replace H := join_hid H
  cases t_3 with
  | false =>
    replace H := ite_f H
    replace H := app_hid H
    obtain rfl := ret_hid H
    go_wp2_with fail
    go_ret
    exact ⟨rfl, rfl⟩
  | true =>
    replace H := ite_t H
    replace H := let_hid H
    obtain ⟨t_7, ht_7, H⟩ := H
    replace H := app_hid H
    obtain rfl := ret_hid H
    go_wp2_with fail
    go_ret
    exact ⟨rfl, rfl⟩
end Go.Proofs.YtlljmgphgmklcaaDoor.GsL1In

/- loop.example/g01062/spec.l8Zone as a plain function, and the contract of the program's: where the plain one has an answer, the program has it. Conditions: slices read as lists. -/
namespace Go.Proofs.YtlljmgphgmklcaaDoor.GsL8Zone
set_option linter.unusedVariables false
set_option linter.unusedSimpArgs false
open Go.RowKit
open Go.Proofs.YtlljmgphgmklcaaDoor.Rowed Go.Proofs.YtlljmgphgmklcaaDoor.Turn Go.Proofs.YtlljmgphgmklcaaDoor.Aid Go.Proofs.YtlljmgphgmklcaaDoor.GoP Go.Proofs.YtlljmgphgmklcaaDoor.GoM

def P (zone : Int) : Option (Bool) :=
  Option.bind (Go.Proofs.YtlljmgphgmklcaaDoor.GsL1In.P zone 0 9) fun (t_2 : Bool) =>
  some t_2

set_option maxRecDepth 100000 in
set_option maxHeartbeats 2000000 in
theorem C (zone : Int)   (w : World)   {r : Bool} (H : Hid (P zone = some r)) :
    Calls Tryd.prog 27 #[.int .i64 zone] w (Gives (.bool r) w) := by
  have HB := Lib.hid (Below.refl w.heap.size w)
  unfold P at H
  go_enter Tryd.func27, Tryd.ntmps27
  replace H := bind_hid H
  obtain ⟨t_2, qt_2, H⟩ := H
  go_wp2_with fail
  go_at_call 48
  refine (Go.Proofs.YtlljmgphgmklcaaDoor.GsL1In.C (zone) (0) (9)  _    qt_2).mono ?_
  rintro e_t_2 wt_2 ⟨rfl, bt_2⟩
  have HBwt_2 := Lib.hid (Below.step HB.out bt_2)
  clear bt_2
  obtain rfl := ret_hid H
  go_wp2_with fail
  go_ret
  exact ⟨rfl, HBwt_2.out⟩
end Go.Proofs.YtlljmgphgmklcaaDoor.GsL8Zone

/- loop.example/g01062/spec.l8Grams as a plain function, and the contract of the program's: where the plain one has an answer, the program has it. Conditions: slices read as lists. -/
namespace Go.Proofs.YtlljmgphgmklcaaDoor.GsL8Grams
set_option linter.unusedVariables false
set_option linter.unusedSimpArgs false
open Go.RowKit
open Go.Proofs.YtlljmgphgmklcaaDoor.Rowed Go.Proofs.YtlljmgphgmklcaaDoor.Turn Go.Proofs.YtlljmgphgmklcaaDoor.Aid Go.Proofs.YtlljmgphgmklcaaDoor.GoP Go.Proofs.YtlljmgphgmklcaaDoor.GoM

def P (grams : Int) : Option (Bool) :=
  Option.bind (Go.Proofs.YtlljmgphgmklcaaDoor.GsL1In.P grams 1 2000) fun (t_2 : Bool) =>
  some t_2

set_option maxRecDepth 100000 in
set_option maxHeartbeats 2000000 in
theorem C (grams : Int)   (w : World)   {r : Bool} (H : Hid (P grams = some r)) :
    Calls Tryd.prog 28 #[.int .i64 grams] w (Gives (.bool r) w) := by
  have HB := Lib.hid (Below.refl w.heap.size w)
  unfold P at H
  go_enter Tryd.func28, Tryd.ntmps28
  replace H := bind_hid H
  obtain ⟨t_2, qt_2, H⟩ := H
  go_wp2_with fail
  go_at_call 48
  refine (Go.Proofs.YtlljmgphgmklcaaDoor.GsL1In.C (grams) (1) (2000)  _    qt_2).mono ?_
  rintro e_t_2 wt_2 ⟨rfl, bt_2⟩
  have HBwt_2 := Lib.hid (Below.step HB.out bt_2)
  clear bt_2
  obtain rfl := ret_hid H
  go_wp2_with fail
  go_ret
  exact ⟨rfl, HBwt_2.out⟩
end Go.Proofs.YtlljmgphgmklcaaDoor.GsL8Grams

/- loop.example/g01062/spec.l2Day as a plain function, and the contract of the program's: where the plain one has an answer, the program has it. Conditions: slices read as lists. -/
namespace Go.Proofs.YtlljmgphgmklcaaDoor.GsL2Day
set_option linter.unusedVariables false
set_option linter.unusedSimpArgs false
open Go.RowKit
open Go.Proofs.YtlljmgphgmklcaaDoor.Rowed Go.Proofs.YtlljmgphgmklcaaDoor.Turn Go.Proofs.YtlljmgphgmklcaaDoor.Aid Go.Proofs.YtlljmgphgmklcaaDoor.GoP Go.Proofs.YtlljmgphgmklcaaDoor.GoM

def P (d_0 : Int) : Option (Bool) :=
  Option.bind (Go.Proofs.YtlljmgphgmklcaaDoor.GsL1In.P d_0 0 4000) fun (t_2 : Bool) =>
  some t_2

set_option maxRecDepth 100000 in
set_option maxHeartbeats 2000000 in
theorem C (d_0 : Int)   (w : World)   {r : Bool} (H : Hid (P d_0 = some r)) :
    Calls Tryd.prog 34 #[.int .i64 d_0] w (Gives (.bool r) w) := by
  have HB := Lib.hid (Below.refl w.heap.size w)
  unfold P at H
  go_enter Tryd.func34, Tryd.ntmps34
  replace H := bind_hid H
  obtain ⟨t_2, qt_2, H⟩ := H
  go_wp2_with fail
  go_at_call 48
  refine (Go.Proofs.YtlljmgphgmklcaaDoor.GsL1In.C (d_0) (0) (4000)  _    qt_2).mono ?_
  rintro e_t_2 wt_2 ⟨rfl, bt_2⟩
  have HBwt_2 := Lib.hid (Below.step HB.out bt_2)
  clear bt_2
  obtain rfl := ret_hid H
  go_wp2_with fail
  go_ret
  exact ⟨rfl, HBwt_2.out⟩
end Go.Proofs.YtlljmgphgmklcaaDoor.GsL2Day

/- loop.example/g01062/spec.l8Cents as a plain function, and the contract of the program's: where the plain one has an answer, the program has it. Conditions: slices read as lists. -/
namespace Go.Proofs.YtlljmgphgmklcaaDoor.GsL8Cents
set_option linter.unusedVariables false
set_option linter.unusedSimpArgs false
open Go.RowKit
open Go.Proofs.YtlljmgphgmklcaaDoor.Rowed Go.Proofs.YtlljmgphgmklcaaDoor.Turn Go.Proofs.YtlljmgphgmklcaaDoor.Aid Go.Proofs.YtlljmgphgmklcaaDoor.GoP Go.Proofs.YtlljmgphgmklcaaDoor.GoM

def P (cents : Int) : Option (Bool) :=
  Option.bind (Go.Proofs.YtlljmgphgmklcaaDoor.GsL1In.P cents 1 9999) fun (t_2 : Bool) =>
  some t_2

set_option maxRecDepth 100000 in
set_option maxHeartbeats 2000000 in
theorem C (cents : Int)   (w : World)   {r : Bool} (H : Hid (P cents = some r)) :
    Calls Tryd.prog 53 #[.int .i64 cents] w (Gives (.bool r) w) := by
  have HB := Lib.hid (Below.refl w.heap.size w)
  unfold P at H
  go_enter Tryd.func53, Tryd.ntmps53
  replace H := bind_hid H
  obtain ⟨t_2, qt_2, H⟩ := H
  go_wp2_with fail
  go_at_call 48
  refine (Go.Proofs.YtlljmgphgmklcaaDoor.GsL1In.C (cents) (1) (9999)  _    qt_2).mono ?_
  rintro e_t_2 wt_2 ⟨rfl, bt_2⟩
  have HBwt_2 := Lib.hid (Below.step HB.out bt_2)
  clear bt_2
  obtain rfl := ret_hid H
  go_wp2_with fail
  go_ret
  exact ⟨rfl, HBwt_2.out⟩
end Go.Proofs.YtlljmgphgmklcaaDoor.GsL8Cents

/- loop.example/g01062/spec.l8One as a plain function, and the contract of the program's: where the plain one has an answer, the program has it. Conditions: slices read as lists. -/
namespace Go.Proofs.YtlljmgphgmklcaaDoor.GsL8One
set_option linter.unusedVariables false
set_option linter.unusedSimpArgs false
open Go.RowKit
open Go.Proofs.YtlljmgphgmklcaaDoor.Rowed Go.Proofs.YtlljmgphgmklcaaDoor.Turn Go.Proofs.YtlljmgphgmklcaaDoor.Aid Go.Proofs.YtlljmgphgmklcaaDoor.GoP Go.Proofs.YtlljmgphgmklcaaDoor.GoM

def P (r_0 : Go.Proofs.YtlljmgphgmklcaaDoor.PRate.Rate) : Option (Bool) :=
  unRate r_0 fun (r_0_zone : Int) (r_0_grams : Int) (r_0_from_ : Int) (r_0_until_ : Int) (r_0_cents : Int) =>
  Option.bind (Go.Proofs.YtlljmgphgmklcaaDoor.GsL8Zone.P r_0_zone) fun (t_4 : Bool) =>
  joinK (fun (t_9 : Bool) =>
  joinK (fun (t_14 : Bool) =>
  joinK (fun (t_21 : Bool) =>
  joinK (fun (t_26 : Bool) =>
  some t_26) fun jt_26 => iteK t_21 (Option.bind (Go.Proofs.YtlljmgphgmklcaaDoor.GsL8Cents.P r_0_cents) fun (t_25 : Bool) =>
  appK jt_26 t_25) (appK jt_26 false)) fun jt_21 => iteK t_14 (Option.bind (Go.Proofs.YtlljmgphgmklcaaDoor.GsL1In.P r_0_from_ 0 r_0_until_) fun (t_20 : Bool) =>
  appK jt_21 t_20) (appK jt_21 false)) fun jt_14 => iteK t_9 (Option.bind (Go.Proofs.YtlljmgphgmklcaaDoor.GsL2Day.P r_0_until_) fun (t_13 : Bool) =>
  appK jt_14 t_13) (appK jt_14 false)) fun jt_9 => iteK t_4 (Option.bind (Go.Proofs.YtlljmgphgmklcaaDoor.GsL8Grams.P r_0_grams) fun (t_8 : Bool) =>
  appK jt_9 t_8) (appK jt_9 false)

set_option maxRecDepth 100000 in
set_option maxHeartbeats 2000000 in
theorem C (r_0 : Go.Proofs.YtlljmgphgmklcaaDoor.PRate.Rate)   (w : World)   {r : Bool} (H : Hid (P r_0 = some r)) :
    Calls Tryd.prog 40 #[r_0.val] w (Gives (.bool r) w) := by
  have HB := Lib.hid (Below.refl w.heap.size w)
  unfold P at H
  obtain ⟨r_0_zone, r_0_grams, r_0_from_, r_0_until_, r_0_cents⟩ := r_0
  replace H := unRate_hid H
  unfold Go.Proofs.YtlljmgphgmklcaaDoor.PRate.Rate.val
  go_enter Tryd.func40, Tryd.ntmps40
  obtain ⟨w_r_0, hw_r_0⟩ : ∃ x, w.alloc (.cells #[.int .i64 r_0_zone, .int .i64 r_0_grams, .int .i64 r_0_from_, .int .i64 r_0_until_, .int .i64 r_0_cents] 38) = x := ⟨_, rfl⟩
  have bw_r_0 : Below w.heap.size w w_r_0 := by rw [← hw_r_0]; exact (Below.refl _ _).alloc (Nat.le_refl _) _
  have HBw_r_0 := Lib.hid (Below.step HB.out bw_r_0)
  clear bw_r_0
  have kr_0_0 : w_r_0.cell? ⟨w.heap.size, 0, none⟩ = some (.int .i64 r_0_zone) := by rw [← hw_r_0]; exact box_new _ _ _ 0 _ rfl
  have kr_0_1 : w_r_0.cell? ⟨w.heap.size, 1, none⟩ = some (.int .i64 r_0_grams) := by rw [← hw_r_0]; exact box_new _ _ _ 1 _ rfl
  have kr_0_2 : w_r_0.cell? ⟨w.heap.size, 2, none⟩ = some (.int .i64 r_0_from_) := by rw [← hw_r_0]; exact box_new _ _ _ 2 _ rfl
  have kr_0_3 : w_r_0.cell? ⟨w.heap.size, 3, none⟩ = some (.int .i64 r_0_until_) := by rw [← hw_r_0]; exact box_new _ _ _ 3 _ rfl
  have kr_0_4 : w_r_0.cell? ⟨w.heap.size, 4, none⟩ = some (.int .i64 r_0_cents) := by rw [← hw_r_0]; exact box_new _ _ _ 4 _ rfl
  replace H := bind_hid H
  obtain ⟨t_4, qt_4, H⟩ := H
  go_wp2_with fail
  go_at_call 27
  refine (Go.Proofs.YtlljmgphgmklcaaDoor.GsL8Zone.C (r_0_zone)  _    qt_4).mono ?_
  rintro e_t_4 wt_4 ⟨rfl, bt_4⟩
  have HBwt_4 := Lib.hid (Below.step HBw_r_0.out bt_4)
  replace kr_0_0 := cell_below bt_4 kr_0_0
  replace kr_0_1 := cell_below bt_4 kr_0_1
  replace kr_0_2 := cell_below bt_4 kr_0_2
  replace kr_0_3 := cell_below bt_4 kr_0_3
  replace kr_0_4 := cell_below bt_4 kr_0_4
  clear bt_4
  replace H := join_hid H
  cases t_4 with
  | false =>
    replace H := ite_f H
    replace H := app_hid H
    replace H := join_hid H
    replace H := ite_f H
    replace H := app_hid H
    replace H := join_hid H
    replace H := ite_f H
    replace H := app_hid H
    replace H := join_hid H
    replace H := ite_f H
    replace H := app_hid H
    obtain rfl := ret_hid H
    go_wp2_with fail
    go_ret
    exact ⟨rfl, HBwt_4.out⟩
  | true =>
    replace H := ite_t H
    replace H := bind_hid H
    obtain ⟨t_8, qt_8, H⟩ := H
    go_wp2_with fail
    go_at_call 28
    refine (Go.Proofs.YtlljmgphgmklcaaDoor.GsL8Grams.C (r_0_grams)  _    qt_8).mono ?_
    rintro e_t_8 wt_8 ⟨rfl, bt_8⟩
    have HBwt_8 := Lib.hid (Below.step HBwt_4.out bt_8)
    replace kr_0_0 := cell_below bt_8 kr_0_0
    replace kr_0_1 := cell_below bt_8 kr_0_1
    replace kr_0_2 := cell_below bt_8 kr_0_2
    replace kr_0_3 := cell_below bt_8 kr_0_3
    replace kr_0_4 := cell_below bt_8 kr_0_4
    clear bt_8
    replace H := app_hid H
    replace H := join_hid H
    cases t_8 with
    | false =>
      replace H := ite_f H
      replace H := app_hid H
      replace H := join_hid H
      replace H := ite_f H
      replace H := app_hid H
      replace H := join_hid H
      replace H := ite_f H
      replace H := app_hid H
      obtain rfl := ret_hid H
      go_wp2_with fail
      go_ret
      exact ⟨rfl, HBwt_8.out⟩
    | true =>
      replace H := ite_t H
      replace H := bind_hid H
      obtain ⟨t_13, qt_13, H⟩ := H
      go_wp2_with fail
      go_at_call 34
      refine (Go.Proofs.YtlljmgphgmklcaaDoor.GsL2Day.C (r_0_until_)  _    qt_13).mono ?_
      rintro e_t_13 wt_13 ⟨rfl, bt_13⟩
      have HBwt_13 := Lib.hid (Below.step HBwt_8.out bt_13)
      replace kr_0_0 := cell_below bt_13 kr_0_0
      replace kr_0_1 := cell_below bt_13 kr_0_1
      replace kr_0_2 := cell_below bt_13 kr_0_2
      replace kr_0_3 := cell_below bt_13 kr_0_3
      replace kr_0_4 := cell_below bt_13 kr_0_4
      clear bt_13
      replace H := app_hid H
      replace H := join_hid H
      cases t_13 with
      | false =>
        replace H := ite_f H
        replace H := app_hid H
        replace H := join_hid H
        replace H := ite_f H
        replace H := app_hid H
        obtain rfl := ret_hid H
        go_wp2_with fail
        go_ret
        exact ⟨rfl, HBwt_13.out⟩
      | true =>
        replace H := ite_t H
        replace H := bind_hid H
        obtain ⟨t_20, qt_20, H⟩ := H
        go_wp2_with fail
        go_at_call 48
        refine (Go.Proofs.YtlljmgphgmklcaaDoor.GsL1In.C (r_0_from_) (0) (r_0_until_)  _    qt_20).mono ?_
        rintro e_t_20 wt_20 ⟨rfl, bt_20⟩
        have HBwt_20 := Lib.hid (Below.step HBwt_13.out bt_20)
        replace kr_0_0 := cell_below bt_20 kr_0_0
        replace kr_0_1 := cell_below bt_20 kr_0_1
        replace kr_0_2 := cell_below bt_20 kr_0_2
        replace kr_0_3 := cell_below bt_20 kr_0_3
        replace kr_0_4 := cell_below bt_20 kr_0_4
        clear bt_20
        replace H := app_hid H
        replace H := join_hid H
        cases t_20 with
        | false =>
          replace H := ite_f H
          replace H := app_hid H
          obtain rfl := ret_hid H
          go_wp2_with fail
          go_ret
          exact ⟨rfl, HBwt_20.out⟩
        | true =>
          replace H := ite_t H
          replace H := bind_hid H
          obtain ⟨t_25, qt_25, H⟩ := H
          go_wp2_with fail
          go_at_call 53
          refine (Go.Proofs.YtlljmgphgmklcaaDoor.GsL8Cents.C (r_0_cents)  _    qt_25).mono ?_
          rintro e_t_25 wt_25 ⟨rfl, bt_25⟩
          have HBwt_25 := Lib.hid (Below.step HBwt_20.out bt_25)
          replace kr_0_0 := cell_below bt_25 kr_0_0
          replace kr_0_1 := cell_below bt_25 kr_0_1
          replace kr_0_2 := cell_below bt_25 kr_0_2
          replace kr_0_3 := cell_below bt_25 kr_0_3
          replace kr_0_4 := cell_below bt_25 kr_0_4
          clear bt_25
          replace H := app_hid H
          obtain rfl := ret_hid H
          go_wp2_with fail
          go_ret
          exact ⟨rfl, HBwt_25.out⟩
end Go.Proofs.YtlljmgphgmklcaaDoor.GsL8One

/- loop.example/g01062/spec.l8Code as a plain function, and the contract of the program's: where the plain one has an answer, the program has it. Conditions: slices read as lists. -/
namespace Go.Proofs.YtlljmgphgmklcaaDoor.GsL8Code
set_option linter.unusedVariables false
set_option linter.unusedSimpArgs false
open Go.RowKit
open Go.Proofs.YtlljmgphgmklcaaDoor.Rowed Go.Proofs.YtlljmgphgmklcaaDoor.Turn Go.Proofs.YtlljmgphgmklcaaDoor.Aid Go.Proofs.YtlljmgphgmklcaaDoor.GoP Go.Proofs.YtlljmgphgmklcaaDoor.GoM

def P (r_0 : Go.Proofs.YtlljmgphgmklcaaDoor.PRate.Rate) : Option (Int) :=
  unRate r_0 fun (r_0_zone : Int) (r_0_grams : Int) (r_0_from_ : Int) (r_0_until_ : Int) (r_0_cents : Int) =>
  letK (IntKind.i64.wrap (10000 * r_0_zone)) fun (t_4 : Int) =>
  letK (IntKind.i64.wrap (t_4 + r_0_grams)) fun (t_7 : Int) =>
  letK (IntKind.i64.wrap (t_7 * 10000)) fun (t_8 : Int) =>
  letK (IntKind.i64.wrap (t_8 + r_0_from_)) fun (t_11 : Int) =>
  some t_11

set_option maxRecDepth 100000 in
set_option maxHeartbeats 2000000 in
theorem C (r_0 : Go.Proofs.YtlljmgphgmklcaaDoor.PRate.Rate)   (w : World)   {r : Int} (H : Hid (P r_0 = some r)) :
    Calls Tryd.prog 47 #[r_0.val] w (Gives (.int .i64 r) w) := by
  have HB := Lib.hid (Below.refl w.heap.size w)
  unfold P at H
  obtain ⟨r_0_zone, r_0_grams, r_0_from_, r_0_until_, r_0_cents⟩ := r_0
  replace H := unRate_hid H
  unfold Go.Proofs.YtlljmgphgmklcaaDoor.PRate.Rate.val
  go_enter Tryd.func47, Tryd.ntmps47
  obtain ⟨w_r_0, hw_r_0⟩ : ∃ x, w.alloc (.cells #[.int .i64 r_0_zone, .int .i64 r_0_grams, .int .i64 r_0_from_, .int .i64 r_0_until_, .int .i64 r_0_cents] 38) = x := ⟨_, rfl⟩
  have bw_r_0 : Below w.heap.size w w_r_0 := by rw [← hw_r_0]; exact (Below.refl _ _).alloc (Nat.le_refl _) _
  have HBw_r_0 := Lib.hid (Below.step HB.out bw_r_0)
  clear bw_r_0
  have kr_0_0 : w_r_0.cell? ⟨w.heap.size, 0, none⟩ = some (.int .i64 r_0_zone) := by rw [← hw_r_0]; exact box_new _ _ _ 0 _ rfl
  have kr_0_1 : w_r_0.cell? ⟨w.heap.size, 1, none⟩ = some (.int .i64 r_0_grams) := by rw [← hw_r_0]; exact box_new _ _ _ 1 _ rfl
  have kr_0_2 : w_r_0.cell? ⟨w.heap.size, 2, none⟩ = some (.int .i64 r_0_from_) := by rw [← hw_r_0]; exact box_new _ _ _ 2 _ rfl
  have kr_0_3 : w_r_0.cell? ⟨w.heap.size, 3, none⟩ = some (.int .i64 r_0_until_) := by rw [← hw_r_0]; exact box_new _ _ _ 3 _ rfl
  have kr_0_4 : w_r_0.cell? ⟨w.heap.size, 4, none⟩ = some (.int .i64 r_0_cents) := by rw [← hw_r_0]; exact box_new _ _ _ 4 _ rfl
  replace H := let_hid H
  obtain ⟨t_4, ht_4, H⟩ := H
  replace H := let_hid H
  obtain ⟨t_7, ht_7, H⟩ := H
  replace H := let_hid H
  obtain ⟨t_8, ht_8, H⟩ := H
  replace H := let_hid H
  obtain ⟨t_11, ht_11, H⟩ := H
  obtain rfl := ret_hid H
  go_wp2_with fail
  go_ret
  exact ⟨rfl, HBw_r_0.out⟩
end Go.Proofs.YtlljmgphgmklcaaDoor.GsL8Code

