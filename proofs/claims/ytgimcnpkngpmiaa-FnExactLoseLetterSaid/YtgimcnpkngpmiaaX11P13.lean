/- Texts on which the proofs of several laws stand, one behind the other (13 of 18). No condition of their own. -/
import Derived.Test.YtgimcnpkngpmiaaChecked
import Derived.Test.YtgimcnpkngpmiaaX11P1
import Derived.Test.YtgimcnpkngpmiaaX11P2
import Derived.Test.YtgimcnpkngpmiaaX11P4
import Derived.WalkKit
import Derived.WalkSpells
import Derived.WalkLawsBesides
import Derived.BigQuiet
import Derived.OwnWalk
import Derived.Deep.LoopGhost
import Derived.Deep.QuietTactic
import Derived.IntWalk
import Derived.Lib.QuietBelow
import Derived.StillTailTactics
import Derived.Test.YtgimcnpkngpmiaaX11P5
import Derived.Test.YtgimcnpkngpmiaaX11P3
import Derived.Test.YtgimcnpkngpmiaaX11P6
/- loop.example/g01062/spec.LoseLetter as a plain function, and the contract of the program's: where the plain one has an answer, the program has it. Conditions: slices read as lists. -/
namespace Go.Proofs.Ytgimcnpkngpmiaa.GsLoseLetter
set_option linter.unusedVariables false
set_option linter.unusedSimpArgs false
open Go.RowKit
open Go.Proofs.Ytgimcnpkngpmiaa.Rowed Go.Proofs.Ytgimcnpkngpmiaa.Turn Go.Proofs.Ytgimcnpkngpmiaa.Aid Go.Proofs.Ytgimcnpkngpmiaa.GoP Go.Proofs.Ytgimcnpkngpmiaa.GoM

def P (fuel : Nat) (list : (List Go.Proofs.Ytgimcnpkngpmiaa.PPostmark.Postmark)) (id : Int) (place : Int) : Option ((List Go.Proofs.Ytgimcnpkngpmiaa.PPostmark.Postmark) × Bool) :=
  Option.bind (Go.Proofs.Ytgimcnpkngpmiaa.GsL11Find.P list id) fun (t_4 : Int) =>
  Option.bind (Go.Proofs.Ytgimcnpkngpmiaa.GsL11Good.P fuel list) fun (t_7 : Bool) =>
  letK (!t_7) fun (t_8 : Bool) =>
  joinK (fun (t_12 : Bool) =>
  joinK (fun (t_24 : Bool) =>
  joinK (fun (t_34 : Bool) =>
  iteK t_34
  (some (([] : List Go.Proofs.Ytgimcnpkngpmiaa.PPostmark.Postmark), false))
  (guardK (([] : List Go.Proofs.Ytgimcnpkngpmiaa.PPostmark.Postmark).length + list.length ≤ 1099511627776) <|
  letK (([] : List Go.Proofs.Ytgimcnpkngpmiaa.PPostmark.Postmark) ++ list) fun (t_40 : (List Go.Proofs.Ytgimcnpkngpmiaa.PPostmark.Postmark)) =>
  Option.bind (idx t_40 t_4) fun (yt_44 : Go.Proofs.Ytgimcnpkngpmiaa.PPostmark.Postmark) =>
  unPostmark yt_44 fun (t_44_id : Int) (t_44_town : ByteArray) (t_44_kind_ : Int) (t_44_first : Int) (t_44_last : Int) (t_44_lost : ByteArray) =>
  guardK ((0 : Int) ≤ place ∧ (place : Int) ≤ (t_44_lost.size : Int)) <|
  letK (ByteArray.extract t_44_lost 0 (Int.toNat place)) fun (t_51 : ByteArray) =>
  guardK (t_51.size + (⟨#[120]⟩ : ByteArray).size ≤ maxLen) <|
  letK (t_51 ++ (⟨#[120]⟩ : ByteArray)) fun (t_52 : ByteArray) =>
  letK (IntKind.i64.wrap (place + 1)) fun (t_56 : Int) =>
  guardK ((0 : Int) ≤ t_56 ∧ (t_56 : Int) ≤ (t_44_lost.size : Int)) <|
  letK (ByteArray.extract t_44_lost (Int.toNat t_56) t_44_lost.size) fun (t_57 : ByteArray) =>
  guardK (t_52.size + t_57.size ≤ maxLen) <|
  letK (t_52 ++ t_57) fun (t_58 : ByteArray) =>
  Option.bind (idx t_40 t_4) fun (yt_64 : Go.Proofs.Ytgimcnpkngpmiaa.PPostmark.Postmark) =>
  unPostmark yt_64 fun (t_64_id : Int) (t_64_town : ByteArray) (t_64_kind_ : Int) (t_64_first : Int) (t_64_last : Int) (t_64_lost : ByteArray) =>
  letK (t_40.set (t_4).toNat (Go.Proofs.Ytgimcnpkngpmiaa.PPostmark.Postmark.mk t_44_id t_44_town t_44_kind_ t_44_first t_44_last t_58)) fun (l65_65 : (List Go.Proofs.Ytgimcnpkngpmiaa.PPostmark.Postmark)) =>
  Option.bind (Go.Proofs.Ytgimcnpkngpmiaa.GsL11Good.P fuel l65_65) fun (t_67 : Bool) =>
  letK (!t_67) fun (t_68 : Bool) =>
  iteK t_68
  (some (([] : List Go.Proofs.Ytgimcnpkngpmiaa.PPostmark.Postmark), false))
  (some (l65_65, true)))) fun jt_34 => iteK t_24 (appK jt_34 true) (Option.bind (idx list t_4) fun (yt_28 : Go.Proofs.Ytgimcnpkngpmiaa.PPostmark.Postmark) =>
  unPostmark yt_28 fun (t_28_id : Int) (t_28_town : ByteArray) (t_28_kind_ : Int) (t_28_first : Int) (t_28_last : Int) (t_28_lost : ByteArray) =>
  Option.bind (idx t_28_lost.toList place) fun (yt_32 : UInt8) =>
  letK ((yt_32.toNat : Int)) fun (t_32 : Int) =>
  letK (t_32 == 120) fun (t_33 : Bool) =>
  appK jt_34 t_33)) fun jt_24 => iteK t_12 (appK jt_24 true) (Option.bind (idx list t_4) fun (yt_17 : Go.Proofs.Ytgimcnpkngpmiaa.PPostmark.Postmark) =>
  unPostmark yt_17 fun (t_17_id : Int) (t_17_town : ByteArray) (t_17_kind_ : Int) (t_17_first : Int) (t_17_last : Int) (t_17_lost : ByteArray) =>
  letK (IntKind.i64.wrap ((t_17_lost.size : Int) - 1)) fun (t_21 : Int) =>
  Option.bind (Go.Proofs.Ytgimcnpkngpmiaa.GsL1In.P place 0 t_21) fun (t_22 : Bool) =>
  letK (!t_22) fun (t_23 : Bool) =>
  appK jt_24 t_23)) fun jt_12 => iteK t_8 (appK jt_12 true) (letK (decide (t_4 < 0)) fun (t_11 : Bool) =>
  appK jt_12 t_11)

set_option maxRecDepth 100000 in
set_option maxHeartbeats 2000000 in
theorem C (fuel : Nat) (list : (List Go.Proofs.Ytgimcnpkngpmiaa.PPostmark.Postmark)) (id : Int) (place : Int) (A0 : Option Addr) (c0 : Nat)  (w : World) (M0 : Hid (Cells w 6 A0 list.length (Go.Proofs.Ytgimcnpkngpmiaa.PPostmark.flat list))) (N0 : Hid (list.length ≤ 9223372036854775807)) (Q0 : Hid (Room A0 list.length c0))  {r0 : (List Go.Proofs.Ytgimcnpkngpmiaa.PPostmark.Postmark)} {r1 : Bool} (H : Hid (P fuel list id place = some (r0, r1))) :
    Calls Try.prog 23 #[.slice A0 list.length c0, .int .i64 id, .int .i64 place] w (fun e w' => ∃ A_r0 c_r0, e = .returned (.tuple #[.slice A_r0 r0.length c_r0, .bool r1]) ∧ w'.ownsRow w.heap.size 26 6 (.slice A_r0 r0.length c_r0) r0.length (Go.Proofs.Ytgimcnpkngpmiaa.PPostmark.flat r0) ∧ Below w.heap.size w w') := by
  have HB := Lib.hid (Below.refl w.heap.size w)
  unfold P at H
  have N0o := N0.out
  obtain ⟨i0_26, hi_26, hz0_26, hz1_26, hz2_26⟩ := Aid.info_parts (P := Try.prog) (T := 26) (z := .agg #[.int .i64 0, .string ByteArray.empty, .int .i64 0, .int .i64 0, .int .i64 0, .string ByteArray.empty]) (s := 6) (b := 64) (by kernel_rfl)
  go_enter Try.func23, Try.ntmps23
  replace H := bind_hid H
  obtain ⟨t_4, qt_4, H⟩ := H
  go_wp2_with fail
  go_at_call 51
  refine (Go.Proofs.Ytgimcnpkngpmiaa.GsL11Find.C (list) (id) A0 c0 _   (Lib.hid (Cells.below M0.out HB.out)) N0 qt_4).mono ?_
  rintro e_t_4 wt_4 ⟨rfl, bt_4⟩
  have HBwt_4 := Lib.hid (Below.step HB.out bt_4)
  clear bt_4
  replace H := bind_hid H
  obtain ⟨t_7, qt_7, H⟩ := H
  go_wp2_with fail
  go_at_call 45
  refine (Go.Proofs.Ytgimcnpkngpmiaa.GsL11Good.C fuel (list) A0 c0 _   (Lib.hid (Cells.below M0.out HBwt_4.out)) N0 qt_7).mono ?_
  rintro e_t_7 wt_7 ⟨rfl, bt_7⟩
  have HBwt_7 := Lib.hid (Below.step HBwt_4.out bt_7)
  clear bt_7
  cases t_7 with
  | false =>
    replace H := let_hid H
    obtain ⟨t_8, ht_8, H⟩ := H
    obtain rfl : t_8 = true := ht_8.symm
    replace H := join_hid H
    replace H := ite_t H
    replace H := app_hid H
    replace H := join_hid H
    replace H := ite_t H
    replace H := app_hid H
    replace H := join_hid H
    replace H := ite_t H
    replace H := app_hid H
    replace H := ite_t H
    obtain ⟨w_t_35, hw_t_35⟩ : ∃ x, wt_7.alloc (.cells #[] 26) = x := ⟨_, rfl⟩
    have bw_t_35 : Below wt_7.heap.size wt_7 w_t_35 := by rw [← hw_t_35]; exact (Below.refl _ _).alloc (Nat.le_refl _) _
    have Ot_35 : Hid (w_t_35.ownsRow w.heap.size 26 6 (.slice (some ⟨wt_7.heap.size, 0, none⟩) 0 0) 0 []) := Lib.hid (by rw [← hw_t_35]; exact own_empty HBwt_7.out.size)
    have HBw_t_35 := Lib.hid (Below.step HBwt_7.out bw_t_35)
    clear bw_t_35
    cases ret_hid H
    go_wp2_with fail
    go_ret2
    exact ⟨(some ⟨wt_7.heap.size, 0, none⟩), 0, rfl, Ot_35.out, HBw_t_35.out⟩
  | true =>
    replace H := let_hid H
    obtain ⟨t_8, ht_8, H⟩ := H
    obtain rfl : t_8 = false := ht_8.symm
    replace H := join_hid H
    replace H := ite_f H
    replace H := let_hid H
    obtain ⟨t_11, ht_11, H⟩ := H
    replace H := app_hid H
    replace H := join_hid H
    cases t_11 with
    | false =>
      replace H := ite_f H
      replace H := idx_hid H
      obtain ⟨nt_17, yt_17, et_17, lt_17, gt_17, H⟩ := H
      subst et_17
      have nc_177 : ¬ (nt_17 < 0) := by have := of_decide_eq_false ht_11; omega
      obtain ⟨t_17_id, t_17_town, t_17_kind_, t_17_first, t_17_last, t_17_lost⟩ := yt_17
      replace H := unPostmark_hid H
      obtain ⟨ab_t_17, ao_t_17, zt_17, At_17, z_t_17, ct_17_0, ct_17_1, ct_17_2, ct_17_3, ct_17_4, ct_17_5⟩ := Go.Proofs.Ytgimcnpkngpmiaa.OPostmark.at_ M0.out lt_17
      obtain rfl := Option.some.inj (gt_17.out.symm.trans z_t_17)
      subst At_17
      have ltt_17 := cell_lt ct_17_0
      replace ct_17_0 := cell_below HBwt_7.out ct_17_0
      replace ct_17_1 := cell_below HBwt_7.out ct_17_1
      replace ct_17_2 := cell_below HBwt_7.out ct_17_2
      replace ct_17_3 := cell_below HBwt_7.out ct_17_3
      replace ct_17_4 := cell_below HBwt_7.out ct_17_4
      replace ct_17_5 := cell_below HBwt_7.out ct_17_5
      clear z_t_17
      have b0t_17 : (0 : Int) ≤ (nt_17 : Int) := by omega
      have b1t_17 : (nt_17 : Int) < ((list.length : Nat) : Int) := by omega
      have b2t_17 : ((nt_17 : Int)).toNat = nt_17 := by omega
      replace H := let_hid H
      obtain ⟨t_21, ht_21, H⟩ := H
      replace H := bind_hid H
      obtain ⟨t_22, qt_22, H⟩ := H
      go_wp2_with fail
      go_at_call 52
      refine (Go.Proofs.Ytgimcnpkngpmiaa.GsL1In.C (place) (0) (t_21)  _    qt_22).mono ?_
      rintro e_t_22 wt_22 ⟨rfl, bt_22⟩
      have HBwt_22 := Lib.hid (Below.step HBwt_7.out bt_22)
      replace ct_17_0 := cell_below bt_22 ct_17_0
      replace ct_17_1 := cell_below bt_22 ct_17_1
      replace ct_17_2 := cell_below bt_22 ct_17_2
      replace ct_17_3 := cell_below bt_22 ct_17_3
      replace ct_17_4 := cell_below bt_22 ct_17_4
      replace ct_17_5 := cell_below bt_22 ct_17_5
      clear bt_22
      cases t_22 with
      | false =>
        replace H := let_hid H
        obtain ⟨t_23, ht_23, H⟩ := H
        obtain rfl : t_23 = true := ht_23.symm
        replace H := app_hid H
        replace H := join_hid H
        replace H := ite_t H
        replace H := app_hid H
        replace H := ite_t H
        obtain ⟨w_t_35, hw_t_35⟩ : ∃ x, wt_22.alloc (.cells #[] 26) = x := ⟨_, rfl⟩
        have bw_t_35 : Below wt_22.heap.size wt_22 w_t_35 := by rw [← hw_t_35]; exact (Below.refl _ _).alloc (Nat.le_refl _) _
        have Ot_35 : Hid (w_t_35.ownsRow w.heap.size 26 6 (.slice (some ⟨wt_22.heap.size, 0, none⟩) 0 0) 0 []) := Lib.hid (by rw [← hw_t_35]; exact own_empty HBwt_22.out.size)
        have HBw_t_35 := Lib.hid (Below.step HBwt_22.out bw_t_35)
        have ct_17_0__178 := cell_below bw_t_35 ct_17_0
        have ct_17_1__179 := cell_below bw_t_35 ct_17_1
        have ct_17_2__180 := cell_below bw_t_35 ct_17_2
        have ct_17_3__181 := cell_below bw_t_35 ct_17_3
        have ct_17_4__182 := cell_below bw_t_35 ct_17_4
        have ct_17_5__183 := cell_below bw_t_35 ct_17_5
        clear bw_t_35
        cases ret_hid H
        go_wp2_with fail
        go_ret2
        exact ⟨(some ⟨wt_22.heap.size, 0, none⟩), 0, rfl, Ot_35.out, HBw_t_35.out⟩
      | true =>
        replace H := let_hid H
        obtain ⟨t_23, ht_23, H⟩ := H
        obtain rfl : t_23 = false := ht_23.symm
        replace H := app_hid H
        replace H := join_hid H
        replace H := ite_f H
        replace H := idx_hid H
        obtain ⟨nt_28, yt_28, et_28, lt_28, gt_28, H⟩ := H
        obtain rfl : nt_17 = nt_28 := by omega
        clear et_28
        obtain rfl := Option.some.inj (gt_17.out.symm.trans gt_28.out)
        clear gt_28 lt_28
        replace H := unPostmark_hid H
        replace H := idx_hid H
        obtain ⟨nt_32, yt_32, et_32, lt_32, gt_32, H⟩ := H
        subst et_32
        have rt_32 := byte_rule lt_32 gt_32.out
        have b0t_32 : (0 : Int) ≤ (nt_32 : Int) := by omega
        have b1t_32 : (nt_32 : Int) < (t_17_lost.size : Int) := by have := size_list t_17_lost; omega
        have b2t_32 : ((nt_32 : Int)).toNat = nt_32 := by omega
        have b3t_32 : nt_32 < t_17_lost.size := by have := size_list t_17_lost; omega
        replace H := let_hid H
        obtain ⟨t_32, ht_32, H⟩ := H
        replace H := let_hid H
        obtain ⟨t_33, ht_33, H⟩ := H
        replace H := app_hid H
        cases t_33 with
        | false =>
          replace H := ite_f H
          obtain ⟨w_t_38, hw_t_38⟩ : ∃ x, wt_22.alloc (.cells #[] 26) = x := ⟨_, rfl⟩
          have bw_t_38 : Below wt_22.heap.size wt_22 w_t_38 := by rw [← hw_t_38]; exact (Below.refl _ _).alloc (Nat.le_refl _) _
          have Ot_38 : Hid (w_t_38.ownsRow w.heap.size 26 6 (.slice (some ⟨wt_22.heap.size, 0, none⟩) 0 0) 0 []) := Lib.hid (by rw [← hw_t_38]; exact own_empty HBwt_22.out.size)
          have HBw_t_38 := Lib.hid (Below.step HBwt_22.out bw_t_38)
          have ct_17_0__184 := cell_below bw_t_38 ct_17_0
          have ct_17_1__185 := cell_below bw_t_38 ct_17_1
          have ct_17_2__186 := cell_below bw_t_38 ct_17_2
          have ct_17_3__187 := cell_below bw_t_38 ct_17_3
          have ct_17_4__188 := cell_below bw_t_38 ct_17_4
          have ct_17_5__189 := cell_below bw_t_38 ct_17_5
          clear bw_t_38
          replace H := guard_hid H
          obtain ⟨hlt_40, H⟩ := H
          replace H := let_hid H
          obtain ⟨t_40, ht_40, H⟩ := H
          have hht_40 := Lib.hid ht_40
          clear ht_40
          have hst_40 := HBw_t_38.out.size
          have Ct_40 := Lib.hid ((Cells.below M0.out HBw_t_38.out))
          go_wp2_with (at_builtin; refine append_spread rfl _ _ 32 rfl w.heap.size 26 i0_26 (.agg #[.int .i64 0, .string ByteArray.empty, .int .i64 0, .int .i64 0, .int .i64 0, .string ByteArray.empty]) 6 64 Try.underlying32 hi_26 hz0_26 hz1_26 hz2_26 rfl (by decide) (some ⟨wt_22.heap.size, 0, none⟩) 0 0 _ rfl Ot_38.out (some ⟨ab_t_17, ao_t_17, none⟩) list.length c0 (Go.Proofs.Ytgimcnpkngpmiaa.PPostmark.flat list) rfl Q0.out Ct_40.out (fun u hu => by obtain ⟨y_, _, hy_⟩ := List.mem_flatMap.1 hu; simp only [Go.Proofs.Ytgimcnpkngpmiaa.PPostmark.Postmark.cells, List.mem_cons, List.not_mem_nil, or_false] at hy_; rcases hy_ with rfl | rfl | rfl | rfl | rfl | rfl <;> rfl) (by unfold maxLen; simp only [List.length_nil] at hlt_40; omega) (by simp only [List.length_nil] at hlt_40; omega) hst_40 ?_; intro vt_40 wt_40 ot_40 gt_40 yt_40; obtain ⟨At_40, ct_40, rfl, pt_40⟩ := own_pushS (f := Go.Proofs.Ytgimcnpkngpmiaa.PPostmark.flat) hht_40.out (by simp [Go.Proofs.Ytgimcnpkngpmiaa.PPostmark.flat]) rfl ot_40; have Pt_40 := Lib.hid pt_40; have Yt_40 := Lib.hid yt_40; have Gt_40 := Lib.hid gt_40; clear ot_40 gt_40 pt_40 yt_40; refine stop_in ?_)
          refine stop_out ?_
          clear Ct_40
          have HBwt_40 := Lib.hid (HBw_t_38.out.grown Gt_40.out hst_40 (fun q hq => (Ot_38.out.lt q hq).1))
          clear hst_40
          replace ct_17_0__184 := cell_other ct_17_0__184 Gt_40.out (apart_old Ot_38.out ltt_17)
          replace ct_17_1__185 := cell_other ct_17_1__185 Gt_40.out (apart_old Ot_38.out ltt_17)
          replace ct_17_2__186 := cell_other ct_17_2__186 Gt_40.out (apart_old Ot_38.out ltt_17)
          replace ct_17_3__187 := cell_other ct_17_3__187 Gt_40.out (apart_old Ot_38.out ltt_17)
          replace ct_17_4__188 := cell_other ct_17_4__188 Gt_40.out (apart_old Ot_38.out ltt_17)
          replace ct_17_5__189 := cell_other ct_17_5__189 Gt_40.out (apart_old Ot_38.out ltt_17)
          clear ct_17_0 ct_17_1 ct_17_2 ct_17_3 ct_17_4 ct_17_5
          clear Ot_38 Yt_40 Gt_40
          replace H := idx_hid H
          obtain ⟨nt_44, yt_44, et_44, lt_44, gt_44, H⟩ := H
          obtain rfl : nt_17 = nt_44 := by omega
          clear et_44
          obtain ⟨t_44_id, t_44_town, t_44_kind_, t_44_first, t_44_last, t_44_lost⟩ := yt_44
          replace H := unPostmark_hid H
          obtain ⟨qt_44, Qt_44⟩ := own_some Pt_40.out (by omega)
          subst Qt_44
          obtain ⟨ab_t_44, ao_t_44, zt_44, At_44, z_t_44, ct_44_0, ct_44_1, ct_44_2, ct_44_3, ct_44_4, ct_44_5⟩ := Go.Proofs.Ytgimcnpkngpmiaa.OPostmark.at_ (own_cells Pt_40.out) (k := nt_17) (by omega)
          obtain rfl := Option.some.inj (gt_44.out.symm.trans z_t_44)
          simp only [Option.some.injEq, Addr.mk.injEq] at At_44
          obtain ⟨rfl, rfl, _⟩ := At_44
          clear z_t_44
          simp only [Nat.zero_add] at ct_44_0 ct_44_1 ct_44_2 ct_44_3 ct_44_4 ct_44_5
          have b0t_44 : (0 : Int) ≤ (nt_17 : Int) := by omega
          have b1t_44 : (nt_17 : Int) < ((t_40.length : Nat) : Int) := by omega
          have b2t_44 : ((nt_17 : Int)).toNat = nt_17 := by omega
          obtain ⟨w_p_46, hw_p_46⟩ : ∃ x, wt_40.alloc (.cells #[.int .i64 t_44_id, .string t_44_town, .int .i64 t_44_kind_, .int .i64 t_44_first, .int .i64 t_44_last, .string t_44_lost] 26) = x := ⟨_, rfl⟩
          have bw_p_46 : Below wt_40.heap.size wt_40 w_p_46 := by rw [← hw_p_46]; exact (Below.refl _ _).alloc (Nat.le_refl _) _
          have Dp_46_t_40 := Lib.hid (apart_fresh Pt_40.out)
          have HBw_p_46 := Lib.hid (Below.step HBwt_40.out bw_p_46)
          have ct_17_0__190 := cell_below bw_p_46 ct_17_0__184
          have ct_17_1__191 := cell_below bw_p_46 ct_17_1__185
          have ct_17_2__192 := cell_below bw_p_46 ct_17_2__186
          have ct_17_3__193 := cell_below bw_p_46 ct_17_3__187
          have ct_17_4__194 := cell_below bw_p_46 ct_17_4__188
          have ct_17_5__195 := cell_below bw_p_46 ct_17_5__189
          have ct_44_0__196 := cell_below bw_p_46 ct_44_0
          have ct_44_1__197 := cell_below bw_p_46 ct_44_1
          have ct_44_2__198 := cell_below bw_p_46 ct_44_2
          have ct_44_3__199 := cell_below bw_p_46 ct_44_3
          have ct_44_4__200 := cell_below bw_p_46 ct_44_4
          have ct_44_5__201 := cell_below bw_p_46 ct_44_5
          replace Pt_40 := Lib.hid (own_below Pt_40.out bw_p_46)
          clear bw_p_46
          have kp_46_0 : w_p_46.cell? ⟨wt_40.heap.size, 0, none⟩ = some (.int .i64 t_44_id) := by rw [← hw_p_46]; exact box_new _ _ _ 0 _ rfl
          have kp_46_1 : w_p_46.cell? ⟨wt_40.heap.size, 1, none⟩ = some (.string t_44_town) := by rw [← hw_p_46]; exact box_new _ _ _ 1 _ rfl
          have kp_46_2 : w_p_46.cell? ⟨wt_40.heap.size, 2, none⟩ = some (.int .i64 t_44_kind_) := by rw [← hw_p_46]; exact box_new _ _ _ 2 _ rfl
          have kp_46_3 : w_p_46.cell? ⟨wt_40.heap.size, 3, none⟩ = some (.int .i64 t_44_first) := by rw [← hw_p_46]; exact box_new _ _ _ 3 _ rfl
          have kp_46_4 : w_p_46.cell? ⟨wt_40.heap.size, 4, none⟩ = some (.int .i64 t_44_last) := by rw [← hw_p_46]; exact box_new _ _ _ 4 _ rfl
          have kp_46_5 : w_p_46.cell? ⟨wt_40.heap.size, 5, none⟩ = some (.string t_44_lost) := by rw [← hw_p_46]; exact box_new _ _ _ 5 _ rfl
          have Op_46 : Hid (w_p_46.ownsRow w.heap.size 26 6 (.slice (some ⟨wt_40.heap.size, 0, none⟩) 1 1) 1 [.int .i64 t_44_id, .string t_44_town, .int .i64 t_44_kind_, .int .i64 t_44_first, .int .i64 t_44_last, .string t_44_lost]) := Lib.hid (by rw [← hw_p_46]; exact own_laid (n := 1) HBwt_40.out.size rfl rfl (by unfold maxLen; omega))
          go_wp2_with fail
          clear ct_17_0__184 ct_17_1__185 ct_17_2__186 ct_17_3__187 ct_17_4__188 ct_17_5__189 ct_44_0 ct_44_1 ct_44_2 ct_44_3 ct_44_4 ct_44_5
          obtain ⟨Z6, hZ6⟩ : ∃ x, w_p_46.drew = x := ⟨_, rfl⟩
          have bd6 : Below w_p_46.heap.size w_p_46 Z6 := by rw [← hZ6]; exact (Below.refl _ _).drew
          have HBZ6 := Lib.hid (Below.step HBw_p_46.out bd6)
          replace ct_17_0__190 := cell_below bd6 ct_17_0__190
          replace ct_17_1__191 := cell_below bd6 ct_17_1__191
          replace ct_17_2__192 := cell_below bd6 ct_17_2__192
          replace ct_17_3__193 := cell_below bd6 ct_17_3__193
          replace ct_17_4__194 := cell_below bd6 ct_17_4__194
          replace ct_17_5__195 := cell_below bd6 ct_17_5__195
          replace ct_44_0__196 := cell_below bd6 ct_44_0__196
          replace ct_44_1__197 := cell_below bd6 ct_44_1__197
          replace ct_44_2__198 := cell_below bd6 ct_44_2__198
          replace ct_44_3__199 := cell_below bd6 ct_44_3__199
          replace ct_44_4__200 := cell_below bd6 ct_44_4__200
          replace ct_44_5__201 := cell_below bd6 ct_44_5__201
          replace kp_46_0 := cell_below bd6 kp_46_0
          replace kp_46_1 := cell_below bd6 kp_46_1
          replace kp_46_2 := cell_below bd6 kp_46_2
          replace kp_46_3 := cell_below bd6 kp_46_3
          replace kp_46_4 := cell_below bd6 kp_46_4
          replace kp_46_5 := cell_below bd6 kp_46_5
          replace Pt_40 := Lib.hid (own_below Pt_40.out bd6)
          replace Op_46 := Lib.hid (own_below Op_46.out bd6)
          clear bd6
          replace H := guard_hid H
          obtain ⟨hl_t_51, H⟩ := H
          replace H := let_hid H
          obtain ⟨t_51, ht_51, H⟩ := H
          have ct_51 := slice_to (P := Try.prog) (t := 9) (k := .i64) Try.underlying9 ht_51 hl_t_51
          clear hl_t_51
          have hht_51 := Lib.hid ht_51
          clear ht_51
          replace H := guard_hid H
          obtain ⟨hl_t_52, H⟩ := H
          replace H := let_hid H
          obtain ⟨t_52, ht_52, H⟩ := H
          have ct_52 := cat_rule (P := Try.prog) ht_52 hl_t_52
          clear hl_t_52
          have hht_52 := Lib.hid ht_52
          clear ht_52
          replace H := let_hid H
          obtain ⟨t_56, ht_56, H⟩ := H
          replace H := guard_hid H
          obtain ⟨hl_t_57, H⟩ := H
          replace H := let_hid H
          obtain ⟨t_57, ht_57, H⟩ := H
          have ct_57 := slice_from (P := Try.prog) (t := 9) (k := .i64) Try.underlying9 ht_57 hl_t_57
          clear hl_t_57
          have hht_57 := Lib.hid ht_57
          clear ht_57
          replace H := guard_hid H
          obtain ⟨hl_t_58, H⟩ := H
          replace H := let_hid H
          obtain ⟨t_58, ht_58, H⟩ := H
          have ct_58 := cat_rule (P := Try.prog) ht_58 hl_t_58
          clear hl_t_58
          have hht_58 := Lib.hid ht_58
          clear ht_58
          refine wp_region_still_tail 12 (by kernel_rfl) (by kernel_rfl) ?_
          simp only [List.take_succ_cons, List.take_zero, List.drop_succ_cons, List.drop_zero]
          change wpStill _ _ w_p_46.drew _ _ _
          rw [hZ6]
          repeat still_step
          refine wpStill_nil ?_
          change wpList _ _ _ _ _ w_p_46.drew
          rw [hZ6]
          clear hZ6
          obtain ⟨wb60_60, hwb60_60⟩ : ∃ x, (Z6).setCell ⟨wt_40.heap.size, 5, none⟩ (.string t_58) = x := ⟨_, rfl⟩
          have z0b60_60 := Op_46.out.frozenAt 5
          have Sb60_60 := Lib.hid (own_stores [(5, .string t_58)] Op_46.out)
          have Pb60_60 : Hid (wb60_60.ownsRow w.heap.size 26 6 (.slice (some ⟨wt_40.heap.size, 0, none⟩) 1 1) 1 [.int .i64 t_44_id, .string t_44_town, .int .i64 t_44_kind_, .int .i64 t_44_first, .int .i64 t_44_last, .string t_58]) := Lib.hid (by rw [← hwb60_60]; exact Sb60_60.out.1)
          have Gb60_60 : Hid (Z6.grownBy wb60_60 (Value.slice (some ⟨wt_40.heap.size, 0, none⟩) 1 1).ownBlock) := Lib.hid (by rw [← hwb60_60]; exact Sb60_60.out.2)
          have HBwb60_60 := Lib.hid (HBZ6.out.grown Gb60_60.out HBZ6.out.size (fun q hq => (Op_46.out.lt q hq).1))
          clear Sb60_60
          have ct_17_0__202 := cell_other ct_17_0__190 Gb60_60.out (apart_old Op_46.out ltt_17)
          have ct_17_1__203 := cell_other ct_17_1__191 Gb60_60.out (apart_old Op_46.out ltt_17)
          have ct_17_2__204 := cell_other ct_17_2__192 Gb60_60.out (apart_old Op_46.out ltt_17)
          have ct_17_3__205 := cell_other ct_17_3__193 Gb60_60.out (apart_old Op_46.out ltt_17)
          have ct_17_4__206 := cell_other ct_17_4__194 Gb60_60.out (apart_old Op_46.out ltt_17)
          have ct_17_5__207 := cell_other ct_17_5__195 Gb60_60.out (apart_old Op_46.out ltt_17)
          have ct_44_0__208 := cell_other ct_44_0__196 Gb60_60.out Dp_46_t_40.out
          have ct_44_1__209 := cell_other ct_44_1__197 Gb60_60.out Dp_46_t_40.out
          have ct_44_2__210 := cell_other ct_44_2__198 Gb60_60.out Dp_46_t_40.out
          have ct_44_3__211 := cell_other ct_44_3__199 Gb60_60.out Dp_46_t_40.out
          have ct_44_4__212 := cell_other ct_44_4__200 Gb60_60.out Dp_46_t_40.out
          have ct_44_5__213 := cell_other ct_44_5__201 Gb60_60.out Dp_46_t_40.out
          replace Pt_40 := Lib.hid (own_other Pt_40.out Gb60_60.out Dp_46_t_40.out)
          clear Op_46 Gb60_60
          have kp_46_0__214 : wb60_60.cell? ⟨wt_40.heap.size, 0, none⟩ = some (.int .i64 t_44_id) := Pb60_60.out.cells rfl 0 _ rfl
          have kp_46_1__215 : wb60_60.cell? ⟨wt_40.heap.size, 1, none⟩ = some (.string t_44_town) := Pb60_60.out.cells rfl 1 _ rfl
          have kp_46_2__216 : wb60_60.cell? ⟨wt_40.heap.size, 2, none⟩ = some (.int .i64 t_44_kind_) := Pb60_60.out.cells rfl 2 _ rfl
          have kp_46_3__217 : wb60_60.cell? ⟨wt_40.heap.size, 3, none⟩ = some (.int .i64 t_44_first) := Pb60_60.out.cells rfl 3 _ rfl
          have kp_46_4__218 : wb60_60.cell? ⟨wt_40.heap.size, 4, none⟩ = some (.int .i64 t_44_last) := Pb60_60.out.cells rfl 4 _ rfl
          have kp_46_5__219 : wb60_60.cell? ⟨wt_40.heap.size, 5, none⟩ = some (.string t_58) := Pb60_60.out.cells rfl 5 _ rfl
          replace H := idx_hid H
          obtain ⟨nt_64, yt_64, et_64, lt_64, gt_64, H⟩ := H
          obtain rfl : nt_17 = nt_64 := by omega
          clear et_64
          obtain rfl := Option.some.inj (gt_44.out.symm.trans gt_64.out)
          clear gt_64 lt_64
          replace H := unPostmark_hid H
          replace H := let_hid H
          obtain ⟨l65_65, hl65_65, H⟩ := H
          try simp only [Int.toNat_natCast] at hl65_65
          obtain ⟨wl65_65, hwl65_65⟩ : ∃ x, ((((((wb60_60).setCell ⟨qt_44, nt_17 * 6, none⟩ (.int .i64 t_44_id)).setCell ⟨qt_44, nt_17 * 6 + 1, none⟩ (.string t_44_town)).setCell ⟨qt_44, nt_17 * 6 + 2, none⟩ (.int .i64 t_44_kind_)).setCell ⟨qt_44, nt_17 * 6 + 3, none⟩ (.int .i64 t_44_first)).setCell ⟨qt_44, nt_17 * 6 + 4, none⟩ (.int .i64 t_44_last)).setCell ⟨qt_44, nt_17 * 6 + 5, none⟩ (.string t_58) = x := ⟨_, rfl⟩
          have z0l65_65 := Pt_40.out.frozenAt (nt_17 * 6)
          have z1l65_65 := Pt_40.out.frozenAt (nt_17 * 6 + 1)
          have z2l65_65 := Pt_40.out.frozenAt (nt_17 * 6 + 2)
          have z3l65_65 := Pt_40.out.frozenAt (nt_17 * 6 + 3)
          have z4l65_65 := Pt_40.out.frozenAt (nt_17 * 6 + 4)
          have z5l65_65 := Pt_40.out.frozenAt (nt_17 * 6 + 5)
          have Sl65_65 := Lib.hid (own_stores [(nt_17 * 6, .int .i64 t_44_id), (nt_17 * 6 + 1, .string t_44_town), (nt_17 * 6 + 2, .int .i64 t_44_kind_), (nt_17 * 6 + 3, .int .i64 t_44_first), (nt_17 * 6 + 4, .int .i64 t_44_last), (nt_17 * 6 + 5, .string t_58)] Pt_40.out)
          have nl65_65 : Hid (l65_65.length = t_40.length) := Lib.hid (by rw [← hl65_65, List.length_set])
          have Pl65_65 : Hid (wl65_65.ownsRow w.heap.size 26 6 (.slice (some ⟨qt_44, 0, none⟩) t_40.length ct_40) t_40.length (Go.Proofs.Ytgimcnpkngpmiaa.PPostmark.flat l65_65)) := Lib.hid (by have es_ := set_self gt_44.out; have e0_ := flat_set Go.Proofs.Ytgimcnpkngpmiaa.PPostmark.Postmark.cells 6 (fun _ => rfl) t_40 (nt_17) 0 (Go.Proofs.Ytgimcnpkngpmiaa.PPostmark.Postmark.mk t_44_id t_44_town t_44_kind_ t_44_first t_44_last t_44_lost) (Go.Proofs.Ytgimcnpkngpmiaa.PPostmark.Postmark.mk t_44_id t_44_town t_44_kind_ t_44_first t_44_last t_44_lost) (.int .i64 t_44_id) lt_44 (by decide) rfl; have e1_ := flat_set Go.Proofs.Ytgimcnpkngpmiaa.PPostmark.Postmark.cells 6 (fun _ => rfl) t_40 (nt_17) 1 (Go.Proofs.Ytgimcnpkngpmiaa.PPostmark.Postmark.mk t_44_id t_44_town t_44_kind_ t_44_first t_44_last t_44_lost) (Go.Proofs.Ytgimcnpkngpmiaa.PPostmark.Postmark.mk t_44_id t_44_town t_44_kind_ t_44_first t_44_last t_44_lost) (.string t_44_town) lt_44 (by decide) rfl; have e2_ := flat_set Go.Proofs.Ytgimcnpkngpmiaa.PPostmark.Postmark.cells 6 (fun _ => rfl) t_40 (nt_17) 2 (Go.Proofs.Ytgimcnpkngpmiaa.PPostmark.Postmark.mk t_44_id t_44_town t_44_kind_ t_44_first t_44_last t_44_lost) (Go.Proofs.Ytgimcnpkngpmiaa.PPostmark.Postmark.mk t_44_id t_44_town t_44_kind_ t_44_first t_44_last t_44_lost) (.int .i64 t_44_kind_) lt_44 (by decide) rfl; have e3_ := flat_set Go.Proofs.Ytgimcnpkngpmiaa.PPostmark.Postmark.cells 6 (fun _ => rfl) t_40 (nt_17) 3 (Go.Proofs.Ytgimcnpkngpmiaa.PPostmark.Postmark.mk t_44_id t_44_town t_44_kind_ t_44_first t_44_last t_44_lost) (Go.Proofs.Ytgimcnpkngpmiaa.PPostmark.Postmark.mk t_44_id t_44_town t_44_kind_ t_44_first t_44_last t_44_lost) (.int .i64 t_44_first) lt_44 (by decide) rfl; have e4_ := flat_set Go.Proofs.Ytgimcnpkngpmiaa.PPostmark.Postmark.cells 6 (fun _ => rfl) t_40 (nt_17) 4 (Go.Proofs.Ytgimcnpkngpmiaa.PPostmark.Postmark.mk t_44_id t_44_town t_44_kind_ t_44_first t_44_last t_44_lost) (Go.Proofs.Ytgimcnpkngpmiaa.PPostmark.Postmark.mk t_44_id t_44_town t_44_kind_ t_44_first t_44_last t_44_lost) (.int .i64 t_44_last) lt_44 (by decide) rfl; have e5_ := flat_set Go.Proofs.Ytgimcnpkngpmiaa.PPostmark.Postmark.cells 6 (fun _ => rfl) t_40 (nt_17) 5 (Go.Proofs.Ytgimcnpkngpmiaa.PPostmark.Postmark.mk t_44_id t_44_town t_44_kind_ t_44_first t_44_last t_44_lost) (Go.Proofs.Ytgimcnpkngpmiaa.PPostmark.Postmark.mk t_44_id t_44_town t_44_kind_ t_44_first t_44_last t_58) (.string t_58) lt_44 (by decide) rfl; rw [es_] at e0_; have e_ : ([(nt_17 * 6, .int .i64 t_44_id), (nt_17 * 6 + 1, .string t_44_town), (nt_17 * 6 + 2, .int .i64 t_44_kind_), (nt_17 * 6 + 3, .int .i64 t_44_first), (nt_17 * 6 + 4, .int .i64 t_44_last), (nt_17 * 6 + 5, .string t_58)] : List (Nat × Value)).foldl (fun xs p => xs.set p.1 p.2) (Go.Proofs.Ytgimcnpkngpmiaa.PPostmark.flat t_40) = (Go.Proofs.Ytgimcnpkngpmiaa.PPostmark.flat l65_65) := (by rw [← hl65_65]; show _ = List.flatMap Go.Proofs.Ytgimcnpkngpmiaa.PPostmark.Postmark.cells _; first | (rw [← e5_, ← e4_, ← e3_, ← e2_, ← e1_, ← e0_]; first | done | rfl) | (rw [← e5_, ← e4_, ← e3_, ← e2_, ← e1_, es_, ← e0_]; first | done | rfl)); rw [← hwl65_65, ← e_]; exact Sl65_65.out.1)
          have Gl65_65 : Hid (wb60_60.grownBy wl65_65 (Value.slice (some ⟨qt_44, 0, none⟩) t_40.length ct_40).ownBlock) := Lib.hid (by rw [← hwl65_65]; exact Sl65_65.out.2)
          have HBwl65_65 := Lib.hid (HBwb60_60.out.grown Gl65_65.out HBwb60_60.out.size (fun q hq => (Pt_40.out.lt q hq).1))
          have hhl65_65 := Lib.hid hl65_65
          clear hl65_65 Sl65_65
          have ct_17_0__220 := cell_other ct_17_0__202 Gl65_65.out (apart_old Pt_40.out ltt_17)
          have ct_17_1__221 := cell_other ct_17_1__203 Gl65_65.out (apart_old Pt_40.out ltt_17)
          have ct_17_2__222 := cell_other ct_17_2__204 Gl65_65.out (apart_old Pt_40.out ltt_17)
          have ct_17_3__223 := cell_other ct_17_3__205 Gl65_65.out (apart_old Pt_40.out ltt_17)
          have ct_17_4__224 := cell_other ct_17_4__206 Gl65_65.out (apart_old Pt_40.out ltt_17)
          have ct_17_5__225 := cell_other ct_17_5__207 Gl65_65.out (apart_old Pt_40.out ltt_17)
          have kp_46_0__226 := cell_other kp_46_0__214 Gl65_65.out (Apart.symm Dp_46_t_40.out)
          have kp_46_1__227 := cell_other kp_46_1__215 Gl65_65.out (Apart.symm Dp_46_t_40.out)
          have kp_46_2__228 := cell_other kp_46_2__216 Gl65_65.out (Apart.symm Dp_46_t_40.out)
          have kp_46_3__229 := cell_other kp_46_3__217 Gl65_65.out (Apart.symm Dp_46_t_40.out)
          have kp_46_4__230 := cell_other kp_46_4__218 Gl65_65.out (Apart.symm Dp_46_t_40.out)
          have kp_46_5__231 := cell_other kp_46_5__219 Gl65_65.out (Apart.symm Dp_46_t_40.out)
          replace Pb60_60 := Lib.hid (own_other Pb60_60.out Gl65_65.out (Apart.symm Dp_46_t_40.out))
          clear Pt_40 Gl65_65
          replace H := bind_hid H
          obtain ⟨t_67, qt_67, H⟩ := H
          go_wp2_with fail
          clear z0b60_60 ct_17_0__190 ct_17_1__191 ct_17_2__192 ct_17_3__193 ct_17_4__194 ct_17_5__195 ct_44_0__196 ct_44_1__197 ct_44_2__198 ct_44_3__199 ct_44_4__200 ct_44_5__201 kp_46_0 kp_46_1 kp_46_2 kp_46_3 kp_46_4 kp_46_5 z0l65_65 z1l65_65 z2l65_65 z3l65_65 z4l65_65 z5l65_65 ct_17_0__202 ct_17_1__203 ct_17_2__204 ct_17_3__205 ct_17_4__206 ct_17_5__207 ct_44_0__208 ct_44_1__209 ct_44_2__210 ct_44_3__211 ct_44_4__212 ct_44_5__213 kp_46_0__214 kp_46_1__215 kp_46_2__216 kp_46_3__217 kp_46_4__218 kp_46_5__219
          have hc_ := nl65_65.out
          have hv_ : (Value.slice (some ⟨qt_44, 0, none⟩) t_40.length ct_40 : Value) = Value.slice (some ⟨qt_44, 0, none⟩) l65_65.length ct_40 := by rw [hc_]
          try rw [hv_]
          replace Pl65_65 := Lib.hid (own_len hc_ Pl65_65.out)
          clear hc_ hv_
          go_wp2_with fail
          go_at_call 45
          refine (Go.Proofs.Ytgimcnpkngpmiaa.GsL11Good.C fuel (l65_65) (some ⟨qt_44, 0, none⟩) ct_40 _   (Lib.hid (own_cells Pl65_65.out)) (Lib.hid (own_max Pl65_65.out)) qt_67).mono ?_
          rintro e_t_67 wt_67 ⟨rfl, bt_67⟩
          have HBwt_67 := Lib.hid (Below.step HBwl65_65.out bt_67)
          replace ct_17_0__220 := cell_below bt_67 ct_17_0__220
          replace ct_17_1__221 := cell_below bt_67 ct_17_1__221
          replace ct_17_2__222 := cell_below bt_67 ct_17_2__222
          replace ct_17_3__223 := cell_below bt_67 ct_17_3__223
          replace ct_17_4__224 := cell_below bt_67 ct_17_4__224
          replace ct_17_5__225 := cell_below bt_67 ct_17_5__225
          replace kp_46_0__226 := cell_below bt_67 kp_46_0__226
          replace kp_46_1__227 := cell_below bt_67 kp_46_1__227
          replace kp_46_2__228 := cell_below bt_67 kp_46_2__228
          replace kp_46_3__229 := cell_below bt_67 kp_46_3__229
          replace kp_46_4__230 := cell_below bt_67 kp_46_4__230
          replace kp_46_5__231 := cell_below bt_67 kp_46_5__231
          replace Pl65_65 := Lib.hid (own_below Pl65_65.out bt_67)
          replace Pb60_60 := Lib.hid (own_below Pb60_60.out bt_67)
          clear bt_67
          cases t_67 with
          | false =>
            replace H := let_hid H
            obtain ⟨t_68, ht_68, H⟩ := H
            obtain rfl : t_68 = true := ht_68.symm
            replace H := ite_t H
            obtain ⟨w_t_69, hw_t_69⟩ : ∃ x, wt_67.alloc (.cells #[] 26) = x := ⟨_, rfl⟩
            have bw_t_69 : Below wt_67.heap.size wt_67 w_t_69 := by rw [← hw_t_69]; exact (Below.refl _ _).alloc (Nat.le_refl _) _
            have Ot_69 : Hid (w_t_69.ownsRow w.heap.size 26 6 (.slice (some ⟨wt_67.heap.size, 0, none⟩) 0 0) 0 []) := Lib.hid (by rw [← hw_t_69]; exact own_empty HBwt_67.out.size)
            have Dt_69_t_40 := Lib.hid (apart_fresh Pl65_65.out)
            have Dt_69_p_46 := Lib.hid (apart_box kp_46_0__226)
            have HBw_t_69 := Lib.hid (Below.step HBwt_67.out bw_t_69)
            have ct_17_0__232 := cell_below bw_t_69 ct_17_0__220
            have ct_17_1__233 := cell_below bw_t_69 ct_17_1__221
            have ct_17_2__234 := cell_below bw_t_69 ct_17_2__222
            have ct_17_3__235 := cell_below bw_t_69 ct_17_3__223
            have ct_17_4__236 := cell_below bw_t_69 ct_17_4__224
            have ct_17_5__237 := cell_below bw_t_69 ct_17_5__225
            have kp_46_0__238 := cell_below bw_t_69 kp_46_0__226
            have kp_46_1__239 := cell_below bw_t_69 kp_46_1__227
            have kp_46_2__240 := cell_below bw_t_69 kp_46_2__228
            have kp_46_3__241 := cell_below bw_t_69 kp_46_3__229
            have kp_46_4__242 := cell_below bw_t_69 kp_46_4__230
            have kp_46_5__243 := cell_below bw_t_69 kp_46_5__231
            replace Pl65_65 := Lib.hid (own_below Pl65_65.out bw_t_69)
            replace Pb60_60 := Lib.hid (own_below Pb60_60.out bw_t_69)
            clear bw_t_69
            cases ret_hid H
            go_wp2_with fail
            go_ret2
            exact ⟨(some ⟨wt_67.heap.size, 0, none⟩), 0, rfl, Ot_69.out, HBw_t_69.out⟩
          | true =>
            replace H := let_hid H
            obtain ⟨t_68, ht_68, H⟩ := H
            obtain rfl : t_68 = false := ht_68.symm
            replace H := ite_f H
            cases ret_hid H
            go_wp2_with fail
            go_ret2
            exact ⟨(some ⟨qt_44, 0, none⟩), ct_40, rfl, Pl65_65.out, HBwt_67.out⟩
        | true =>
          replace H := ite_t H
          obtain ⟨w_t_35, hw_t_35⟩ : ∃ x, wt_22.alloc (.cells #[] 26) = x := ⟨_, rfl⟩
          have bw_t_35 : Below wt_22.heap.size wt_22 w_t_35 := by rw [← hw_t_35]; exact (Below.refl _ _).alloc (Nat.le_refl _) _
          have Ot_35 : Hid (w_t_35.ownsRow w.heap.size 26 6 (.slice (some ⟨wt_22.heap.size, 0, none⟩) 0 0) 0 []) := Lib.hid (by rw [← hw_t_35]; exact own_empty HBwt_22.out.size)
          have HBw_t_35 := Lib.hid (Below.step HBwt_22.out bw_t_35)
          have ct_17_0__244 := cell_below bw_t_35 ct_17_0
          have ct_17_1__245 := cell_below bw_t_35 ct_17_1
          have ct_17_2__246 := cell_below bw_t_35 ct_17_2
          have ct_17_3__247 := cell_below bw_t_35 ct_17_3
          have ct_17_4__248 := cell_below bw_t_35 ct_17_4
          have ct_17_5__249 := cell_below bw_t_35 ct_17_5
          clear bw_t_35
          cases ret_hid H
          go_wp2_with fail
          go_ret2
          exact ⟨(some ⟨wt_22.heap.size, 0, none⟩), 0, rfl, Ot_35.out, HBw_t_35.out⟩
    | true =>
      replace H := ite_t H
      replace H := app_hid H
      replace H := join_hid H
      replace H := ite_t H
      replace H := app_hid H
      replace H := ite_t H
      obtain ⟨w_t_35, hw_t_35⟩ : ∃ x, wt_7.alloc (.cells #[] 26) = x := ⟨_, rfl⟩
      have bw_t_35 : Below wt_7.heap.size wt_7 w_t_35 := by rw [← hw_t_35]; exact (Below.refl _ _).alloc (Nat.le_refl _) _
      have Ot_35 : Hid (w_t_35.ownsRow w.heap.size 26 6 (.slice (some ⟨wt_7.heap.size, 0, none⟩) 0 0) 0 []) := Lib.hid (by rw [← hw_t_35]; exact own_empty HBwt_7.out.size)
      have HBw_t_35 := Lib.hid (Below.step HBwt_7.out bw_t_35)
      clear bw_t_35
      cases ret_hid H
      go_wp2_with fail
      go_ret2
      exact ⟨(some ⟨wt_7.heap.size, 0, none⟩), 0, rfl, Ot_35.out, HBw_t_35.out⟩
end Go.Proofs.Ytgimcnpkngpmiaa.GsLoseLetter

/- loop.example/g01062/impl.LoseLetter as a plain function, and the contract of the program's: where the plain one has an answer, the program has it. Conditions: slices read as lists. -/
namespace Go.Proofs.Ytgimcnpkngpmiaa.GiLoseLetter
set_option linter.unusedVariables false
set_option linter.unusedSimpArgs false
open Go.RowKit
open Go.Proofs.Ytgimcnpkngpmiaa.Rowed Go.Proofs.Ytgimcnpkngpmiaa.Turn Go.Proofs.Ytgimcnpkngpmiaa.Aid Go.Proofs.Ytgimcnpkngpmiaa.GoP Go.Proofs.Ytgimcnpkngpmiaa.GoM Go.Proofs.Ytgimcnpkngpmiaa.GoB

def P (list : (List Go.Proofs.Ytgimcnpkngpmiaa.PPostmark.Postmark)) (id : Int) (place : Int) : Option ((List Go.Proofs.Ytgimcnpkngpmiaa.PPostmark.Postmark) × Bool) :=
  Option.bind (Go.Proofs.Ytgimcnpkngpmiaa.GiIndexOfPostmark.P list id) fun (t_4 : Int) =>
  letK (decide (t_4 < 0)) fun (t_7 : Bool) =>
  iteK t_7
  (some (([] : List Go.Proofs.Ytgimcnpkngpmiaa.PPostmark.Postmark), false))
  (Option.bind (idx list t_4) fun (yt_13 : Go.Proofs.Ytgimcnpkngpmiaa.PPostmark.Postmark) =>
  unPostmark yt_13 fun (t_13_id : Int) (t_13_town : ByteArray) (t_13_kind_ : Int) (t_13_first : Int) (t_13_last : Int) (t_13_lost : ByteArray) =>
  guardK (t_13_lost.size ≤ 1099511627776) <|
  letK (t_13_lost.toList.map (fun b_ => (b_.toNat : Int))) fun (t_16 : (List Int)) =>
  letK (IntKind.i64.wrap ((t_16.length : Int) - 1)) fun (t_21 : Int) =>
  Option.bind (Go.Proofs.Ytgimcnpkngpmiaa.GiWithin.P place 0 t_21) fun (t_22 : Bool) =>
  letK (!t_22) fun (t_23 : Bool) =>
  joinK (fun (t_30 : Bool) =>
  iteK t_30
  (some (([] : List Go.Proofs.Ytgimcnpkngpmiaa.PPostmark.Postmark), false))
  (Option.bind (idx t_16 place) fun (yt_36 : Int) =>
  letK (t_16.set (place).toNat 120) fun (l37_37 : (List Int)) =>
  Option.bind (Go.Proofs.Ytgimcnpkngpmiaa.GxSlicesCloneLoopExampleG01062ImplPostmarkLoopExampleG01062ImplPostmark.P list) fun (t_39 : (List Go.Proofs.Ytgimcnpkngpmiaa.PPostmark.Postmark)) =>
  letK (Go.Proofs.Ytgimcnpkngpmiaa.GoB.strK l37_37) fun (t_44 : ByteArray) =>
  Option.bind (idx t_39 t_4) fun (yt_45 : Go.Proofs.Ytgimcnpkngpmiaa.PPostmark.Postmark) =>
  unPostmark yt_45 fun (t_45_id : Int) (t_45_town : ByteArray) (t_45_kind_ : Int) (t_45_first : Int) (t_45_last : Int) (t_45_lost : ByteArray) =>
  letK (t_39.set (t_4).toNat (Go.Proofs.Ytgimcnpkngpmiaa.PPostmark.Postmark.mk t_45_id t_45_town t_45_kind_ t_45_first t_45_last t_44)) fun (l47_47 : (List Go.Proofs.Ytgimcnpkngpmiaa.PPostmark.Postmark)) =>
  Option.bind (idx l47_47 t_4) fun (yt_50 : Go.Proofs.Ytgimcnpkngpmiaa.PPostmark.Postmark) =>
  unPostmark yt_50 fun (t_50_id : Int) (t_50_town : ByteArray) (t_50_kind_ : Int) (t_50_first : Int) (t_50_last : Int) (t_50_lost : ByteArray) =>
  Option.bind (Go.Proofs.Ytgimcnpkngpmiaa.GiIsPostmark.P (Go.Proofs.Ytgimcnpkngpmiaa.PPostmark.Postmark.mk t_50_id t_50_town t_50_kind_ t_50_first t_50_last t_50_lost)) fun (t_52 : Bool) =>
  letK (!t_52) fun (t_53 : Bool) =>
  iteK t_53
  (some (([] : List Go.Proofs.Ytgimcnpkngpmiaa.PPostmark.Postmark), false))
  (some (l47_47, true)))) fun jt_30 => iteK t_23 (appK jt_30 true) (Option.bind (idx t_16 place) fun (yt_27 : Int) =>
  letK (yt_27 == 120) fun (t_29 : Bool) =>
  appK jt_30 t_29))

set_option maxRecDepth 100000 in
set_option maxHeartbeats 2000000 in
theorem C (list : (List Go.Proofs.Ytgimcnpkngpmiaa.PPostmark.Postmark)) (id : Int) (place : Int) (A0 : Option Addr) (c0 : Nat)  (w : World) (M0 : Hid (Cells w 6 A0 list.length (Go.Proofs.Ytgimcnpkngpmiaa.PPostmark.flat list))) (N0 : Hid (list.length ≤ 9223372036854775807)) (Q0 : Hid (Room A0 list.length c0))  {r0 : (List Go.Proofs.Ytgimcnpkngpmiaa.PPostmark.Postmark)} {r1 : Bool} (H : Hid (P list id place = some (r0, r1))) :
    Calls Try.prog 24 #[.slice A0 list.length c0, .int .i64 id, .int .i64 place] w (fun e w' => ∃ A_r0 c_r0, e = .returned (.tuple #[.slice A_r0 r0.length c_r0, .bool r1]) ∧ w'.ownsRow w.heap.size 26 6 (.slice A_r0 r0.length c_r0) r0.length (Go.Proofs.Ytgimcnpkngpmiaa.PPostmark.flat r0) ∧ Below w.heap.size w w') := by
  have HB := Lib.hid (Below.refl w.heap.size w)
  unfold P at H
  have N0o := N0.out
  go_enter Try.func24, Try.ntmps24
  replace H := bind_hid H
  obtain ⟨t_4, qt_4, H⟩ := H
  go_wp2_with fail
  go_at_call 53
  refine (Go.Proofs.Ytgimcnpkngpmiaa.GiIndexOfPostmark.C (list) (id) A0 c0 _   (Lib.hid (Cells.below M0.out HB.out)) N0 qt_4).mono ?_
  rintro e_t_4 wt_4 ⟨rfl, bt_4⟩
  have HBwt_4 := Lib.hid (Below.step HB.out bt_4)
  clear bt_4
  replace H := let_hid H
  obtain ⟨t_7, ht_7, H⟩ := H
  cases t_7 with
  | false =>
    replace H := ite_f H
    replace H := idx_hid H
    obtain ⟨nt_13, yt_13, et_13, lt_13, gt_13, H⟩ := H
    subst et_13
    have nc_251 : ¬ (nt_13 < 0) := by have := of_decide_eq_false ht_7; omega
    obtain ⟨t_13_id, t_13_town, t_13_kind_, t_13_first, t_13_last, t_13_lost⟩ := yt_13
    replace H := unPostmark_hid H
    obtain ⟨ab_t_13, ao_t_13, zt_13, At_13, z_t_13, ct_13_0, ct_13_1, ct_13_2, ct_13_3, ct_13_4, ct_13_5⟩ := Go.Proofs.Ytgimcnpkngpmiaa.OPostmark.at_ M0.out lt_13
    obtain rfl := Option.some.inj (gt_13.out.symm.trans z_t_13)
    subst At_13
    have ltt_13 := cell_lt ct_13_0
    replace ct_13_0 := cell_below HBwt_4.out ct_13_0
    replace ct_13_1 := cell_below HBwt_4.out ct_13_1
    replace ct_13_2 := cell_below HBwt_4.out ct_13_2
    replace ct_13_3 := cell_below HBwt_4.out ct_13_3
    replace ct_13_4 := cell_below HBwt_4.out ct_13_4
    replace ct_13_5 := cell_below HBwt_4.out ct_13_5
    clear z_t_13
    have b0t_13 : (0 : Int) ≤ (nt_13 : Int) := by omega
    have b1t_13 : (nt_13 : Int) < ((list.length : Nat) : Int) := by omega
    have b2t_13 : ((nt_13 : Int)).toNat = nt_13 := by omega
    replace H := guard_hid H
    obtain ⟨hnt_16, H⟩ := H
    replace H := let_hid H
    obtain ⟨t_16, ht_16, H⟩ := H
    obtain ⟨wt_16, ct_16, rt_16, ot_16, bt_16⟩ := Go.Proofs.Ytgimcnpkngpmiaa.GoB.conv_new (P := Try.prog) (w.heap.size) wt_4 9 65 5 t_13_lost Try.underlying9 Try.underlying65 Try.underlying5 HBwt_4.out.size (by omega) ht_16
    have Ot_16 := Lib.hid ot_16
    clear ot_16
    have hht_16 := Lib.hid ht_16
    clear ht_16
    have HBwt_16 := Lib.hid (Below.step HBwt_4.out bt_16)
    have ct_13_0__252 := cell_below bt_16 ct_13_0
    have ct_13_1__253 := cell_below bt_16 ct_13_1
    have ct_13_2__254 := cell_below bt_16 ct_13_2
    have ct_13_3__255 := cell_below bt_16 ct_13_3
    have ct_13_4__256 := cell_below bt_16 ct_13_4
    have ct_13_5__257 := cell_below bt_16 ct_13_5
    clear bt_16
    replace H := let_hid H
    obtain ⟨t_21, ht_21, H⟩ := H
    try have hv_t_21 : (t_16.length : Int) - 1 = t_21 := by rw [← ht_21]; exact (IntWalk.i64_in _ (by omega)).symm
    try have hv2_t_21 : IntKind.i64.wrap t_21 = t_21 := by rw [← hv_t_21]; exact IntWalk.i64_in _ (by omega)
    replace H := bind_hid H
    obtain ⟨t_22, qt_22, H⟩ := H
    go_wp2_with fail
    clear ct_13_0 ct_13_1 ct_13_2 ct_13_3 ct_13_4 ct_13_5 rt_16
    go_at_call 41
    refine (Go.Proofs.Ytgimcnpkngpmiaa.GiWithin.C (place) (0) (t_21)  _    qt_22).mono ?_
    rintro e_t_22 wt_22 ⟨rfl, bt_22⟩
    have HBwt_22 := Lib.hid (Below.step HBwt_16.out bt_22)
    replace ct_13_0__252 := cell_below bt_22 ct_13_0__252
    replace ct_13_1__253 := cell_below bt_22 ct_13_1__253
    replace ct_13_2__254 := cell_below bt_22 ct_13_2__254
    replace ct_13_3__255 := cell_below bt_22 ct_13_3__255
    replace ct_13_4__256 := cell_below bt_22 ct_13_4__256
    replace ct_13_5__257 := cell_below bt_22 ct_13_5__257
    replace Ot_16 := Lib.hid (own_below Ot_16.out bt_22)
    clear bt_22
    cases t_22 with
    | false =>
      replace H := let_hid H
      obtain ⟨t_23, ht_23, H⟩ := H
      obtain rfl : t_23 = true := ht_23.symm
      replace H := join_hid H
      replace H := ite_t H
      replace H := app_hid H
      replace H := ite_t H
      obtain ⟨w_t_31, hw_t_31⟩ : ∃ x, wt_22.alloc (.cells #[] 26) = x := ⟨_, rfl⟩
      have bw_t_31 : Below wt_22.heap.size wt_22 w_t_31 := by rw [← hw_t_31]; exact (Below.refl _ _).alloc (Nat.le_refl _) _
      have Ot_31 : Hid (w_t_31.ownsRow w.heap.size 26 6 (.slice (some ⟨wt_22.heap.size, 0, none⟩) 0 0) 0 []) := Lib.hid (by rw [← hw_t_31]; exact own_empty HBwt_22.out.size)
      have Dt_31_t_16 := Lib.hid (apart_fresh Ot_16.out)
      have HBw_t_31 := Lib.hid (Below.step HBwt_22.out bw_t_31)
      have ct_13_0__258 := cell_below bw_t_31 ct_13_0__252
      have ct_13_1__259 := cell_below bw_t_31 ct_13_1__253
      have ct_13_2__260 := cell_below bw_t_31 ct_13_2__254
      have ct_13_3__261 := cell_below bw_t_31 ct_13_3__255
      have ct_13_4__262 := cell_below bw_t_31 ct_13_4__256
      have ct_13_5__263 := cell_below bw_t_31 ct_13_5__257
      replace Ot_16 := Lib.hid (own_below Ot_16.out bw_t_31)
      clear bw_t_31
      cases ret_hid H
      go_wp2_with fail
      go_ret2
      exact ⟨(some ⟨wt_22.heap.size, 0, none⟩), 0, rfl, Ot_31.out, HBw_t_31.out⟩
    | true =>
      replace H := let_hid H
      obtain ⟨t_23, ht_23, H⟩ := H
      obtain rfl : t_23 = false := ht_23.symm
      replace H := join_hid H
      replace H := ite_f H
      replace H := idx_hid H
      obtain ⟨nt_27, yt_27, et_27, lt_27, gt_27, H⟩ := H
      subst et_27
      obtain ⟨ab_t_27, ao_t_27, zt_27, At_27, z_t_27, ct_27_0⟩ := Go.Proofs.Ytgimcnpkngpmiaa.GoB.u8_at (own_cells Ot_16.out) (k := nt_27) (by omega)
      obtain rfl := Option.some.inj (gt_27.out.symm.trans z_t_27)
      simp only [Option.some.injEq, Addr.mk.injEq] at At_27
      obtain ⟨rfl, rfl, _⟩ := At_27
      clear z_t_27
      simp only [Nat.zero_add] at ct_27_0
      have b0t_27 : (0 : Int) ≤ (nt_27 : Int) := by omega
      have b1t_27 : (nt_27 : Int) < ((t_16.length : Nat) : Int) := by omega
      have b2t_27 : ((nt_27 : Int)).toNat = nt_27 := by omega
      replace H := let_hid H
      obtain ⟨t_29, ht_29, H⟩ := H
      replace H := app_hid H
      cases t_29 with
      | false =>
        replace H := ite_f H
        replace H := idx_hid H
        obtain ⟨nt_36, yt_36, et_36, lt_36, gt_36, H⟩ := H
        obtain rfl : nt_27 = nt_36 := by omega
        clear et_36
        obtain rfl := Option.some.inj (gt_27.out.symm.trans gt_36.out)
        clear gt_36 lt_36
        replace H := let_hid H
        obtain ⟨l37_37, hl37_37, H⟩ := H
        try simp only [Int.toNat_natCast] at hl37_37
        obtain ⟨wl37_37, hwl37_37⟩ : ∃ x, (wt_22).setCell ⟨wt_4.heap.size, nt_27, none⟩ (.int .u8 120) = x := ⟨_, rfl⟩
        have z0l37_37 := Ot_16.out.frozenAt (nt_27) (by have hz_ := lt_27; omega)
        have Sl37_37 := Lib.hid (own_stores [(nt_27, .int .u8 120)] Ot_16.out)
        have nl37_37 : Hid (l37_37.length = t_16.length) := Lib.hid (by rw [← hl37_37, List.length_set])
        have Pl37_37 : Hid (Go.Proofs.Ytgimcnpkngpmiaa.GoB.ownsB wl37_37 w.heap.size 5 1 (.slice (some ⟨wt_4.heap.size, 0, none⟩) t_16.length ct_16) t_16.length (Go.Proofs.Ytgimcnpkngpmiaa.GoB.u8s l37_37)) := Lib.hid (by have e_ : ([(nt_27, .int .u8 120)] : List (Nat × Value)).foldl (fun xs p => xs.set p.1 p.2) (Go.Proofs.Ytgimcnpkngpmiaa.GoB.u8s t_16) = (Go.Proofs.Ytgimcnpkngpmiaa.GoB.u8s l37_37) := (by rw [← hl37_37]; first | done | simp [Go.Proofs.Ytgimcnpkngpmiaa.GoB.u8s, List.map_set]); rw [← hwl37_37, ← e_]; exact Sl37_37.out.1)
        have Gl37_37 : Hid (wt_22.grownBy wl37_37 (Value.slice (some ⟨wt_4.heap.size, 0, none⟩) t_16.length ct_16).ownBlock) := Lib.hid (by rw [← hwl37_37]; exact Sl37_37.out.2)
        have HBwl37_37 := Lib.hid (HBwt_22.out.grown Gl37_37.out HBwt_22.out.size (fun q hq => (Ot_16.out.lt q hq).1))
        have hhl37_37 := Lib.hid hl37_37
        clear hl37_37 Sl37_37
        have ct_13_0__264 := cell_other ct_13_0__252 Gl37_37.out (apart_old Ot_16.out ltt_13)
        have ct_13_1__265 := cell_other ct_13_1__253 Gl37_37.out (apart_old Ot_16.out ltt_13)
        have ct_13_2__266 := cell_other ct_13_2__254 Gl37_37.out (apart_old Ot_16.out ltt_13)
        have ct_13_3__267 := cell_other ct_13_3__255 Gl37_37.out (apart_old Ot_16.out ltt_13)
        have ct_13_4__268 := cell_other ct_13_4__256 Gl37_37.out (apart_old Ot_16.out ltt_13)
        have ct_13_5__269 := cell_other ct_13_5__257 Gl37_37.out (apart_old Ot_16.out ltt_13)
        clear Ot_16 Gl37_37
        replace H := bind_hid H
        obtain ⟨t_39, qt_39, H⟩ := H
        go_wp2_with fail
        clear z0l37_37 ct_13_0__252 ct_13_1__253 ct_13_2__254 ct_13_3__255 ct_13_4__256 ct_13_5__257 ct_27_0
        go_at_call 54
        refine (Go.Proofs.Ytgimcnpkngpmiaa.GxSlicesCloneLoopExampleG01062ImplPostmarkLoopExampleG01062ImplPostmark.C (list) (some ⟨ab_t_13, ao_t_13, none⟩) c0 _   (Lib.hid (Cells.below M0.out HBwl37_37.out)) N0 Q0 qt_39).mono ?_
        rintro e_t_39 wt_39 ⟨At_39, ct_39, rfl, ot_39, bt_39⟩
        have Dt_39_t_16 := Lib.hid (apart_call ot_39 Pl37_37.out)
        have Ot_39 := Lib.hid (own_lower ot_39 HBwl37_37.out.size)
        clear ot_39
        have HBwt_39 := Lib.hid (Below.step HBwl37_37.out bt_39)
        replace ct_13_0__264 := cell_below bt_39 ct_13_0__264
        replace ct_13_1__265 := cell_below bt_39 ct_13_1__265
        replace ct_13_2__266 := cell_below bt_39 ct_13_2__266
        replace ct_13_3__267 := cell_below bt_39 ct_13_3__267
        replace ct_13_4__268 := cell_below bt_39 ct_13_4__268
        replace ct_13_5__269 := cell_below bt_39 ct_13_5__269
        replace Pl37_37 := Lib.hid (own_below Pl37_37.out bt_39)
        clear bt_39
        replace H := let_hid H
        obtain ⟨t_44, ht_44, H⟩ := H
        have rt_44 := Go.Proofs.Ytgimcnpkngpmiaa.GoB.conv_back (P := Try.prog) Try.underlying65 Try.underlying5 Try.underlying9 Pl37_37.out ht_44
        have hht_44 := Lib.hid ht_44
        clear ht_44
        replace H := idx_hid H
        obtain ⟨nt_45, yt_45, et_45, lt_45, gt_45, H⟩ := H
        obtain rfl : nt_13 = nt_45 := by omega
        clear et_45
        obtain ⟨t_45_id, t_45_town, t_45_kind_, t_45_first, t_45_last, t_45_lost⟩ := yt_45
        replace H := unPostmark_hid H
        obtain ⟨qt_45, Qt_45⟩ := own_some Ot_39.out (by omega)
        subst Qt_45
        obtain ⟨ab_t_45, ao_t_45, zt_45, At_45, z_t_45, ct_45_0, ct_45_1, ct_45_2, ct_45_3, ct_45_4, ct_45_5⟩ := Go.Proofs.Ytgimcnpkngpmiaa.OPostmark.at_ (own_cells Ot_39.out) (k := nt_13) (by omega)
        obtain rfl := Option.some.inj (gt_45.out.symm.trans z_t_45)
        simp only [Option.some.injEq, Addr.mk.injEq] at At_45
        obtain ⟨rfl, rfl, _⟩ := At_45
        clear z_t_45
        simp only [Nat.zero_add] at ct_45_0 ct_45_1 ct_45_2 ct_45_3 ct_45_4 ct_45_5
        have b0t_45 : (0 : Int) ≤ (nt_13 : Int) := by omega
        have b1t_45 : (nt_13 : Int) < ((t_39.length : Nat) : Int) := by omega
        have b2t_45 : ((nt_13 : Int)).toNat = nt_13 := by omega
        replace H := let_hid H
        obtain ⟨l47_47, hl47_47, H⟩ := H
        try simp only [Int.toNat_natCast] at hl47_47
        obtain ⟨wl47_47, hwl47_47⟩ : ∃ x, (wt_39).setCell ⟨qt_45, nt_13 * 6 + 5, none⟩ (.string t_44) = x := ⟨_, rfl⟩
        have z0l47_47 := Ot_39.out.frozenAt (nt_13 * 6 + 5)
        have Sl47_47 := Lib.hid (own_stores [(nt_13 * 6 + 5, .string t_44)] Ot_39.out)
        have nl47_47 : Hid (l47_47.length = t_39.length) := Lib.hid (by rw [← hl47_47, List.length_set])
        have Pl47_47 : Hid (wl47_47.ownsRow w.heap.size 26 6 (.slice (some ⟨qt_45, 0, none⟩) t_39.length ct_39) t_39.length (Go.Proofs.Ytgimcnpkngpmiaa.PPostmark.flat l47_47)) := Lib.hid (by have es_ := set_self gt_45.out; have e0_ := flat_set Go.Proofs.Ytgimcnpkngpmiaa.PPostmark.Postmark.cells 6 (fun _ => rfl) t_39 (nt_13) 5 (Go.Proofs.Ytgimcnpkngpmiaa.PPostmark.Postmark.mk t_45_id t_45_town t_45_kind_ t_45_first t_45_last t_45_lost) (Go.Proofs.Ytgimcnpkngpmiaa.PPostmark.Postmark.mk t_45_id t_45_town t_45_kind_ t_45_first t_45_last t_44) (.string t_44) lt_45 (by decide) rfl; rw [es_] at e0_; have e_ : ([(nt_13 * 6 + 5, .string t_44)] : List (Nat × Value)).foldl (fun xs p => xs.set p.1 p.2) (Go.Proofs.Ytgimcnpkngpmiaa.PPostmark.flat t_39) = (Go.Proofs.Ytgimcnpkngpmiaa.PPostmark.flat l47_47) := (by rw [← hl47_47]; show _ = List.flatMap Go.Proofs.Ytgimcnpkngpmiaa.PPostmark.Postmark.cells _; first | (rw [← e0_]; first | done | rfl)); rw [← hwl47_47, ← e_]; exact Sl47_47.out.1)
        have Gl47_47 : Hid (wt_39.grownBy wl47_47 (Value.slice (some ⟨qt_45, 0, none⟩) t_39.length ct_39).ownBlock) := Lib.hid (by rw [← hwl47_47]; exact Sl47_47.out.2)
        have HBwl47_47 := Lib.hid (HBwt_39.out.grown Gl47_47.out HBwt_39.out.size (fun q hq => (Ot_39.out.lt q hq).1))
        have hhl47_47 := Lib.hid hl47_47
        clear hl47_47 Sl47_47
        have ct_13_0__270 := cell_other ct_13_0__264 Gl47_47.out (apart_old Ot_39.out ltt_13)
        have ct_13_1__271 := cell_other ct_13_1__265 Gl47_47.out (apart_old Ot_39.out ltt_13)
        have ct_13_2__272 := cell_other ct_13_2__266 Gl47_47.out (apart_old Ot_39.out ltt_13)
        have ct_13_3__273 := cell_other ct_13_3__267 Gl47_47.out (apart_old Ot_39.out ltt_13)
        have ct_13_4__274 := cell_other ct_13_4__268 Gl47_47.out (apart_old Ot_39.out ltt_13)
        have ct_13_5__275 := cell_other ct_13_5__269 Gl47_47.out (apart_old Ot_39.out ltt_13)
        replace Pl37_37 := Lib.hid (own_other Pl37_37.out Gl47_47.out Dt_39_t_16.out)
        clear Ot_39 Gl47_47
        replace H := idx_hid H
        obtain ⟨nt_50, yt_50, et_50, lt_50, gt_50, H⟩ := H
        obtain rfl : nt_13 = nt_50 := by omega
        clear et_50
        obtain ⟨t_50_id, t_50_town, t_50_kind_, t_50_first, t_50_last, t_50_lost⟩ := yt_50
        replace H := unPostmark_hid H
        have hqt_50 := nl47_47.out
        obtain ⟨ab_t_50, ao_t_50, zt_50, At_50, z_t_50, ct_50_0, ct_50_1, ct_50_2, ct_50_3, ct_50_4, ct_50_5⟩ := Go.Proofs.Ytgimcnpkngpmiaa.OPostmark.at_ (own_cells Pl47_47.out) (k := nt_13) (by omega)
        obtain rfl := Option.some.inj (gt_50.out.symm.trans z_t_50)
        simp only [Option.some.injEq, Addr.mk.injEq] at At_50
        obtain ⟨rfl, rfl, _⟩ := At_50
        clear z_t_50
        simp only [Nat.zero_add] at ct_50_0 ct_50_1 ct_50_2 ct_50_3 ct_50_4 ct_50_5
        have b0t_50 : (0 : Int) ≤ (nt_13 : Int) := by omega
        have b1t_50 : (nt_13 : Int) < ((t_39.length : Nat) : Int) := by omega
        have b2t_50 : ((nt_13 : Int)).toNat = nt_13 := by omega
        clear hqt_50
        replace H := bind_hid H
        obtain ⟨t_52, qt_52, H⟩ := H
        go_wp2_with fail
        clear rt_44 z0l47_47 ct_13_0__264 ct_13_1__265 ct_13_2__266 ct_13_3__267 ct_13_4__268 ct_13_5__269 ct_45_0 ct_45_1 ct_45_2 ct_45_3 ct_45_4 ct_45_5
        go_at_call 15
        refine (Go.Proofs.Ytgimcnpkngpmiaa.GiIsPostmark.C ((Go.Proofs.Ytgimcnpkngpmiaa.PPostmark.Postmark.mk t_50_id t_50_town t_50_kind_ t_50_first t_50_last t_50_lost))  _    qt_52).mono ?_
        rintro e_t_52 wt_52 ⟨rfl, bt_52⟩
        have HBwt_52 := Lib.hid (Below.step HBwl47_47.out bt_52)
        replace ct_13_0__270 := cell_below bt_52 ct_13_0__270
        replace ct_13_1__271 := cell_below bt_52 ct_13_1__271
        replace ct_13_2__272 := cell_below bt_52 ct_13_2__272
        replace ct_13_3__273 := cell_below bt_52 ct_13_3__273
        replace ct_13_4__274 := cell_below bt_52 ct_13_4__274
        replace ct_13_5__275 := cell_below bt_52 ct_13_5__275
        replace ct_50_0 := cell_below bt_52 ct_50_0
        replace ct_50_1 := cell_below bt_52 ct_50_1
        replace ct_50_2 := cell_below bt_52 ct_50_2
        replace ct_50_3 := cell_below bt_52 ct_50_3
        replace ct_50_4 := cell_below bt_52 ct_50_4
        replace ct_50_5 := cell_below bt_52 ct_50_5
        replace Pl37_37 := Lib.hid (own_below Pl37_37.out bt_52)
        replace Pl47_47 := Lib.hid (own_below Pl47_47.out bt_52)
        clear bt_52
        cases t_52 with
        | false =>
          replace H := let_hid H
          obtain ⟨t_53, ht_53, H⟩ := H
          obtain rfl : t_53 = true := ht_53.symm
          replace H := ite_t H
          obtain ⟨w_t_54, hw_t_54⟩ : ∃ x, wt_52.alloc (.cells #[] 26) = x := ⟨_, rfl⟩
          have bw_t_54 : Below wt_52.heap.size wt_52 w_t_54 := by rw [← hw_t_54]; exact (Below.refl _ _).alloc (Nat.le_refl _) _
          have Ot_54 : Hid (w_t_54.ownsRow w.heap.size 26 6 (.slice (some ⟨wt_52.heap.size, 0, none⟩) 0 0) 0 []) := Lib.hid (by rw [← hw_t_54]; exact own_empty HBwt_52.out.size)
          have Dt_54_t_16 := Lib.hid (apart_fresh Pl37_37.out)
          have Dt_54_t_39 := Lib.hid (apart_fresh Pl47_47.out)
          have HBw_t_54 := Lib.hid (Below.step HBwt_52.out bw_t_54)
          have ct_13_0__276 := cell_below bw_t_54 ct_13_0__270
          have ct_13_1__277 := cell_below bw_t_54 ct_13_1__271
          have ct_13_2__278 := cell_below bw_t_54 ct_13_2__272
          have ct_13_3__279 := cell_below bw_t_54 ct_13_3__273
          have ct_13_4__280 := cell_below bw_t_54 ct_13_4__274
          have ct_13_5__281 := cell_below bw_t_54 ct_13_5__275
          have ct_50_0__282 := cell_below bw_t_54 ct_50_0
          have ct_50_1__283 := cell_below bw_t_54 ct_50_1
          have ct_50_2__284 := cell_below bw_t_54 ct_50_2
          have ct_50_3__285 := cell_below bw_t_54 ct_50_3
          have ct_50_4__286 := cell_below bw_t_54 ct_50_4
          have ct_50_5__287 := cell_below bw_t_54 ct_50_5
          replace Pl37_37 := Lib.hid (own_below Pl37_37.out bw_t_54)
          replace Pl47_47 := Lib.hid (own_below Pl47_47.out bw_t_54)
          clear bw_t_54
          cases ret_hid H
          go_wp2_with fail
          go_ret2
          exact ⟨(some ⟨wt_52.heap.size, 0, none⟩), 0, rfl, Ot_54.out, HBw_t_54.out⟩
        | true =>
          replace H := let_hid H
          obtain ⟨t_53, ht_53, H⟩ := H
          obtain rfl : t_53 = false := ht_53.symm
          replace H := ite_f H
          cases ret_hid H
          go_wp2_with fail
          go_ret2
          have hr_0 := nl47_47.out
          replace Pl47_47 := Lib.hid (own_len hr_0 Pl47_47.out)
          exact ⟨(some ⟨qt_45, 0, none⟩), ct_39, (by first | (rw [hr_0]; done) | (rw [hr_0]; rfl)), Pl47_47.out, HBwt_52.out⟩
      | true =>
        replace H := ite_t H
        obtain ⟨w_t_31, hw_t_31⟩ : ∃ x, wt_22.alloc (.cells #[] 26) = x := ⟨_, rfl⟩
        have bw_t_31 : Below wt_22.heap.size wt_22 w_t_31 := by rw [← hw_t_31]; exact (Below.refl _ _).alloc (Nat.le_refl _) _
        have Ot_31 : Hid (w_t_31.ownsRow w.heap.size 26 6 (.slice (some ⟨wt_22.heap.size, 0, none⟩) 0 0) 0 []) := Lib.hid (by rw [← hw_t_31]; exact own_empty HBwt_22.out.size)
        have Dt_31_t_16 := Lib.hid (apart_fresh Ot_16.out)
        have HBw_t_31 := Lib.hid (Below.step HBwt_22.out bw_t_31)
        have ct_13_0__288 := cell_below bw_t_31 ct_13_0__252
        have ct_13_1__289 := cell_below bw_t_31 ct_13_1__253
        have ct_13_2__290 := cell_below bw_t_31 ct_13_2__254
        have ct_13_3__291 := cell_below bw_t_31 ct_13_3__255
        have ct_13_4__292 := cell_below bw_t_31 ct_13_4__256
        have ct_13_5__293 := cell_below bw_t_31 ct_13_5__257
        have ct_27_0__294 := cell_below bw_t_31 ct_27_0
        replace Ot_16 := Lib.hid (own_below Ot_16.out bw_t_31)
        clear bw_t_31
        cases ret_hid H
        go_wp2_with fail
        go_ret2
        exact ⟨(some ⟨wt_22.heap.size, 0, none⟩), 0, rfl, Ot_31.out, HBw_t_31.out⟩
  | true =>
    replace H := ite_t H
    obtain ⟨w_t_8, hw_t_8⟩ : ∃ x, wt_4.alloc (.cells #[] 26) = x := ⟨_, rfl⟩
    have bw_t_8 : Below wt_4.heap.size wt_4 w_t_8 := by rw [← hw_t_8]; exact (Below.refl _ _).alloc (Nat.le_refl _) _
    have Ot_8 : Hid (w_t_8.ownsRow w.heap.size 26 6 (.slice (some ⟨wt_4.heap.size, 0, none⟩) 0 0) 0 []) := Lib.hid (by rw [← hw_t_8]; exact own_empty HBwt_4.out.size)
    have HBw_t_8 := Lib.hid (Below.step HBwt_4.out bw_t_8)
    clear bw_t_8
    cases ret_hid H
    go_wp2_with fail
    go_ret2
    exact ⟨(some ⟨wt_4.heap.size, 0, none⟩), 0, rfl, Ot_8.out, HBw_t_8.out⟩
end Go.Proofs.Ytgimcnpkngpmiaa.GiLoseLetter

/- loop.example/g01062/laws.FnExactLoseLetter as a plain function, and the contract of the program's: where the plain one has an answer, the program has it. Conditions: slices read as lists. -/
namespace Go.Proofs.Ytgimcnpkngpmiaa.GlFnExactLoseLetter
set_option linter.unusedVariables false
set_option linter.unusedSimpArgs false
open Go.RowKit
open Go.Proofs.Ytgimcnpkngpmiaa.Rowed Go.Proofs.Ytgimcnpkngpmiaa.Turn Go.Proofs.Ytgimcnpkngpmiaa.Aid Go.Proofs.Ytgimcnpkngpmiaa.GoP Go.Proofs.Ytgimcnpkngpmiaa.GoM

def P (fuel : Nat) (aList : (List Go.Proofs.Ytgimcnpkngpmiaa.PPostmark.Postmark)) (aId : Int) (aPlace : Int) : Option (Bool) :=
  Option.bind (Go.Proofs.Ytgimcnpkngpmiaa.GlSzPostmarkS.P aList 1048576) fun (t_4 : Int) =>
  letK (decide (t_4 < 0)) fun (t_7 : Bool) =>
  iteK t_7
  (some true)
  (Option.bind (Go.Proofs.Ytgimcnpkngpmiaa.GlToPostmarkS.P aList) fun (t_10 : (List Go.Proofs.Ytgimcnpkngpmiaa.PPostmark.Postmark)) =>
  bind2 (Go.Proofs.Ytgimcnpkngpmiaa.GsLoseLetter.P fuel t_10 aId aPlace) fun (t_13a : (List Go.Proofs.Ytgimcnpkngpmiaa.PPostmark.Postmark)) (t_13b : Bool) =>
  Option.bind (Go.Proofs.Ytgimcnpkngpmiaa.GlToPostmarkS.P aList) fun (t_20 : (List Go.Proofs.Ytgimcnpkngpmiaa.PPostmark.Postmark)) =>
  bind2 (Go.Proofs.Ytgimcnpkngpmiaa.GiLoseLetter.P t_20 aId aPlace) fun (t_25a : (List Go.Proofs.Ytgimcnpkngpmiaa.PPostmark.Postmark)) (t_25b : Bool) =>
  Option.bind (Go.Proofs.Ytgimcnpkngpmiaa.GlEqPostmarkS.P t_25a t_13a) fun (t_33 : Bool) =>
  letK (!t_33) fun (t_34 : Bool) =>
  joinK (fun (t_39 : Bool) =>
  iteK t_39
  (some false)
  (Option.bind (Go.Proofs.Ytgimcnpkngpmiaa.GlToPostmarkS.P aList) fun (t_43 : (List Go.Proofs.Ytgimcnpkngpmiaa.PPostmark.Postmark)) =>
  Option.bind (Go.Proofs.Ytgimcnpkngpmiaa.GlEqPostmarkS.P t_20 t_43) fun (t_44 : Bool) =>
  letK (!t_44) fun (t_45 : Bool) =>
  iteK t_45
  (some false)
  (bind2 (Go.Proofs.Ytgimcnpkngpmiaa.GlMarkPostmarkS.P t_20 1) fun (t_50 : Int) (lt_50 : (List Go.Proofs.Ytgimcnpkngpmiaa.PPostmark.Postmark)) =>
  letK (decide (t_50 < 0)) fun (t_53 : Bool) =>
  joinK (fun (t_59 : Bool) =>
  joinK (fun (t_64 : Bool) =>
  iteK t_64
  (some false)
  (bind2 (Go.Proofs.Ytgimcnpkngpmiaa.GlMarkPostmarkS.P t_25a 1) fun (t_69 : Int) (lt_69 : (List Go.Proofs.Ytgimcnpkngpmiaa.PPostmark.Postmark)) =>
  Option.bind (Go.Proofs.Ytgimcnpkngpmiaa.GlHeldPostmarkS.P lt_69 1) fun (t_74 : Int) =>
  letK (decide (t_74 < 0)) fun (t_77 : Bool) =>
  iteK t_77
  (some false)
  (letK (t_74 != t_69) fun (t_81 : Bool) =>
  iteK t_81
  (some false)
  (Option.bind (Go.Proofs.Ytgimcnpkngpmiaa.GlToPostmarkS.P aList) fun (t_84 : (List Go.Proofs.Ytgimcnpkngpmiaa.PPostmark.Postmark)) =>
  bind2 (Go.Proofs.Ytgimcnpkngpmiaa.GiLoseLetter.P t_84 aId aPlace) fun (t_87a : (List Go.Proofs.Ytgimcnpkngpmiaa.PPostmark.Postmark)) (t_87b : Bool) =>
  Option.bind (Go.Proofs.Ytgimcnpkngpmiaa.GlEqPostmarkS.P t_87a t_13a) fun (t_95 : Bool) =>
  letK (!t_95) fun (t_96 : Bool) =>
  joinK (fun (t_101 : Bool) =>
  iteK t_101
  (some false)
  (Option.bind (Go.Proofs.Ytgimcnpkngpmiaa.GlHeldPostmarkS.P lt_69 1) fun (t_106 : Int) =>
  letK (decide (t_106 < 0)) fun (t_109 : Bool) =>
  iteK t_109
  (some false)
  (letK (t_106 != t_69) fun (t_113 : Bool) =>
  iteK t_113
  (some false)
  (some true)))) fun jt_101 => iteK t_96 (appK jt_101 true) (letK (!(t_87b == t_13b)) fun (t_100 : Bool) =>
  appK jt_101 t_100))))) fun jt_64 => iteK t_59 (appK jt_64 true) (letK (!(t_25b == t_13b)) fun (t_63 : Bool) =>
  appK jt_64 t_63)) fun jt_59 => iteK t_53 (appK jt_59 true) (Option.bind (Go.Proofs.Ytgimcnpkngpmiaa.GlEqPostmarkS.P t_25a t_13a) fun (t_57 : Bool) =>
  letK (!t_57) fun (t_58 : Bool) =>
  appK jt_59 t_58)))) fun jt_39 => iteK t_34 (appK jt_39 true) (letK (!(t_25b == t_13b)) fun (t_38 : Bool) =>
  appK jt_39 t_38))

set_option maxRecDepth 100000 in
set_option maxHeartbeats 2000000 in
theorem C (fuel : Nat) (aList : (List Go.Proofs.Ytgimcnpkngpmiaa.PPostmark.Postmark)) (aId : Int) (aPlace : Int) (A0 : Option Addr) (c0 : Nat)  (w : World) (M0 : Hid (Cells w 6 A0 aList.length (Go.Proofs.Ytgimcnpkngpmiaa.PPostmark.flat aList))) (N0 : Hid (aList.length ≤ 9223372036854775807))  {r : Bool} (H : Hid (P fuel aList aId aPlace = some r)) :
    Calls Try.prog 6 #[.slice A0 aList.length c0, .int .i64 aId, .int .i64 aPlace] w (Gives (.bool r) w) := by
  have HB := Lib.hid (Below.refl w.heap.size w)
  unfold P at H
  have N0o := N0.out
  go_enter Try.func6, Try.ntmps6
  replace H := bind_hid H
  obtain ⟨t_4, qt_4, H⟩ := H
  go_wp2_with fail
  go_at_call 16
  refine (Go.Proofs.Ytgimcnpkngpmiaa.GlSzPostmarkS.C (aList) (1048576) A0 c0 _   (Lib.hid (Cells.below M0.out HB.out)) N0 qt_4).mono ?_
  rintro e_t_4 wt_4 ⟨rfl, bt_4⟩
  have HBwt_4 := Lib.hid (Below.step HB.out bt_4)
  clear bt_4
  replace H := let_hid H
  obtain ⟨t_7, ht_7, H⟩ := H
  cases t_7 with
  | false =>
    replace H := ite_f H
    replace H := bind_hid H
    obtain ⟨t_10, qt_10, H⟩ := H
    go_wp2_with fail
    go_at_call 18
    refine (Go.Proofs.Ytgimcnpkngpmiaa.GlToPostmarkS.C (aList) A0 c0 _   (Lib.hid (Cells.below M0.out HBwt_4.out)) N0 qt_10).mono ?_
    rintro e_t_10 wt_10 ⟨At_10, ct_10, rfl, ot_10, bt_10⟩
    have Ot_10 := Lib.hid (own_lower ot_10 HBwt_4.out.size)
    clear ot_10
    have HBwt_10 := Lib.hid (Below.step HBwt_4.out bt_10)
    clear bt_10
    replace H := bind2_hid H
    obtain ⟨t_13a, t_13b, qt_13, H⟩ := H
    go_wp2_with fail
    go_at_call 23
    refine (Go.Proofs.Ytgimcnpkngpmiaa.GsLoseLetter.C fuel (t_10) (aId) (aPlace) At_10 ct_10 _   (Lib.hid (own_cells Ot_10.out)) (Lib.hid (own_max Ot_10.out)) (Lib.hid (own_room Ot_10.out)) qt_13).mono ?_
    rintro e_t_13 wt_13 ⟨At_13a, ct_13a, rfl, ot_13a, bt_13⟩
    have Dt_13a_t_10 := Lib.hid (apart_call ot_13a Ot_10.out)
    have Ot_13a := Lib.hid (own_lower ot_13a HBwt_10.out.size)
    clear ot_13a
    have HBwt_13 := Lib.hid (Below.step HBwt_10.out bt_13)
    replace Ot_10 := Lib.hid (own_below Ot_10.out bt_13)
    clear bt_13
    replace H := bind_hid H
    obtain ⟨t_20, qt_20, H⟩ := H
    go_wp2_with fail
    go_at_call 18
    refine (Go.Proofs.Ytgimcnpkngpmiaa.GlToPostmarkS.C (aList) A0 c0 _   (Lib.hid (Cells.below M0.out HBwt_13.out)) N0 qt_20).mono ?_
    rintro e_t_20 wt_20 ⟨At_20, ct_20, rfl, ot_20, bt_20⟩
    have Dt_20_t_10 := Lib.hid (apart_call ot_20 Ot_10.out)
    have Dt_20_t_13a := Lib.hid (apart_call ot_20 Ot_13a.out)
    have Ot_20 := Lib.hid (own_lower ot_20 HBwt_13.out.size)
    clear ot_20
    have HBwt_20 := Lib.hid (Below.step HBwt_13.out bt_20)
    replace Ot_10 := Lib.hid (own_below Ot_10.out bt_20)
    replace Ot_13a := Lib.hid (own_below Ot_13a.out bt_20)
    clear bt_20
    replace H := bind2_hid H
    obtain ⟨t_25a, t_25b, qt_25, H⟩ := H
    go_wp2_with fail
    go_at_call 24
    refine (Go.Proofs.Ytgimcnpkngpmiaa.GiLoseLetter.C (t_20) (aId) (aPlace) At_20 ct_20 _   (Lib.hid (own_cells Ot_20.out)) (Lib.hid (own_max Ot_20.out)) (Lib.hid (own_room Ot_20.out)) qt_25).mono ?_
    rintro e_t_25 wt_25 ⟨At_25a, ct_25a, rfl, ot_25a, bt_25⟩
    have Dt_25a_t_10 := Lib.hid (apart_call ot_25a Ot_10.out)
    have Dt_25a_t_13a := Lib.hid (apart_call ot_25a Ot_13a.out)
    have Dt_25a_t_20 := Lib.hid (apart_call ot_25a Ot_20.out)
    have Ot_25a := Lib.hid (own_lower ot_25a HBwt_20.out.size)
    clear ot_25a
    have HBwt_25 := Lib.hid (Below.step HBwt_20.out bt_25)
    replace Ot_10 := Lib.hid (own_below Ot_10.out bt_25)
    replace Ot_13a := Lib.hid (own_below Ot_13a.out bt_25)
    replace Ot_20 := Lib.hid (own_below Ot_20.out bt_25)
    clear bt_25
    replace H := bind_hid H
    obtain ⟨t_33, qt_33, H⟩ := H
    go_wp2_with fail
    go_at_call 20
    refine (Go.Proofs.Ytgimcnpkngpmiaa.GlEqPostmarkS.C (t_25a) (t_13a) At_25a ct_25a At_13a ct_13a _   (Lib.hid (own_cells Ot_25a.out)) (Lib.hid (own_max Ot_25a.out)) (Lib.hid (own_cells Ot_13a.out)) (Lib.hid (own_max Ot_13a.out)) qt_33).mono ?_
    rintro e_t_33 wt_33 ⟨rfl, bt_33⟩
    have HBwt_33 := Lib.hid (Below.step HBwt_25.out bt_33)
    replace Ot_10 := Lib.hid (own_below Ot_10.out bt_33)
    replace Ot_13a := Lib.hid (own_below Ot_13a.out bt_33)
    replace Ot_20 := Lib.hid (own_below Ot_20.out bt_33)
    replace Ot_25a := Lib.hid (own_below Ot_25a.out bt_33)
    clear bt_33
    cases t_33 with
    | false =>
      replace H := let_hid H
      obtain ⟨t_34, ht_34, H⟩ := H
      obtain rfl : t_34 = true := ht_34.symm
      replace H := join_hid H
      replace H := ite_t H
      replace H := app_hid H
      replace H := ite_t H
      obtain rfl := ret_hid H
      go_wp2_with fail
      go_ret
      exact ⟨rfl, HBwt_33.out⟩
    | true =>
      replace H := let_hid H
      obtain ⟨t_34, ht_34, H⟩ := H
      obtain rfl : t_34 = false := ht_34.symm
      replace H := join_hid H
      replace H := ite_f H
      replace H := let_hid H
      obtain ⟨t_38, ht_38, H⟩ := H
      replace H := app_hid H
      cases t_38 with
      | false =>
        replace H := ite_f H
        replace H := bind_hid H
        obtain ⟨t_43, qt_43, H⟩ := H
        go_wp2_with fail
        go_at_call 18
        refine (Go.Proofs.Ytgimcnpkngpmiaa.GlToPostmarkS.C (aList) A0 c0 _   (Lib.hid (Cells.below M0.out HBwt_33.out)) N0 qt_43).mono ?_
        rintro e_t_43 wt_43 ⟨At_43, ct_43, rfl, ot_43, bt_43⟩
        have Dt_43_t_10 := Lib.hid (apart_call ot_43 Ot_10.out)
        have Dt_43_t_13a := Lib.hid (apart_call ot_43 Ot_13a.out)
        have Dt_43_t_20 := Lib.hid (apart_call ot_43 Ot_20.out)
        have Dt_43_t_25a := Lib.hid (apart_call ot_43 Ot_25a.out)
        have Ot_43 := Lib.hid (own_lower ot_43 HBwt_33.out.size)
        clear ot_43
        have HBwt_43 := Lib.hid (Below.step HBwt_33.out bt_43)
        replace Ot_10 := Lib.hid (own_below Ot_10.out bt_43)
        replace Ot_13a := Lib.hid (own_below Ot_13a.out bt_43)
        replace Ot_20 := Lib.hid (own_below Ot_20.out bt_43)
        replace Ot_25a := Lib.hid (own_below Ot_25a.out bt_43)
        clear bt_43
        replace H := bind_hid H
        obtain ⟨t_44, qt_44, H⟩ := H
        go_wp2_with fail
        go_at_call 20
        refine (Go.Proofs.Ytgimcnpkngpmiaa.GlEqPostmarkS.C (t_20) (t_43) At_20 ct_20 At_43 ct_43 _   (Lib.hid (own_cells Ot_20.out)) (Lib.hid (own_max Ot_20.out)) (Lib.hid (own_cells Ot_43.out)) (Lib.hid (own_max Ot_43.out)) qt_44).mono ?_
        rintro e_t_44 wt_44 ⟨rfl, bt_44⟩
        have HBwt_44 := Lib.hid (Below.step HBwt_43.out bt_44)
        replace Ot_10 := Lib.hid (own_below Ot_10.out bt_44)
        replace Ot_13a := Lib.hid (own_below Ot_13a.out bt_44)
        replace Ot_20 := Lib.hid (own_below Ot_20.out bt_44)
        replace Ot_25a := Lib.hid (own_below Ot_25a.out bt_44)
        replace Ot_43 := Lib.hid (own_below Ot_43.out bt_44)
        clear bt_44
        cases t_44 with
        | false =>
          replace H := let_hid H
          obtain ⟨t_45, ht_45, H⟩ := H
          obtain rfl : t_45 = true := ht_45.symm
          replace H := ite_t H
          obtain rfl := ret_hid H
          go_wp2_with fail
          go_ret
          exact ⟨rfl, HBwt_44.out⟩
        | true =>
          replace H := let_hid H
          obtain ⟨t_45, ht_45, H⟩ := H
          obtain rfl : t_45 = false := ht_45.symm
          replace H := ite_f H
          replace H := bind2_hid H
          obtain ⟨t_50, lt_50, qt_50, H⟩ := H
          go_wp2_with fail
          go_at_call 25
          refine (Go.Proofs.Ytgimcnpkngpmiaa.GlMarkPostmarkS.C (t_20) (1) At_20 ct_20 w.heap.size _   Ot_20 (Lib.hid (own_max Ot_20.out))   qt_50).mono ?_
          rintro e_t_50 wt_50 ⟨rfl, ot_50, nt_50, gt_50⟩
          have Pt_50 := Lib.hid ot_50
          have Gt_50 := Lib.hid gt_50
          replace nt_50 := Lib.hid nt_50
          clear ot_50 gt_50
          have HBwt_50 := Lib.hid (HBwt_44.out.grown Gt_50.out HBwt_44.out.size (fun q hq => (Ot_20.out.lt q hq).1))
          replace Ot_10 := Lib.hid (own_other Ot_10.out Gt_50.out Dt_20_t_10.out)
          replace Ot_13a := Lib.hid (own_other Ot_13a.out Gt_50.out Dt_20_t_13a.out)
          replace Ot_25a := Lib.hid (own_other Ot_25a.out Gt_50.out (Apart.symm Dt_25a_t_20.out))
          replace Ot_43 := Lib.hid (own_other Ot_43.out Gt_50.out (Apart.symm Dt_43_t_20.out))
          clear Ot_20 Gt_50
          replace H := let_hid H
          obtain ⟨t_53, ht_53, H⟩ := H
          replace H := join_hid H
          cases t_53 with
          | false =>
            replace H := ite_f H
            replace H := bind_hid H
            obtain ⟨t_57, qt_57, H⟩ := H
            go_wp2_with fail
            go_at_call 20
            refine (Go.Proofs.Ytgimcnpkngpmiaa.GlEqPostmarkS.C (t_25a) (t_13a) At_25a ct_25a At_13a ct_13a _   (Lib.hid (own_cells Ot_25a.out)) (Lib.hid (own_max Ot_25a.out)) (Lib.hid (own_cells Ot_13a.out)) (Lib.hid (own_max Ot_13a.out)) qt_57).mono ?_
            rintro e_t_57 wt_57 ⟨rfl, bt_57⟩
            have HBwt_57 := Lib.hid (Below.step HBwt_50.out bt_57)
            replace Ot_10 := Lib.hid (own_below Ot_10.out bt_57)
            replace Ot_13a := Lib.hid (own_below Ot_13a.out bt_57)
            replace Pt_50 := Lib.hid (own_below Pt_50.out bt_57)
            replace Ot_25a := Lib.hid (own_below Ot_25a.out bt_57)
            replace Ot_43 := Lib.hid (own_below Ot_43.out bt_57)
            clear bt_57
            cases t_57 with
            | false =>
              replace H := let_hid H
              obtain ⟨t_58, ht_58, H⟩ := H
              obtain rfl : t_58 = true := ht_58.symm
              replace H := app_hid H
              replace H := join_hid H
              replace H := ite_t H
              replace H := app_hid H
              replace H := ite_t H
              obtain rfl := ret_hid H
              go_wp2_with fail
              go_ret
              exact ⟨rfl, HBwt_57.out⟩
            | true =>
              replace H := let_hid H
              obtain ⟨t_58, ht_58, H⟩ := H
              obtain rfl : t_58 = false := ht_58.symm
              replace H := app_hid H
              replace H := join_hid H
              replace H := ite_f H
              replace H := let_hid H
              obtain ⟨t_63, ht_63, H⟩ := H
              obtain rfl := ht_38.symm.trans ht_63
              replace H := app_hid H
              replace H := ite_f H
              replace H := bind2_hid H
              obtain ⟨t_69, lt_69, qt_69, H⟩ := H
              go_wp2_with fail
              go_at_call 25
              refine (Go.Proofs.Ytgimcnpkngpmiaa.GlMarkPostmarkS.C (t_25a) (1) At_25a ct_25a w.heap.size _   Ot_25a (Lib.hid (own_max Ot_25a.out))   qt_69).mono ?_
              rintro e_t_69 wt_69 ⟨rfl, ot_69, nt_69, gt_69⟩
              have Pt_69 := Lib.hid ot_69
              have Gt_69 := Lib.hid gt_69
              replace nt_69 := Lib.hid nt_69
              clear ot_69 gt_69
              have HBwt_69 := Lib.hid (HBwt_57.out.grown Gt_69.out HBwt_57.out.size (fun q hq => (Ot_25a.out.lt q hq).1))
              replace Ot_10 := Lib.hid (own_other Ot_10.out Gt_69.out Dt_25a_t_10.out)
              replace Ot_13a := Lib.hid (own_other Ot_13a.out Gt_69.out Dt_25a_t_13a.out)
              replace Pt_50 := Lib.hid (own_other Pt_50.out Gt_69.out Dt_25a_t_20.out)
              replace Ot_43 := Lib.hid (own_other Ot_43.out Gt_69.out (Apart.symm Dt_43_t_25a.out))
              clear Ot_25a Gt_69
              replace H := bind_hid H
              obtain ⟨t_74, qt_74, H⟩ := H
              go_wp2_with fail
              have hc_ := nt_69.out
              have hv_ : (Value.slice At_25a t_25a.length ct_25a : Value) = Value.slice At_25a lt_69.length ct_25a := by rw [hc_]
              try rw [hv_]
              replace Pt_69 := Lib.hid (own_len hc_ Pt_69.out)
              clear hc_ hv_
              go_wp2_with fail
              go_at_call 26
              refine (Go.Proofs.Ytgimcnpkngpmiaa.GlHeldPostmarkS.C (lt_69) (1) At_25a ct_25a _   (Lib.hid (own_cells Pt_69.out)) (Lib.hid (own_max Pt_69.out)) qt_74).mono ?_
              rintro e_t_74 wt_74 ⟨rfl, bt_74⟩
              have HBwt_74 := Lib.hid (Below.step HBwt_69.out bt_74)
              replace Ot_10 := Lib.hid (own_below Ot_10.out bt_74)
              replace Ot_13a := Lib.hid (own_below Ot_13a.out bt_74)
              replace Pt_50 := Lib.hid (own_below Pt_50.out bt_74)
              replace Pt_69 := Lib.hid (own_below Pt_69.out bt_74)
              replace Ot_43 := Lib.hid (own_below Ot_43.out bt_74)
              clear bt_74
              replace H := let_hid H
              obtain ⟨t_77, ht_77, H⟩ := H
              cases t_77 with
              | false =>
                replace H := ite_f H
                replace H := let_hid H
                obtain ⟨t_81, ht_81, H⟩ := H
                cases t_81 with
                | false =>
                  replace H := ite_f H
                  replace H := bind_hid H
                  obtain ⟨t_84, qt_84, H⟩ := H
                  go_wp2_with fail
                  go_at_call 18
                  refine (Go.Proofs.Ytgimcnpkngpmiaa.GlToPostmarkS.C (aList) A0 c0 _   (Lib.hid (Cells.below M0.out HBwt_74.out)) N0 qt_84).mono ?_
                  rintro e_t_84 wt_84 ⟨At_84, ct_84, rfl, ot_84, bt_84⟩
                  have Dt_84_t_10 := Lib.hid (apart_call ot_84 Ot_10.out)
                  have Dt_84_t_13a := Lib.hid (apart_call ot_84 Ot_13a.out)
                  have Dt_84_t_20 := Lib.hid (apart_call ot_84 Pt_50.out)
                  have Dt_84_t_25a := Lib.hid (apart_call ot_84 Pt_69.out)
                  have Dt_84_t_43 := Lib.hid (apart_call ot_84 Ot_43.out)
                  have Ot_84 := Lib.hid (own_lower ot_84 HBwt_74.out.size)
                  clear ot_84
                  have HBwt_84 := Lib.hid (Below.step HBwt_74.out bt_84)
                  replace Ot_10 := Lib.hid (own_below Ot_10.out bt_84)
                  replace Ot_13a := Lib.hid (own_below Ot_13a.out bt_84)
                  replace Pt_50 := Lib.hid (own_below Pt_50.out bt_84)
                  replace Pt_69 := Lib.hid (own_below Pt_69.out bt_84)
                  replace Ot_43 := Lib.hid (own_below Ot_43.out bt_84)
                  clear bt_84
                  replace H := bind2_hid H
                  obtain ⟨t_87a, t_87b, qt_87, H⟩ := H
                  go_wp2_with fail
                  go_at_call 24
                  refine (Go.Proofs.Ytgimcnpkngpmiaa.GiLoseLetter.C (t_84) (aId) (aPlace) At_84 ct_84 _   (Lib.hid (own_cells Ot_84.out)) (Lib.hid (own_max Ot_84.out)) (Lib.hid (own_room Ot_84.out)) qt_87).mono ?_
                  rintro e_t_87 wt_87 ⟨At_87a, ct_87a, rfl, ot_87a, bt_87⟩
                  have Dt_87a_t_10 := Lib.hid (apart_call ot_87a Ot_10.out)
                  have Dt_87a_t_13a := Lib.hid (apart_call ot_87a Ot_13a.out)
                  have Dt_87a_t_20 := Lib.hid (apart_call ot_87a Pt_50.out)
                  have Dt_87a_t_25a := Lib.hid (apart_call ot_87a Pt_69.out)
                  have Dt_87a_t_43 := Lib.hid (apart_call ot_87a Ot_43.out)
                  have Dt_87a_t_84 := Lib.hid (apart_call ot_87a Ot_84.out)
                  have Ot_87a := Lib.hid (own_lower ot_87a HBwt_84.out.size)
                  clear ot_87a
                  have HBwt_87 := Lib.hid (Below.step HBwt_84.out bt_87)
                  replace Ot_10 := Lib.hid (own_below Ot_10.out bt_87)
                  replace Ot_13a := Lib.hid (own_below Ot_13a.out bt_87)
                  replace Pt_50 := Lib.hid (own_below Pt_50.out bt_87)
                  replace Pt_69 := Lib.hid (own_below Pt_69.out bt_87)
                  replace Ot_43 := Lib.hid (own_below Ot_43.out bt_87)
                  replace Ot_84 := Lib.hid (own_below Ot_84.out bt_87)
                  clear bt_87
                  replace H := bind_hid H
                  obtain ⟨t_95, qt_95, H⟩ := H
                  go_wp2_with fail
                  go_at_call 20
                  refine (Go.Proofs.Ytgimcnpkngpmiaa.GlEqPostmarkS.C (t_87a) (t_13a) At_87a ct_87a At_13a ct_13a _   (Lib.hid (own_cells Ot_87a.out)) (Lib.hid (own_max Ot_87a.out)) (Lib.hid (own_cells Ot_13a.out)) (Lib.hid (own_max Ot_13a.out)) qt_95).mono ?_
                  rintro e_t_95 wt_95 ⟨rfl, bt_95⟩
                  have HBwt_95 := Lib.hid (Below.step HBwt_87.out bt_95)
                  replace Ot_10 := Lib.hid (own_below Ot_10.out bt_95)
                  replace Ot_13a := Lib.hid (own_below Ot_13a.out bt_95)
                  replace Pt_50 := Lib.hid (own_below Pt_50.out bt_95)
                  replace Pt_69 := Lib.hid (own_below Pt_69.out bt_95)
                  replace Ot_43 := Lib.hid (own_below Ot_43.out bt_95)
                  replace Ot_84 := Lib.hid (own_below Ot_84.out bt_95)
                  replace Ot_87a := Lib.hid (own_below Ot_87a.out bt_95)
                  clear bt_95
                  cases t_95 with
                  | false =>
                    replace H := let_hid H
                    obtain ⟨t_96, ht_96, H⟩ := H
                    obtain rfl : t_96 = true := ht_96.symm
                    replace H := join_hid H
                    replace H := ite_t H
                    replace H := app_hid H
                    replace H := ite_t H
                    obtain rfl := ret_hid H
                    go_wp2_with fail
                    go_ret
                    exact ⟨rfl, HBwt_95.out⟩
                  | true =>
                    replace H := let_hid H
                    obtain ⟨t_96, ht_96, H⟩ := H
                    obtain rfl : t_96 = false := ht_96.symm
                    replace H := join_hid H
                    replace H := ite_f H
                    replace H := let_hid H
                    obtain ⟨t_100, ht_100, H⟩ := H
                    replace H := app_hid H
                    cases t_100 with
                    | false =>
                      replace H := ite_f H
                      replace H := bind_hid H
                      obtain ⟨t_106, qt_106, H⟩ := H
                      go_wp2_with fail
                      go_at_call 26
                      refine (Go.Proofs.Ytgimcnpkngpmiaa.GlHeldPostmarkS.C (lt_69) (1) At_25a ct_25a _   (Lib.hid (own_cells Pt_69.out)) (Lib.hid (own_max Pt_69.out)) qt_106).mono ?_
                      rintro e_t_106 wt_106 ⟨rfl, bt_106⟩
                      have HBwt_106 := Lib.hid (Below.step HBwt_95.out bt_106)
                      replace Ot_10 := Lib.hid (own_below Ot_10.out bt_106)
                      replace Ot_13a := Lib.hid (own_below Ot_13a.out bt_106)
                      replace Pt_50 := Lib.hid (own_below Pt_50.out bt_106)
                      replace Pt_69 := Lib.hid (own_below Pt_69.out bt_106)
                      replace Ot_43 := Lib.hid (own_below Ot_43.out bt_106)
                      replace Ot_84 := Lib.hid (own_below Ot_84.out bt_106)
                      replace Ot_87a := Lib.hid (own_below Ot_87a.out bt_106)
                      clear bt_106
                      replace H := let_hid H
                      obtain ⟨t_109, ht_109, H⟩ := H
                      cases t_109 with
                      | false =>
                        replace H := ite_f H
                        replace H := let_hid H
                        obtain ⟨t_113, ht_113, H⟩ := H
                        cases t_113 with
                        | false =>
                          replace H := ite_f H
                          obtain rfl := ret_hid H
                          go_wp2_with fail
                          go_ret
                          exact ⟨rfl, HBwt_106.out⟩
                        | true =>
                          replace H := ite_t H
                          obtain rfl := ret_hid H
                          go_wp2_with fail
                          go_ret
                          exact ⟨rfl, HBwt_106.out⟩
                      | true =>
                        replace H := ite_t H
                        obtain rfl := ret_hid H
                        go_wp2_with fail
                        go_ret
                        exact ⟨rfl, HBwt_106.out⟩
                    | true =>
                      replace H := ite_t H
                      obtain rfl := ret_hid H
                      go_wp2_with fail
                      go_ret
                      exact ⟨rfl, HBwt_95.out⟩
                | true =>
                  replace H := ite_t H
                  obtain rfl := ret_hid H
                  go_wp2_with fail
                  go_ret
                  exact ⟨rfl, HBwt_74.out⟩
              | true =>
                replace H := ite_t H
                obtain rfl := ret_hid H
                go_wp2_with fail
                go_ret
                exact ⟨rfl, HBwt_74.out⟩
          | true =>
            replace H := ite_t H
            replace H := app_hid H
            replace H := join_hid H
            replace H := ite_t H
            replace H := app_hid H
            replace H := ite_t H
            obtain rfl := ret_hid H
            go_wp2_with fail
            go_ret
            exact ⟨rfl, HBwt_50.out⟩
      | true =>
        replace H := ite_t H
        obtain rfl := ret_hid H
        go_wp2_with fail
        go_ret
        exact ⟨rfl, HBwt_33.out⟩
  | true =>
    replace H := ite_t H
    obtain rfl := ret_hid H
    go_wp2_with fail
    go_ret
    exact ⟨rfl, HBwt_4.out⟩
end Go.Proofs.Ytgimcnpkngpmiaa.GlFnExactLoseLetter

/- Chapter 11: postmarks: the plain functions of the program and of the reference agree, and the laws answer true. (Q11Lose) No condition but those of each theorem. -/
namespace Go.Proofs.Ytgimcnpkngpmiaa.Q11Lose
set_option linter.unusedVariables false
set_option linter.unusedSimpArgs false
open Go.RowKit
open Go.Proofs.Ytgimcnpkngpmiaa.GoP Go.Proofs.Ytgimcnpkngpmiaa.PlainStamp Go.Proofs.Ytgimcnpkngpmiaa.QBase Go.Proofs.Ytgimcnpkngpmiaa.Q11Extend Go.Proofs.Ytgimcnpkngpmiaa.Q11Show Go.Proofs.Ytgimcnpkngpmiaa.Q11Find Go.Proofs.Ytgimcnpkngpmiaa.QByte Go.Proofs.Ytgimcnpkngpmiaa.QCount Go.Proofs.Ytgimcnpkngpmiaa.QOrd Go.Proofs.Ytgimcnpkngpmiaa.Q11List Go.Proofs.Ytgimcnpkngpmiaa.Q11Mark Go.Proofs.Ytgimcnpkngpmiaa.QUp Go.Proofs.Ytgimcnpkngpmiaa.QLoop Go.Proofs.Ytgimcnpkngpmiaa.PPostmark

/-- the letter at a place is lost -/
def lostAt (x : Postmark) (q : Nat) : Postmark := ⟨x.id, x.town, x.kind_, x.first, x.last, bs (x.lost.toList.set q 120)⟩
def loseRes (l : List Postmark) (id place : Int) : List Postmark × Bool := if okPms l = true then (match fnd l id with | none => ([], false) | some (i, x) => if (inB place 0 ((x.lost.size : Int) - 1) && !(x.lost.toList.getD place.toNat 0 == 120) && okPm (lostAt x place.toNat)) = true then (l.set i (lostAt x place.toNat), true) else ([], false)) else ([], false)
theorem lostAt_size (x : Postmark) (q : Nat) : (lostAt x q).lost.size = x.lost.size := by
  unfold lostAt; dsimp only; rw [bs_size, List.length_set, toList_size]
theorem toI_set (l : List UInt8) (q : Nat) : (toI l).set q 120 = toI (l.set q 120) := by
  unfold toI; rw [List.map_set]; rfl
theorem toI_at {l : List UInt8} {q : Nat} {b : UInt8} (h : l[q]? = some b) : (toI l)[q]? = some (b.toNat : Int) := by
  unfold toI; rw [List.getElem?_map, h]; rfl
theorem lose_impl (l : List Postmark) (hf : ∀ s ∈ l, s.fits) (id place : Int) : GiLoseLetter.P l id place = some (loseRes l id place) := by
  simp only [GiLoseLetter.P, indexOf_eq l hf, Option.bind_some, letK, iteK_if, loseRes]
  cases hc : okPms l with
  | false => simp
  | true =>
    have h12 : l.length ≤ 12 := upL_len hc
    simp only [if_true]
    cases ha : fnd l id with
    | none => simp [(fnd_none ha).1]
    | some p =>
      obtain ⟨i, x⟩ := p
      obtain ⟨e1, hx, _, hil⟩ := fnd_some ha
      have hnx : ¬ ((i : Int) < 0) := by omega
      have hz := okPm_size (pms_mem hc (List.mem_of_getElem? hx))
      have hlen : (x.lost.toList.map fun b_ => (b_.toNat : Int)).length = x.lost.size := by rw [List.length_map, toList_size]
      have hw := wrap_in (x := (x.lost.size : Int) - 1) (by omega) (by omega)
      simp only [e1, decide_eq_false hnx, Bool.false_eq_true, if_false, idx_nat, hx, Option.bind_some, unPostmark]
      rw [guardK_pos (by omega)]
      simp only [hlen, hw, within_eq, Option.bind_some, joinK, appK]
      cases hp : inB place 0 ((x.lost.size : Int) - 1) with
      | false => simp
      | true =>
        have hp' := inB_of hp
        obtain ⟨q, rfl⟩ : ∃ q : Nat, place = (q : Int) := ⟨place.toNat, by omega⟩
        obtain ⟨b, hb, _⟩ := at_lt (l := x.lost.toList) (k := q) (by rw [toList_size]; omega)
        have hbI : idx (x.lost.toList.map fun b_ => (b_.toNat : Int)) (q : Int) = some (b.toNat : Int) := by rw [idx_nat]; exact toI_at hb
        have hgd : x.lost.toList.getD q 0 = b := by simp [List.getD, hb]
        have e120 : ((b.toNat : Int) == 120) = (b == 120) := byte_eq b 120
        simp only [hbI, Option.bind_some, e120, Bool.not_true, Bool.false_eq_true, if_false, Int.toNat_natCast, hgd, Bool.true_and]
        cases h120 : (b == 120) with
        | true => simp
        | false =>
          have hk : Go.Proofs.Ytgimcnpkngpmiaa.GoB.strK ((x.lost.toList.map fun b_ => (b_.toNat : Int)).set q 120) = bs (x.lost.toList.set q 120) := by
            rw [← strK_toI, ← toI_set]; rfl
          have hset : (l.set i (lostAt x q))[i]? = some (lostAt x q) := List.getElem?_set_self hil
          have hpm := isPostmark_eq (lostAt x q) (by rw [lostAt_size]; omega)
          have hst : (Postmark.mk x.id x.town x.kind_ x.first x.last (bs (x.lost.toList.set q 120))) = lostAt x q := rfl
          simp only [clone_eq (show l.length ≤ 1000000 by omega), hk, Option.bind_some, idx_nat, hx, hst, hset, Bool.not_false, Bool.true_and, Bool.false_eq_true, if_false]
          have hpm2 : GiIsPostmark.P (Postmark.mk (lostAt x q).id (lostAt x q).town (lostAt x q).kind_ (lostAt x q).first (lostAt x q).last (lostAt x q).lost) = some (okPm (lostAt x q)) := hpm
          rw [hpm2]
          cases okPm (lostAt x q) <;> simp
theorem upL_set {l : List Postmark} (hc : okPms l = true) {i : Nat} {x y : Postmark} (hx : l[i]? = some x) (hid : y.id = x.id) : okPms (l.set i y) = okPm y := by
  have hil := (List.getElem?_eq_some_iff.1 hx).1
  have hto : upTo okPm Postmark.id l l.length = true := by unfold okPms upL at hc; simp only [Bool.and_eq_true] at hc; exact hc.2
  have hlen : l.length ≤ 12 := upL_len hc
  have hys : (l.set i y)[i]? = some y := List.getElem?_set_self hil
  cases hy : okPm y with
  | false =>
    rw [Bool.eq_false_iff]
    intro h
    have := pms_mem h (List.mem_of_getElem? hys)
    rw [hy] at this; exact absurd this (by simp)
  | true =>
    have hid2 : ∀ (k : Nat) (z : Postmark), (l.set i y)[k]? = some z → ∃ u : Postmark, l[k]? = some u ∧ u.id = z.id ∧ (okPm u = true → okPm z = true) := by
      intro k z hz
      by_cases h : i = k
      · subst h
        rw [hys] at hz; obtain rfl := Option.some.inj hz
        exact ⟨x, hx, hid.symm, fun _ => hy⟩
      · rw [List.getElem?_set_ne h] at hz
        exact ⟨z, hz, rfl, id⟩
    unfold okPms upL
    rw [List.length_set, decide_eq_true hlen, Bool.true_and]
    unfold upTo
    rw [List.all_eq_true]
    intro k hk
    rw [List.mem_range] at hk
    have hak := upTo_at hto hk
    unfold upAt
    cases hz : (l.set i y)[k]? with
    | none => rfl
    | some z =>
      obtain ⟨u, hu, hiu, hou⟩ := hid2 k z hz
      have hok := pms_mem hc (List.mem_of_getElem? hu)
      simp only [hou hok, Bool.true_and]
      by_cases h0 : k = 0
      · simp [h0]
      · rw [decide_eq_false h0, Bool.false_or]
        cases hr : (l.set i y)[k - 1]? with
        | none => simp
        | some r =>
          obtain ⟨v, hv, hiv, _⟩ := hid2 (k - 1) r hr
          have := up_less hto (i := k - 1) (j := k) (by omega) hv hu
          simp only [decide_eq_true_eq]
          omega
theorem cut_set {l : List UInt8} {q : Nat} (h : q < l.length) : l.take q ++ [120] ++ l.drop (q + 1) = l.set q 120 := by
  rw [List.set_eq_take_append_cons_drop, if_pos h]; simp
theorem lose_spec (fuel : Nat) (hfu : 100 ≤ fuel) (l : List Postmark) (hf : ∀ s ∈ l, s.fits) (hl : l.length ≤ 9223372036854775807) (id place : Int) : GsLoseLetter.P fuel l id place = some (loseRes l id place) := by
  simp only [GsLoseLetter.P, l11Good_eq fuel hfu l hf hl, l11Find_eq, Option.bind_some, letK, joinK, appK, iteK_if, loseRes, List.nil_append]
  cases hc : okPms l with
  | false => simp
  | true =>
    have h12 : l.length ≤ 12 := upL_len hc
    cases ha : fnd l id with
    | none => simp [(fnd_none ha).1]
    | some p =>
      obtain ⟨i, x⟩ := p
      obtain ⟨e1, hx, _, hil⟩ := fnd_some ha
      have hnx : ¬ ((i : Int) < 0) := by omega
      have hz := okPm_size (pms_mem hc (List.mem_of_getElem? hx))
      have hw := wrap_in (x := (x.lost.size : Int) - 1) (by omega) (by omega)
      simp only [e1, decide_eq_false hnx, Bool.not_true, Bool.false_eq_true, if_false, if_true, idx_nat, hx, Option.bind_some, unPostmark, hw, l1In_eq]
      cases hp : inB place 0 ((x.lost.size : Int) - 1) with
      | false => simp
      | true =>
        have hp' := inB_of hp
        obtain ⟨q, rfl⟩ : ∃ q : Nat, place = (q : Int) := ⟨place.toNat, by omega⟩
        obtain ⟨b, hb, hbi⟩ := at_lt (l := x.lost.toList) (k := q) (by rw [toList_size]; omega)
        have hgd : x.lost.toList.getD q 0 = b := by simp [List.getD, hb]
        have e120 : ((b.toNat : Int) == 120) = (b == 120) := byte_eq b 120
        have hbi' : idx x.lost.toList (q : Int) = some b := hbi
        rw [idx_nat] at hbi'
        simp only [idx_nat, hbi', Option.bind_some, e120, Bool.not_true, Bool.false_eq_true, if_false, Int.toNat_natCast, hgd, Bool.true_and]
        cases h120 : (b == 120) with
        | true => simp
        | false =>
          have hw2 := wrap_in (x := (q : Int) + 1) (by omega) (by omega)
          have hone : (⟨#[120]⟩ : ByteArray).size = 1 := rfl
          have hs1 : x.lost.extract 0 q = bs (x.lost.toList.take q) := by
            have h1 := bs_cut x.lost.toList 0 q
            rw [bs_of] at h1; simpa using h1
          have hs2 : x.lost.extract (q + 1) x.lost.size = bs (x.lost.toList.drop (q + 1)) := by
            have h1 := bs_cut x.lost.toList (q + 1) x.lost.size
            rw [bs_of, List.take_of_length_le (by rw [toList_size]; exact Nat.le_refl _)] at h1; exact h1
          have hsum : bs (x.lost.toList.take q) ++ (⟨#[120]⟩ : ByteArray) ++ bs (x.lost.toList.drop (q + 1)) = bs (x.lost.toList.set q 120) := by
            rw [show (⟨#[120]⟩ : ByteArray) = bs [120] from rfl, bs_app, bs_app, cut_set (by rw [toList_size]; omega)]
          have hl1 : (bs (x.lost.toList.take q)).size ≤ 10 := by rw [bs_size, List.length_take, toList_size]; omega
          have hl2 : (bs (x.lost.toList.drop (q + 1))).size ≤ 10 := by rw [bs_size, List.length_drop, toList_size]; omega
          have hl3 : (bs (x.lost.toList.take q) ++ (⟨#[120]⟩ : ByteArray)).size ≤ 11 := by
            rw [show (⟨#[120]⟩ : ByteArray) = bs [120] from rfl, bs_app, bs_size, List.length_append, List.length_take, toList_size, List.length_singleton]; omega
          simp only [Bool.false_eq_true, if_false]
          rw [guardK_pos (by simp; omega), guardK_pos (by omega), hw2, show Int.toNat ((q : Int) + 1) = q + 1 by omega, hs1, hs2, hsum, guardK_pos (by rw [hone]; unfold maxLen; omega), guardK_pos (by omega), guardK_pos (by unfold maxLen; omega)]
          have hst : (Postmark.mk x.id x.town x.kind_ x.first x.last (bs (x.lost.toList.set q 120))) = lostAt x q := rfl
          have hfit : ∀ s ∈ l.set i (lostAt x q), s.fits := by
            intro s hs
            rcases List.mem_or_eq_of_mem_set hs with h | rfl
            · exact hf s h
            · obtain ⟨f1, f2, f3, f4, f5, f6⟩ := hf x (List.mem_of_getElem? hx)
              exact ⟨f1, f2, f3, f4, f5, by rw [lostAt_size]; exact f6⟩
          have hg := l11Good_eq fuel hfu (l.set i (lostAt x q)) hfit (by rw [List.length_set]; exact hl)
          rw [hst, hg, upL_set (y := lostAt x q) hc hx rfl]
          simp only [Option.bind_some, Bool.not_false, Bool.true_and]
          cases okPm (lostAt x q) <;> simp
theorem lose_len (l : List Postmark) (id place : Int) : (loseRes l id place).1.length ≤ 12 := by
  unfold loseRes
  split
  · rename_i hc
    have h12 : l.length ≤ 12 := upL_len hc
    split
    · simp
    · split
      · rw [List.length_set]; exact h12
      · simp
  · simp
end Go.Proofs.Ytgimcnpkngpmiaa.Q11Lose

/- Chapter 11: postmarks: the plain functions of the program and of the reference agree, and the laws answer true. (QL11Lose) No condition but those of each theorem. -/
namespace Go.Proofs.Ytgimcnpkngpmiaa.QL11Lose
set_option linter.unusedVariables false
set_option linter.unusedSimpArgs false
open Go.RowKit
open Go.Proofs.Ytgimcnpkngpmiaa.GoP Go.Proofs.Ytgimcnpkngpmiaa.PlainStamp Go.Proofs.Ytgimcnpkngpmiaa.QBase Go.Proofs.Ytgimcnpkngpmiaa.Q11Lose Go.Proofs.Ytgimcnpkngpmiaa.QLoop Go.Proofs.Ytgimcnpkngpmiaa.PPostmark Go.Proofs.Ytgimcnpkngpmiaa.QHPostmarkE Go.Proofs.Ytgimcnpkngpmiaa.QHPostmark Go.Proofs.Ytgimcnpkngpmiaa.QHeldPostmark

theorem law_lose (fuel : Nat) (hfu : 100 ≤ fuel) (l : List Postmark) (id place : Int) (hf : ∀ s ∈ l, s.fits) (hl : l.length ≤ 9223372036854775807) : GlFnExactLoseLetter.P fuel l id place = some true := by
  obtain ⟨v, hv, hn⟩ := szS l hf hl
  simp only [GlFnExactLoseLetter.P, hv, Option.bind_some, letK, iteK_if]
  by_cases hb : v < 0
  · rw [if_pos (by simp; omega)]
  · rw [if_neg (by simp; omega)]
    have hle := hn (by omega)
    obtain ⟨⟨a, b⟩, hr⟩ : ∃ x, x = loseRes l id place := ⟨_, rfl⟩
    have hlen := lose_len l id place
    rw [← hr] at hlen
    dsimp only at hlen
    obtain ⟨v2, l2, hm, hv2⟩ := markS l hle
    obtain ⟨v3, l3, hm3, hh3, hv3⟩ := markHeld a (by omega)
    have hv4 : ¬ v2 < 0 := by omega
    have hv5 : ¬ v3 < 0 := by omega
    simp [toS l hle, lose_spec fuel hfu l hf hl, lose_impl l hf, ← hr, bind2, joinK, appK, iteK_if, eqS, hm, hv4, hm3, hh3, hv5]
end Go.Proofs.Ytgimcnpkngpmiaa.QL11Lose

