/- The texts on which the proof of FnCombs stands, one behind the other (3 of 5). No condition of their own. -/
import Derived.Test.YtdgbigkcophjoaaDoorChecked
import Derived.Test.YtdgbigkcophjoaaDoorFnCombsP1
import Derived.Test.YtdgbigkcophjoaaDoorFnCombsP2
import Derived.WalkKit
import Derived.WalkSpells
import Derived.WalkLawsBesides
import Derived.BigQuiet
import Derived.OwnWalk
import Derived.Deep.LoopGhost
import Derived.Deep.QuietTactic
import Derived.IntWalk
import Derived.Lib.QuietBelow
import Derived.Lib.ItoaMem
import Derived.Lib.Hide
import Derived.Lib.ItoaLen
import Derived.Outline
import Derived.WalkSmall
/- loop.example/g01062/spec.MatchCombs as a plain function, and the contract of the program's: where the plain one has an answer, the program has it. Conditions: slices read as lists. -/
namespace Go.Proofs.YtdgbigkcophjoaaDoor.GsMatchCombs
set_option linter.unusedVariables false
set_option linter.unusedSimpArgs false
open Go.RowKit
open Go.Proofs.YtdgbigkcophjoaaDoor.Rowed Go.Proofs.YtdgbigkcophjoaaDoor.Turn Go.Proofs.YtdgbigkcophjoaaDoor.Aid Go.Proofs.YtdgbigkcophjoaaDoor.GoP Go.Proofs.YtdgbigkcophjoaaDoor.GoM

def l0 (list : (List Go.Proofs.YtdgbigkcophjoaaDoor.PComb.Comb)) (wide : Int) (high : Int) (off : Int) (k0 : Nat) (s : (List Int)) (nx0 bk0 : (List Int) → Option ((List Int) × Bool)) : Option ((List Int) × Bool) :=
  letK s fun out_10l0 =>
  Option.bind (idx list (k0 : Int)) fun (yt_20 : Go.Proofs.YtdgbigkcophjoaaDoor.PComb.Comb) =>
  unComb yt_20 fun (t_20_id : Int) (t_20_wide : Int) (t_20_high : Int) (t_20_line : Bool) =>
  Option.bind (Go.Proofs.YtdgbigkcophjoaaDoor.GsL5Match.P (Go.Proofs.YtdgbigkcophjoaaDoor.PComb.Comb.mk t_20_id t_20_wide t_20_high t_20_line) wide high off) fun (t_25 : Bool) =>
  iteK t_25
  (Option.bind (idx list (k0 : Int)) fun (yt_29 : Go.Proofs.YtdgbigkcophjoaaDoor.PComb.Comb) =>
  unComb yt_29 fun (t_29_id : Int) (t_29_wide : Int) (t_29_high : Int) (t_29_line : Bool) =>
  guardK (out_10l0.length ≤ 1099511627776) <|
  letK (out_10l0 ++ [t_29_id]) fun (t_33 : (List Int)) =>
  appK nx0 (t_33))
  (appK nx0 (out_10l0))

def e0  (s : (List Int)) : Option ((List Int) × Bool) :=
  letK s fun out_10l0 =>
  some (out_10l0, true)

def P (list : (List Go.Proofs.YtdgbigkcophjoaaDoor.PComb.Comb)) (wide : Int) (high : Int) (off : Int) : Option ((List Int) × Bool) :=
  Option.bind (Go.Proofs.YtdgbigkcophjoaaDoor.GsL5Asked.P list wide high off) fun (t_8 : Bool) =>
  letK (!t_8) fun (t_9 : Bool) =>
  iteK t_9
  (some (([] : List Int), false))
  (cntK (l0 list wide high off) (list.length) 0 (([] : List Int)) (e0 ))

set_option maxRecDepth 100000 in
set_option maxHeartbeats 2000000 in
theorem C (list : (List Go.Proofs.YtdgbigkcophjoaaDoor.PComb.Comb)) (wide : Int) (high : Int) (off : Int) (A0 : Option Addr) (c0 : Nat)  (w : World) (M0 : Hid (Cells w 4 A0 list.length (Go.Proofs.YtdgbigkcophjoaaDoor.PComb.flat list))) (N0 : Hid (list.length ≤ 9223372036854775807))  {r0 : (List Int)} {r1 : Bool} (H : Hid (P list wide high off = some (r0, r1))) :
    Calls Tryd.prog 7 #[.slice A0 list.length c0, .int .i64 wide, .int .i64 high, .int .i64 off] w (fun e w' => ∃ A_r0 c_r0, e = .returned (.tuple #[.slice A_r0 r0.length c_r0, .bool r1]) ∧ w'.ownsRow w.heap.size 3 1 (.slice A_r0 r0.length c_r0) r0.length (Go.Proofs.YtdgbigkcophjoaaDoor.HelpInt.iv r0) ∧ Below w.heap.size w w') := by
  have HB := Lib.hid (Below.refl w.heap.size w)
  unfold P at H
  have N0o := N0.out
  obtain ⟨i0_3, hi_3, hz0_3, hz1_3, hz2_3⟩ := Aid.info_parts (P := Tryd.prog) (T := 3) (z := .int .i64 0) (s := 1) (b := 8) (by kernel_rfl)
  go_enter Tryd.func7, Tryd.ntmps7
  obtain ⟨w_t_2, hw_t_2⟩ : ∃ x, w.alloc (.cells #[] 3) = x := ⟨_, rfl⟩
  have bw_t_2 : Below w.heap.size w w_t_2 := by rw [← hw_t_2]; exact (Below.refl _ _).alloc (Nat.le_refl _) _
  have Ot_2 : Hid (w_t_2.ownsRow w.heap.size 3 1 (.slice (some ⟨w.heap.size, 0, none⟩) 0 0) 0 []) := Lib.hid (by rw [← hw_t_2]; exact own_empty HB.out.size)
  have HBw_t_2 := Lib.hid (Below.step HB.out bw_t_2)
  clear bw_t_2
  replace H := bind_hid H
  obtain ⟨t_8, qt_8, H⟩ := H
  go_wp2_with fail
  go_at_call 33
  refine (Go.Proofs.YtdgbigkcophjoaaDoor.GsL5Asked.C (list) (wide) (high) (off) A0 c0 _   (Lib.hid (Cells.below M0.out HBw_t_2.out)) N0 qt_8).mono ?_
  rintro e_t_8 wt_8 ⟨rfl, bt_8⟩
  have HBwt_8 := Lib.hid (Below.step HBw_t_2.out bt_8)
  replace Ot_2 := Lib.hid (own_below Ot_2.out bt_8)
  clear bt_8
  cases t_8 with
  | false =>
    replace H := let_hid H
    obtain ⟨t_9, ht_9, H⟩ := H
    obtain rfl : t_9 = true := ht_9.symm
    replace H := ite_t H
    cases ret_hid H
    go_wp2_with fail
    go_ret2
    exact ⟨(some ⟨w.heap.size, 0, none⟩), 0, rfl, Ot_2.out, HBwt_8.out⟩
  | true =>
    replace H := let_hid H
    obtain ⟨t_9, ht_9, H⟩ := H
    obtain rfl : t_9 = false := ht_9.symm
    replace H := ite_f H
    go_wp2_with fail
    go_loopg [11, 10] (list.length) (fun m_ v11_ v10_ wr => ∃ (k0 : Nat) (out_10l0 : (List Int)) (Aout_10l0 : Option Addr) (cout_10l0 : Nat), k0 + m_ = list.length ∧ v11_ = .int .i64 (k0 : Int) ∧ v10_ = .slice Aout_10l0 out_10l0.length cout_10l0 ∧ Hid (cntK (l0 list wide high off) m_ k0 (out_10l0) (e0 ) = some (r0, r1)) ∧ Hid (Below w.heap.size w wr) ∧ Hid (wr.ownsRow w.heap.size 3 1 (.slice Aout_10l0 out_10l0.length cout_10l0) out_10l0.length (Go.Proofs.YtdgbigkcophjoaaDoor.HelpInt.iv out_10l0)))
    case atStart => exact ⟨0, _, _, _, by omega, rfl, rfl, H, HBwt_8, Ot_2⟩
    case round =>
      obtain ⟨k0, out_10l0, Aout_10l0, cout_10l0, hkm0, rfl, rfl, H, HBwr0, Oout_10l0⟩ := hrel
      rename World => wr0
      cases gk with
      | zero =>
        obtain rfl : k0 = list.length := by omega
        have hc0 : decide (((list.length : Nat) : Int) < ((list.length : Nat) : Int)) = false := by simp
        replace H := cnt_zero H
        unfold e0 at H
        replace H := let_hid H
        obtain ⟨_, rfl, H⟩ := H
        cases ret_hid H
        go_wp2_with fail
        go_ret2
        exact ⟨Aout_10l0, cout_10l0, rfl, Oout_10l0.out, HBwr0.out⟩
      | succ m0 =>
        have hlt0 : k0 < list.length := by omega
        have hc0 : decide ((k0 : Int) < ((list.length : Nat) : Int)) = true := by simp; omega
        replace H := cnt_succ H
        unfold l0 at H
        replace H := let_hid H
        obtain ⟨_, rfl, H⟩ := H
        replace H := idx_hid H
        obtain ⟨nt_20, yt_20, et_20, lt_20, gt_20, H⟩ := H
        obtain rfl : k0 = nt_20 := by omega
        clear et_20
        obtain ⟨t_20_id, t_20_wide, t_20_high, t_20_line⟩ := yt_20
        replace H := unComb_hid H
        obtain ⟨ab_t_20, ao_t_20, zt_20, At_20, z_t_20, ct_20_0, ct_20_1, ct_20_2, ct_20_3⟩ := Go.Proofs.YtdgbigkcophjoaaDoor.OComb.at_ M0.out lt_20
        obtain rfl := Option.some.inj (gt_20.out.symm.trans z_t_20)
        subst At_20
        have ltt_20 := cell_lt ct_20_0
        replace ct_20_0 := cell_below HBwr0.out ct_20_0
        replace ct_20_1 := cell_below HBwr0.out ct_20_1
        replace ct_20_2 := cell_below HBwr0.out ct_20_2
        replace ct_20_3 := cell_below HBwr0.out ct_20_3
        clear z_t_20
        have b0t_20 : (0 : Int) ≤ (k0 : Int) := by omega
        have b1t_20 : (k0 : Int) < ((list.length : Nat) : Int) := by omega
        have b2t_20 : ((k0 : Int)).toNat = k0 := by omega
        replace H := bind_hid H
        obtain ⟨t_25, qt_25, H⟩ := H
        go_wp2_with fail
        go_at_call 34
        refine (Go.Proofs.YtdgbigkcophjoaaDoor.GsL5Match.C ((Go.Proofs.YtdgbigkcophjoaaDoor.PComb.Comb.mk t_20_id t_20_wide t_20_high t_20_line)) (wide) (high) (off)  _    qt_25).mono ?_
        rintro e_t_25 wt_25 ⟨rfl, bt_25⟩
        have HBwt_25 := Lib.hid (Below.step HBwr0.out bt_25)
        replace ct_20_0 := cell_below bt_25 ct_20_0
        replace ct_20_1 := cell_below bt_25 ct_20_1
        replace ct_20_2 := cell_below bt_25 ct_20_2
        replace ct_20_3 := cell_below bt_25 ct_20_3
        replace Oout_10l0 := Lib.hid (own_below Oout_10l0.out bt_25)
        clear bt_25
        cases t_25 with
        | false =>
          replace H := ite_f H
          replace H := app_hid H
          go_wp2_with fail
          go_roundg m0
          case measure => omega
          case rel => exact ⟨k0 + 1, _, _, _, by omega, by go_num, rfl, H, HBwt_25, Oout_10l0⟩
        | true =>
          replace H := ite_t H
          replace H := idx_hid H
          obtain ⟨nt_29, yt_29, et_29, lt_29, gt_29, H⟩ := H
          obtain rfl : k0 = nt_29 := by omega
          clear et_29
          obtain rfl := Option.some.inj (gt_20.out.symm.trans gt_29.out)
          clear gt_29 lt_29
          replace H := unComb_hid H
          obtain ⟨w_t_32, hw_t_32⟩ : ∃ x, wt_25.alloc (.cells #[.int .i64 t_20_id] 3) = x := ⟨_, rfl⟩
          have bw_t_32 : Below wt_25.heap.size wt_25 w_t_32 := by rw [← hw_t_32]; exact (Below.refl _ _).alloc (Nat.le_refl _) _
          have HBw_t_32 := Lib.hid (Below.step HBwt_25.out bw_t_32)
          have ct_20_0__211 := cell_below bw_t_32 ct_20_0
          have ct_20_1__212 := cell_below bw_t_32 ct_20_1
          have ct_20_2__213 := cell_below bw_t_32 ct_20_2
          have ct_20_3__214 := cell_below bw_t_32 ct_20_3
          replace Oout_10l0 := Lib.hid (own_below Oout_10l0.out bw_t_32)
          clear bw_t_32
          replace H := guard_hid H
          obtain ⟨hlt_33, H⟩ := H
          replace H := let_hid H
          obtain ⟨t_33, ht_33, H⟩ := H
          have hht_33 := Lib.hid ht_33
          clear ht_33
          have hst_33 := HBw_t_32.out.size
          go_wp2_with (at_builtin; refine wpList_append_own_at _ rfl _ _ 27 rfl w.heap.size 3 i0_3 (.int .i64 0) 1 8 Tryd.underlying27 hi_3 hz0_3 hz1_3 hz2_3 rfl (by decide) _ _ _ rfl Oout_10l0.out ⟨wt_25.heap.size, 0, none⟩ 1 1 [.int .i64 t_20_id] rfl rfl (news_new hw_t_32) (one_cells rfl) (by unfold maxLen; omega) (by omega) hst_33 ?_; intro vt_33 wt_33 ot_33 gt_33 zt_33 yt_33; clear zt_33; obtain ⟨qt_33, ct_33, rfl, pt_33⟩ := own_push hht_33.out (Go.Proofs.YtdgbigkcophjoaaDoor.HelpInt.iv_snoc _ _) rfl ot_33; have Pt_33 := Lib.hid pt_33; have Yt_33 := Lib.hid yt_33; have Gt_33 := Lib.hid gt_33; clear ot_33 gt_33 pt_33 yt_33; refine stop_in ?_)
          refine stop_out ?_
          have HBwt_33 := Lib.hid (HBw_t_32.out.grown Gt_33.out hst_33 (fun q hq => (Oout_10l0.out.lt q hq).1))
          clear hst_33
          replace ct_20_0__211 := cell_other ct_20_0__211 Gt_33.out (apart_old Oout_10l0.out ltt_20)
          replace ct_20_1__212 := cell_other ct_20_1__212 Gt_33.out (apart_old Oout_10l0.out ltt_20)
          replace ct_20_2__213 := cell_other ct_20_2__213 Gt_33.out (apart_old Oout_10l0.out ltt_20)
          replace ct_20_3__214 := cell_other ct_20_3__214 Gt_33.out (apart_old Oout_10l0.out ltt_20)
          clear ct_20_0 ct_20_1 ct_20_2 ct_20_3
          clear Oout_10l0 Yt_33 Gt_33
          replace H := app_hid H
          go_wp2_with fail
          go_roundg m0
          case measure => omega
          case rel => exact ⟨k0 + 1, _, _, _, by omega, by go_num, rfl, H, HBwt_33, Pt_33⟩
end Go.Proofs.YtdgbigkcophjoaaDoor.GsMatchCombs

/- loop.example/g01062/laws.rInts as a plain function, and the contract of the program's: where the plain one has an answer, the program has it. Conditions: slices read as lists. -/
namespace Go.Proofs.YtdgbigkcophjoaaDoor.GlRInts
set_option linter.unusedVariables false
set_option linter.unusedSimpArgs false
open Go.RowKit
open Go.Proofs.YtdgbigkcophjoaaDoor.Rowed Go.Proofs.YtdgbigkcophjoaaDoor.Turn Go.Proofs.YtdgbigkcophjoaaDoor.Aid Go.Proofs.YtdgbigkcophjoaaDoor.GoP Go.Proofs.YtdgbigkcophjoaaDoor.GoM

def l0 (a : (List Int)) (b : (List Int)) (k0 : Nat) (s : Unit) (nx0 bk0 : Unit → Option (Bool)) : Option (Bool) :=
  
  Option.bind (idx a (k0 : Int)) fun (yt_14 : Int) =>
  Option.bind (idx b (k0 : Int)) fun (yt_18 : Int) =>
  letK (yt_14 != yt_18) fun (t_20 : Bool) =>
  iteK t_20
  (some false)
  (appK nx0 ())

def e0  (s : Unit) : Option (Bool) :=
  
  some true

def P (a : (List Int)) (b : (List Int)) : Option (Bool) :=
  letK ((a.length : Int) != (b.length : Int)) fun (t_5 : Bool) =>
  iteK t_5
  (some false)
  (cntK (l0 a b) (a.length) 0 () (e0 ))

set_option maxRecDepth 100000 in
set_option maxHeartbeats 2000000 in
theorem C (a : (List Int)) (b : (List Int)) (A0 : Option Addr) (c0 : Nat) (A1 : Option Addr) (c1 : Nat)  (w : World) (M0 : Hid (Cells w 1 A0 a.length (Go.Proofs.YtdgbigkcophjoaaDoor.HelpInt.iv a))) (N0 : Hid (a.length ≤ 9223372036854775807)) (M1 : Hid (Cells w 1 A1 b.length (Go.Proofs.YtdgbigkcophjoaaDoor.HelpInt.iv b))) (N1 : Hid (b.length ≤ 9223372036854775807))  {r : Bool} (H : Hid (P a b = some r)) :
    Calls Tryd.prog 8 #[.slice A0 a.length c0, .slice A1 b.length c1] w (Gives (.bool r) w) := by
  have HB := Lib.hid (Below.refl w.heap.size w)
  unfold P at H
  have N0o := N0.out
  have N1o := N1.out
  go_enter Tryd.func8, Tryd.ntmps8
  replace H := let_hid H
  obtain ⟨t_5, ht_5, H⟩ := H
  cases t_5 with
  | false =>
    have Hht_5 : Hid (a.length = b.length) := Lib.hid (by have := bne_eq_false_iff_eq.1 ht_5; omega)
    have nht_5 : (a.length == b.length) = true := beq_iff_eq.2 Hht_5.out
    replace H := ite_f H
    go_wp2_with fail
    go_loopg [5] (a.length) (fun m_ v5_ wr => ∃ (k0 : Nat) , k0 + m_ = a.length ∧ v5_ = .int .i64 (k0 : Int) ∧ Hid (cntK (l0 a b) m_ k0 () (e0 ) = some r) ∧ Hid (Below w.heap.size w wr))
    case atStart => exact ⟨0, by omega, rfl, H, HB⟩
    case round =>
      obtain ⟨k0, hkm0, rfl, H, HBwr0⟩ := hrel
      rename World => wr0
      cases gk with
      | zero =>
        obtain rfl : k0 = a.length := by omega
        have hc0 : decide (((a.length : Nat) : Int) < ((a.length : Nat) : Int)) = false := by simp
        replace H := cnt_zero H
        unfold e0 at H
        obtain rfl := ret_hid H
        go_wp2_with fail
        go_ret
        exact ⟨rfl, HBwr0.out⟩
      | succ m0 =>
        have hlt0 : k0 < a.length := by omega
        have hc0 : decide ((k0 : Int) < ((a.length : Nat) : Int)) = true := by simp; omega
        replace H := cnt_succ H
        unfold l0 at H
        go_wp2_with fail
        replace H := idx_hid H
        obtain ⟨nt_14, yt_14, et_14, lt_14, gt_14, H⟩ := H
        obtain rfl : k0 = nt_14 := by omega
        clear et_14
        obtain ⟨ab_t_14, ao_t_14, zt_14, At_14, z_t_14, ct_14_0⟩ := Go.Proofs.YtdgbigkcophjoaaDoor.HelpInt.Ints.at_ M0.out lt_14
        obtain rfl := Option.some.inj (gt_14.out.symm.trans z_t_14)
        subst At_14
        have ltt_14 := cell_lt ct_14_0
        replace ct_14_0 := cell_below HBwr0.out ct_14_0
        clear z_t_14
        have b0t_14 : (0 : Int) ≤ (k0 : Int) := by omega
        have b1t_14 : (k0 : Int) < ((a.length : Nat) : Int) := by omega
        have b2t_14 : ((k0 : Int)).toNat = k0 := by omega
        have Hct_14_0 := Lib.hid ct_14_0
        replace ct_14_0 := cell_regrown ct_14_0
        replace H := idx_hid H
        obtain ⟨nt_18, yt_18, et_18, lt_18, gt_18, H⟩ := H
        obtain rfl : k0 = nt_18 := by omega
        clear et_18
        obtain ⟨ab_t_18, ao_t_18, zt_18, At_18, z_t_18, ct_18_0⟩ := Go.Proofs.YtdgbigkcophjoaaDoor.HelpInt.Ints.at_ M1.out lt_18
        obtain rfl := Option.some.inj (gt_18.out.symm.trans z_t_18)
        subst At_18
        have ltt_18 := cell_lt ct_18_0
        replace ct_18_0 := cell_below HBwr0.out ct_18_0
        clear z_t_18
        have b0t_18 : (0 : Int) ≤ (k0 : Int) := by omega
        have b1t_18 : (k0 : Int) < ((b.length : Nat) : Int) := by omega
        have b2t_18 : ((k0 : Int)).toNat = k0 := by omega
        have Hct_18_0 := Lib.hid ct_18_0
        replace ct_18_0 := cell_regrown ct_18_0
        replace H := let_hid H
        obtain ⟨t_20, ht_20, H⟩ := H
        refine wp_region_quiet_below (by kernel_rfl) (by kernel_rfl) ?_
        repeat (go_big_quiet_step (fail))
        refine wpQuiet_nil ?_
        intro Y6 hY6
        replace hY6 := below_class hY6
        replace ct_14_0 := Hct_14_0.out
        clear Hct_14_0
        replace ct_18_0 := Hct_18_0.out
        clear Hct_18_0
        have HBY6 := Lib.hid (Below.step HBwr0.out hY6)
        replace ct_14_0 := cell_below hY6 ct_14_0
        replace ct_18_0 := cell_below hY6 ct_18_0
        clear hY6
        cases t_20 with
        | false =>
          replace H := ite_f H
          replace H := app_hid H
          go_wp2_with fail
          go_roundg m0
          case measure => omega
          case rel => exact ⟨k0 + 1, by omega, by go_num, H, HBY6⟩
        | true =>
          replace H := ite_t H
          obtain rfl := ret_hid H
          go_wp2_with fail
          go_ret
          exact ⟨rfl, HBY6.out⟩
  | true =>
    have nht_5 : ¬ (a.length = b.length) := by have := bne_iff_ne.1 ht_5; omega
    replace H := ite_t H
    obtain rfl := ret_hid H
    go_wp2_with fail
    go_ret
    exact ⟨rfl, HB.out⟩
end Go.Proofs.YtdgbigkcophjoaaDoor.GlRInts

/- loop.example/g01062/impl.TurnedCombs$1 as a plain function, and the contract of the program's: where the plain one has an answer, the program has it. Conditions: slices read as lists. -/
namespace Go.Proofs.YtdgbigkcophjoaaDoor.GiTurnedCombs1
set_option linter.unusedVariables false
set_option linter.unusedSimpArgs false
open Go.RowKit
open Go.Proofs.YtdgbigkcophjoaaDoor.Rowed Go.Proofs.YtdgbigkcophjoaaDoor.Turn Go.Proofs.YtdgbigkcophjoaaDoor.Aid Go.Proofs.YtdgbigkcophjoaaDoor.GoP Go.Proofs.YtdgbigkcophjoaaDoor.GoM

def P (x : Go.Proofs.YtdgbigkcophjoaaDoor.PComb.Comb) (hq0 : Int) (hq1 : Int) (hq2 : Int) : Option (Bool) :=
  unComb x fun (x_id : Int) (x_wide : Int) (x_high : Int) (x_line : Bool) =>
  Option.bind (Go.Proofs.YtdgbigkcophjoaaDoor.GiMatches.P (Go.Proofs.YtdgbigkcophjoaaDoor.PComb.Comb.mk x_id x_wide x_high x_line) hq0 hq1 hq2) fun (t_6 : Bool) =>
  letK (!t_6) fun (t_7 : Bool) =>
  joinK (fun (t_14 : Bool) =>
  some t_14) fun jt_14 => iteK t_7 (Option.bind (Go.Proofs.YtdgbigkcophjoaaDoor.GiMatches.P (Go.Proofs.YtdgbigkcophjoaaDoor.PComb.Comb.mk x_id x_wide x_high x_line) hq1 hq0 hq2) fun (t_13 : Bool) =>
  appK jt_14 t_13) (appK jt_14 false)

set_option maxRecDepth 100000 in
set_option maxHeartbeats 2000000 in
theorem C (x : Go.Proofs.YtdgbigkcophjoaaDoor.PComb.Comb) (hq0 : Int) (hq1 : Int) (hq2 : Int)  (gq0 : Nat) (gq1 : Nat) (gq2 : Nat) (w : World)  (Fq0h : Hid (w.cell? ⟨gq0, 0, none⟩ = some (.int .i64 hq0))) (Fq1h : Hid (w.cell? ⟨gq1, 0, none⟩ = some (.int .i64 hq1))) (Fq2h : Hid (w.cell? ⟨gq2, 0, none⟩ = some (.int .i64 hq2))) {r : Bool} (H : Hid (P x hq0 hq1 hq2 = some r)) :
    Calls Tryd.prog 35 #[x.val, .pointer (some ⟨gq0, 0, none⟩), .pointer (some ⟨gq1, 0, none⟩), .pointer (some ⟨gq2, 0, none⟩)] w (Gives (.bool r) w) := by
  have HB := Lib.hid (Below.refl w.heap.size w)
  unfold P at H
  obtain ⟨x_id, x_wide, x_high, x_line⟩ := x
  replace H := unComb_hid H
  unfold Go.Proofs.YtdgbigkcophjoaaDoor.PComb.Comb.val
  have Fq0 := Fq0h.out
  have Fq1 := Fq1h.out
  have Fq2 := Fq2h.out
  go_enter Tryd.func35, Tryd.ntmps35
  obtain ⟨w_x_0, hw_x_0⟩ : ∃ x, w.alloc (.cells #[.int .i64 x_id, .int .i64 x_wide, .int .i64 x_high, .bool x_line] 32) = x := ⟨_, rfl⟩
  have bw_x_0 : Below w.heap.size w w_x_0 := by rw [← hw_x_0]; exact (Below.refl _ _).alloc (Nat.le_refl _) _
  have HBw_x_0 := Lib.hid (Below.step HB.out bw_x_0)
  have Fq0__215 := cell_below bw_x_0 Fq0
  have Fq1__216 := cell_below bw_x_0 Fq1
  have Fq2__217 := cell_below bw_x_0 Fq2
  clear bw_x_0
  have kx_0_0 : w_x_0.cell? ⟨w.heap.size, 0, none⟩ = some (.int .i64 x_id) := by rw [← hw_x_0]; exact box_new _ _ _ 0 _ rfl
  have kx_0_1 : w_x_0.cell? ⟨w.heap.size, 1, none⟩ = some (.int .i64 x_wide) := by rw [← hw_x_0]; exact box_new _ _ _ 1 _ rfl
  have kx_0_2 : w_x_0.cell? ⟨w.heap.size, 2, none⟩ = some (.int .i64 x_high) := by rw [← hw_x_0]; exact box_new _ _ _ 2 _ rfl
  have kx_0_3 : w_x_0.cell? ⟨w.heap.size, 3, none⟩ = some (.bool x_line) := by rw [← hw_x_0]; exact box_new _ _ _ 3 _ rfl
  replace H := bind_hid H
  obtain ⟨t_6, qt_6, H⟩ := H
  go_wp2_with fail
  clear Fq0 Fq1 Fq2
  go_at_call 32
  refine (Go.Proofs.YtdgbigkcophjoaaDoor.GiMatches.C ((Go.Proofs.YtdgbigkcophjoaaDoor.PComb.Comb.mk x_id x_wide x_high x_line)) (hq0) (hq1) (hq2)  _    qt_6).mono ?_
  rintro e_t_6 wt_6 ⟨rfl, bt_6⟩
  have HBwt_6 := Lib.hid (Below.step HBw_x_0.out bt_6)
  replace Fq0__215 := cell_below bt_6 Fq0__215
  replace Fq1__216 := cell_below bt_6 Fq1__216
  replace Fq2__217 := cell_below bt_6 Fq2__217
  replace kx_0_0 := cell_below bt_6 kx_0_0
  replace kx_0_1 := cell_below bt_6 kx_0_1
  replace kx_0_2 := cell_below bt_6 kx_0_2
  replace kx_0_3 := cell_below bt_6 kx_0_3
  clear bt_6
  cases t_6 with
  | false =>
    replace H := let_hid H
    obtain ⟨t_7, ht_7, H⟩ := H
    obtain rfl : t_7 = true := ht_7.symm
    replace H := join_hid H
    replace H := ite_t H
    replace H := bind_hid H
    obtain ⟨t_13, qt_13, H⟩ := H
    go_wp2_with fail
    go_at_call 32
    refine (Go.Proofs.YtdgbigkcophjoaaDoor.GiMatches.C ((Go.Proofs.YtdgbigkcophjoaaDoor.PComb.Comb.mk x_id x_wide x_high x_line)) (hq1) (hq0) (hq2)  _    qt_13).mono ?_
    rintro e_t_13 wt_13 ⟨rfl, bt_13⟩
    have HBwt_13 := Lib.hid (Below.step HBwt_6.out bt_13)
    replace Fq0__215 := cell_below bt_13 Fq0__215
    replace Fq1__216 := cell_below bt_13 Fq1__216
    replace Fq2__217 := cell_below bt_13 Fq2__217
    replace kx_0_0 := cell_below bt_13 kx_0_0
    replace kx_0_1 := cell_below bt_13 kx_0_1
    replace kx_0_2 := cell_below bt_13 kx_0_2
    replace kx_0_3 := cell_below bt_13 kx_0_3
    clear bt_13
    replace H := app_hid H
    obtain rfl := ret_hid H
    go_wp2_with fail
    go_ret
    exact ⟨rfl, HBwt_13.out⟩
  | true =>
    replace H := let_hid H
    obtain ⟨t_7, ht_7, H⟩ := H
    obtain rfl : t_7 = false := ht_7.symm
    replace H := join_hid H
    replace H := ite_f H
    replace H := app_hid H
    obtain rfl := ret_hid H
    go_wp2_with fail
    go_ret
    exact ⟨rfl, HBwt_6.out⟩
end Go.Proofs.YtdgbigkcophjoaaDoor.GiTurnedCombs1

/- loop.example/g01062/impl.keysWhere[loop.example/g01062/impl.Comb,int] as a plain function, and the contract of the program's: where the plain one has an answer, the program has it. Conditions: slices read as lists. -/
namespace Go.Proofs.YtdgbigkcophjoaaDoor.GiKeysWhereCombIntiIdOfCombiTurnedCombs1
set_option linter.unusedVariables false
set_option linter.unusedSimpArgs false
open Go.RowKit
open Go.Proofs.YtdgbigkcophjoaaDoor.Rowed Go.Proofs.YtdgbigkcophjoaaDoor.Turn Go.Proofs.YtdgbigkcophjoaaDoor.Aid Go.Proofs.YtdgbigkcophjoaaDoor.GoP Go.Proofs.YtdgbigkcophjoaaDoor.GoM

def l0 (list : (List Go.Proofs.YtdgbigkcophjoaaDoor.PComb.Comb)) (hf2_0 : Int) (hf2_1 : Int) (hf2_2 : Int) (k0 : Nat) (s : (List Int)) (nx0 bk0 : (List Int) → Option ((List Int))) : Option ((List Int)) :=
  letK s fun keys_7l0 =>
  Option.bind (idx list (k0 : Int)) fun (yt_7 : Go.Proofs.YtdgbigkcophjoaaDoor.PComb.Comb) =>
  unComb yt_7 fun (t_7_id : Int) (t_7_wide : Int) (t_7_high : Int) (t_7_line : Bool) =>
  Option.bind (Go.Proofs.YtdgbigkcophjoaaDoor.GiTurnedCombs1.P (Go.Proofs.YtdgbigkcophjoaaDoor.PComb.Comb.mk t_7_id t_7_wide t_7_high t_7_line) hf2_0 hf2_1 hf2_2) fun (t_13 : Bool) =>
  iteK t_13
  (Option.bind (Go.Proofs.YtdgbigkcophjoaaDoor.GiIdOfComb.P (Go.Proofs.YtdgbigkcophjoaaDoor.PComb.Comb.mk t_7_id t_7_wide t_7_high t_7_line)) fun (t_17 : Int) =>
  guardK (keys_7l0.length ≤ 1099511627776) <|
  letK (keys_7l0 ++ [t_17]) fun (t_19 : (List Int)) =>
  appK nx0 (t_19))
  (appK nx0 (keys_7l0))

def e0  (s : (List Int)) : Option ((List Int)) :=
  letK s fun keys_7l0 =>
  some keys_7l0

def P (list : (List Go.Proofs.YtdgbigkcophjoaaDoor.PComb.Comb)) (hf2_0 : Int) (hf2_1 : Int) (hf2_2 : Int) : Option ((List Int)) :=
  cntK (l0 list hf2_0 hf2_1 hf2_2) (list.length) 0 (([] : List Int)) (e0 )

set_option maxRecDepth 100000 in
set_option maxHeartbeats 2000000 in
theorem C (list : (List Go.Proofs.YtdgbigkcophjoaaDoor.PComb.Comb)) (hf2_0 : Int) (hf2_1 : Int) (hf2_2 : Int) (A0 : Option Addr) (c0 : Nat) (gf2_0 : Nat) (gf2_1 : Nat) (gf2_2 : Nat) (w : World) (M0 : Hid (Cells w 4 A0 list.length (Go.Proofs.YtdgbigkcophjoaaDoor.PComb.flat list))) (N0 : Hid (list.length ≤ 9223372036854775807)) (Ff2_0h : Hid (w.cell? ⟨gf2_0, 0, none⟩ = some (.int .i64 hf2_0))) (Ff2_1h : Hid (w.cell? ⟨gf2_1, 0, none⟩ = some (.int .i64 hf2_1))) (Ff2_2h : Hid (w.cell? ⟨gf2_2, 0, none⟩ = some (.int .i64 hf2_2))) {r : (List Int)} (H : Hid (P list hf2_0 hf2_1 hf2_2 = some r)) :
    Calls Tryd.prog 29 #[.slice A0 list.length c0, .func (.func 30) #[] #[], .func (.func 35) #[] #[.pointer (some ⟨gf2_0, 0, none⟩), .pointer (some ⟨gf2_1, 0, none⟩), .pointer (some ⟨gf2_2, 0, none⟩)]] w (fun e w' => ∃ A_r c_r, e = .returned (.slice A_r r.length c_r) ∧ w'.ownsRow w.heap.size 3 1 (.slice A_r r.length c_r) r.length (Go.Proofs.YtdgbigkcophjoaaDoor.HelpInt.iv r) ∧ Below w.heap.size w w') := by
  have HB := Lib.hid (Below.refl w.heap.size w)
  unfold P at H
  have N0o := N0.out
  have Ff2_0 := Ff2_0h.out
  have Ff2_1 := Ff2_1h.out
  have Ff2_2 := Ff2_2h.out
  obtain ⟨i0_3, hi_3, hz0_3, hz1_3, hz2_3⟩ := Aid.info_parts (P := Tryd.prog) (T := 3) (z := .int .i64 0) (s := 1) (b := 8) (by kernel_rfl)
  go_enter Tryd.func29, Tryd.ntmps29
  obtain ⟨w_t_1, hw_t_1⟩ : ∃ x, w.alloc (.cells #[] 3) = x := ⟨_, rfl⟩
  have bw_t_1 : Below w.heap.size w w_t_1 := by rw [← hw_t_1]; exact (Below.refl _ _).alloc (Nat.le_refl _) _
  have Ot_1 : Hid (w_t_1.ownsRow w.heap.size 3 1 (.slice (some ⟨w.heap.size, 0, none⟩) 0 0) 0 []) := Lib.hid (by rw [← hw_t_1]; exact own_empty HB.out.size)
  have HBw_t_1 := Lib.hid (Below.step HB.out bw_t_1)
  have Ff2_0__218 := cell_below bw_t_1 Ff2_0
  have Ff2_1__219 := cell_below bw_t_1 Ff2_1
  have Ff2_2__220 := cell_below bw_t_1 Ff2_2
  clear bw_t_1
  go_wp2_with fail
  clear Ff2_0 Ff2_1 Ff2_2
  go_loopg [13, 7] (list.length) (fun m_ v13_ v7_ wr => ∃ (k0 : Nat) (keys_7l0 : (List Int)) (Akeys_7l0 : Option Addr) (ckeys_7l0 : Nat), k0 + m_ = list.length ∧ v13_ = .int .i64 (k0 : Int) ∧ v7_ = .slice Akeys_7l0 keys_7l0.length ckeys_7l0 ∧ Hid (cntK (l0 list hf2_0 hf2_1 hf2_2) m_ k0 (keys_7l0) (e0 ) = some r) ∧ Hid (Below w.heap.size w wr) ∧ wr.cell? ⟨gf2_0, 0, none⟩ = some (.int .i64 hf2_0) ∧ wr.cell? ⟨gf2_1, 0, none⟩ = some (.int .i64 hf2_1) ∧ wr.cell? ⟨gf2_2, 0, none⟩ = some (.int .i64 hf2_2) ∧ Hid (wr.ownsRow w.heap.size 3 1 (.slice Akeys_7l0 keys_7l0.length ckeys_7l0) keys_7l0.length (Go.Proofs.YtdgbigkcophjoaaDoor.HelpInt.iv keys_7l0)))
  case atStart => exact ⟨0, _, _, _, by omega, rfl, rfl, H, HBw_t_1, Ff2_0__218, Ff2_1__219, Ff2_2__220, Ot_1⟩
  case round =>
    obtain ⟨k0, keys_7l0, Akeys_7l0, ckeys_7l0, hkm0, rfl, rfl, H, HBwr0, Ff2_0__218, Ff2_1__219, Ff2_2__220, Okeys_7l0⟩ := hrel
    rename World => wr0
    cases gk with
    | zero =>
      obtain rfl : k0 = list.length := by omega
      have hc0 : decide (((list.length : Nat) : Int) < ((list.length : Nat) : Int)) = false := by simp
      replace H := cnt_zero H
      unfold e0 at H
      replace H := let_hid H
      obtain ⟨_, rfl, H⟩ := H
      obtain rfl := ret_hid H
      go_wp2_with fail
      go_ret
      exact ⟨Akeys_7l0, ckeys_7l0, rfl, Okeys_7l0.out, HBwr0.out⟩
    | succ m0 =>
      have hlt0 : k0 < list.length := by omega
      have hc0 : decide ((k0 : Int) < ((list.length : Nat) : Int)) = true := by simp; omega
      replace H := cnt_succ H
      unfold l0 at H
      replace H := let_hid H
      obtain ⟨_, rfl, H⟩ := H
      replace H := idx_hid H
      obtain ⟨nt_7, yt_7, et_7, lt_7, gt_7, H⟩ := H
      obtain rfl : k0 = nt_7 := by omega
      clear et_7
      obtain ⟨t_7_id, t_7_wide, t_7_high, t_7_line⟩ := yt_7
      replace H := unComb_hid H
      obtain ⟨ab_t_7, ao_t_7, zt_7, At_7, z_t_7, ct_7_0, ct_7_1, ct_7_2, ct_7_3⟩ := Go.Proofs.YtdgbigkcophjoaaDoor.OComb.at_ M0.out lt_7
      obtain rfl := Option.some.inj (gt_7.out.symm.trans z_t_7)
      subst At_7
      have ltt_7 := cell_lt ct_7_0
      replace ct_7_0 := cell_below HBwr0.out ct_7_0
      replace ct_7_1 := cell_below HBwr0.out ct_7_1
      replace ct_7_2 := cell_below HBwr0.out ct_7_2
      replace ct_7_3 := cell_below HBwr0.out ct_7_3
      clear z_t_7
      have b0t_7 : (0 : Int) ≤ (k0 : Int) := by omega
      have b1t_7 : (k0 : Int) < ((list.length : Nat) : Int) := by omega
      have b2t_7 : ((k0 : Int)).toNat = k0 := by omega
      obtain ⟨w_e_9, hw_e_9⟩ : ∃ x, wr0.alloc (.cells #[.int .i64 t_7_id, .int .i64 t_7_wide, .int .i64 t_7_high, .bool t_7_line] 32) = x := ⟨_, rfl⟩
      have bw_e_9 : Below wr0.heap.size wr0 w_e_9 := by rw [← hw_e_9]; exact (Below.refl _ _).alloc (Nat.le_refl _) _
      have De_9_keys_7l0 := Lib.hid (apart_fresh Okeys_7l0.out)
      have HBw_e_9 := Lib.hid (Below.step HBwr0.out bw_e_9)
      have Ff2_0__221 := cell_below bw_e_9 Ff2_0__218
      have Ff2_1__222 := cell_below bw_e_9 Ff2_1__219
      have Ff2_2__223 := cell_below bw_e_9 Ff2_2__220
      have ct_7_0__224 := cell_below bw_e_9 ct_7_0
      have ct_7_1__225 := cell_below bw_e_9 ct_7_1
      have ct_7_2__226 := cell_below bw_e_9 ct_7_2
      have ct_7_3__227 := cell_below bw_e_9 ct_7_3
      replace Okeys_7l0 := Lib.hid (own_below Okeys_7l0.out bw_e_9)
      clear bw_e_9
      have ke_9_0 : w_e_9.cell? ⟨wr0.heap.size, 0, none⟩ = some (.int .i64 t_7_id) := by rw [← hw_e_9]; exact box_new _ _ _ 0 _ rfl
      have ke_9_1 : w_e_9.cell? ⟨wr0.heap.size, 1, none⟩ = some (.int .i64 t_7_wide) := by rw [← hw_e_9]; exact box_new _ _ _ 1 _ rfl
      have ke_9_2 : w_e_9.cell? ⟨wr0.heap.size, 2, none⟩ = some (.int .i64 t_7_high) := by rw [← hw_e_9]; exact box_new _ _ _ 2 _ rfl
      have ke_9_3 : w_e_9.cell? ⟨wr0.heap.size, 3, none⟩ = some (.bool t_7_line) := by rw [← hw_e_9]; exact box_new _ _ _ 3 _ rfl
      replace H := bind_hid H
      obtain ⟨t_13, qt_13, H⟩ := H
      go_wp2_with fail
      clear Ff2_0__218 Ff2_1__219 Ff2_2__220 ct_7_0 ct_7_1 ct_7_2 ct_7_3
      go_at_call 35
      refine (Go.Proofs.YtdgbigkcophjoaaDoor.GiTurnedCombs1.C ((Go.Proofs.YtdgbigkcophjoaaDoor.PComb.Comb.mk t_7_id t_7_wide t_7_high t_7_line)) (hf2_0) (hf2_1) (hf2_2) (gf2_0) (gf2_1) (gf2_2) _   (Lib.hid Ff2_0__221) (Lib.hid Ff2_1__222) (Lib.hid Ff2_2__223) qt_13).mono ?_
      rintro e_t_13 wt_13 ⟨rfl, bt_13⟩
      have HBwt_13 := Lib.hid (Below.step HBw_e_9.out bt_13)
      replace Ff2_0__221 := cell_below bt_13 Ff2_0__221
      replace Ff2_1__222 := cell_below bt_13 Ff2_1__222
      replace Ff2_2__223 := cell_below bt_13 Ff2_2__223
      replace ct_7_0__224 := cell_below bt_13 ct_7_0__224
      replace ct_7_1__225 := cell_below bt_13 ct_7_1__225
      replace ct_7_2__226 := cell_below bt_13 ct_7_2__226
      replace ct_7_3__227 := cell_below bt_13 ct_7_3__227
      replace ke_9_0 := cell_below bt_13 ke_9_0
      replace ke_9_1 := cell_below bt_13 ke_9_1
      replace ke_9_2 := cell_below bt_13 ke_9_2
      replace ke_9_3 := cell_below bt_13 ke_9_3
      replace Okeys_7l0 := Lib.hid (own_below Okeys_7l0.out bt_13)
      clear bt_13
      cases t_13 with
      | false =>
        replace H := ite_f H
        replace H := app_hid H
        go_wp2_with fail
        go_roundg m0
        case measure => omega
        case rel => exact ⟨k0 + 1, _, _, _, by omega, by go_num, rfl, H, HBwt_13, Ff2_0__221, Ff2_1__222, Ff2_2__223, Okeys_7l0⟩
      | true =>
        replace H := ite_t H
        replace H := bind_hid H
        obtain ⟨t_17, qt_17, H⟩ := H
        go_wp2_with fail
        go_at_call 30
        refine (Go.Proofs.YtdgbigkcophjoaaDoor.GiIdOfComb.C ((Go.Proofs.YtdgbigkcophjoaaDoor.PComb.Comb.mk t_7_id t_7_wide t_7_high t_7_line))  _    qt_17).mono ?_
        rintro e_t_17 wt_17 ⟨rfl, bt_17⟩
        have HBwt_17 := Lib.hid (Below.step HBwt_13.out bt_17)
        replace Ff2_0__221 := cell_below bt_17 Ff2_0__221
        replace Ff2_1__222 := cell_below bt_17 Ff2_1__222
        replace Ff2_2__223 := cell_below bt_17 Ff2_2__223
        replace ct_7_0__224 := cell_below bt_17 ct_7_0__224
        replace ct_7_1__225 := cell_below bt_17 ct_7_1__225
        replace ct_7_2__226 := cell_below bt_17 ct_7_2__226
        replace ct_7_3__227 := cell_below bt_17 ct_7_3__227
        replace ke_9_0 := cell_below bt_17 ke_9_0
        replace ke_9_1 := cell_below bt_17 ke_9_1
        replace ke_9_2 := cell_below bt_17 ke_9_2
        replace ke_9_3 := cell_below bt_17 ke_9_3
        replace Okeys_7l0 := Lib.hid (own_below Okeys_7l0.out bt_17)
        clear bt_17
        obtain ⟨w_t_18, hw_t_18⟩ : ∃ x, wt_17.alloc (.cells #[.int .i64 t_17] 3) = x := ⟨_, rfl⟩
        have bw_t_18 : Below wt_17.heap.size wt_17 w_t_18 := by rw [← hw_t_18]; exact (Below.refl _ _).alloc (Nat.le_refl _) _
        have HBw_t_18 := Lib.hid (Below.step HBwt_17.out bw_t_18)
        have Ff2_0__228 := cell_below bw_t_18 Ff2_0__221
        have Ff2_1__229 := cell_below bw_t_18 Ff2_1__222
        have Ff2_2__230 := cell_below bw_t_18 Ff2_2__223
        have ct_7_0__231 := cell_below bw_t_18 ct_7_0__224
        have ct_7_1__232 := cell_below bw_t_18 ct_7_1__225
        have ct_7_2__233 := cell_below bw_t_18 ct_7_2__226
        have ct_7_3__234 := cell_below bw_t_18 ct_7_3__227
        have ke_9_0__235 := cell_below bw_t_18 ke_9_0
        have ke_9_1__236 := cell_below bw_t_18 ke_9_1
        have ke_9_2__237 := cell_below bw_t_18 ke_9_2
        have ke_9_3__238 := cell_below bw_t_18 ke_9_3
        replace Okeys_7l0 := Lib.hid (own_below Okeys_7l0.out bw_t_18)
        clear bw_t_18
        replace H := guard_hid H
        obtain ⟨hlt_19, H⟩ := H
        replace H := let_hid H
        obtain ⟨t_19, ht_19, H⟩ := H
        have hht_19 := Lib.hid ht_19
        clear ht_19
        have hst_19 := HBw_t_18.out.size
        go_wp2_with (at_builtin; refine wpList_append_own_at _ rfl _ _ 27 rfl w.heap.size 3 i0_3 (.int .i64 0) 1 8 Tryd.underlying27 hi_3 hz0_3 hz1_3 hz2_3 rfl (by decide) _ _ _ rfl Okeys_7l0.out ⟨wt_17.heap.size, 0, none⟩ 1 1 [.int .i64 t_17] rfl rfl (news_new hw_t_18) (one_cells rfl) (by unfold maxLen; omega) (by omega) hst_19 ?_; intro vt_19 wt_19 ot_19 gt_19 zt_19 yt_19; clear zt_19; obtain ⟨qt_19, ct_19, rfl, pt_19⟩ := own_push hht_19.out (Go.Proofs.YtdgbigkcophjoaaDoor.HelpInt.iv_snoc _ _) rfl ot_19; have Pt_19 := Lib.hid pt_19; have Yt_19 := Lib.hid yt_19; have Gt_19 := Lib.hid gt_19; clear ot_19 gt_19 pt_19 yt_19; refine stop_in ?_)
        refine stop_out ?_
        have HBwt_19 := Lib.hid (HBw_t_18.out.grown Gt_19.out hst_19 (fun q hq => (Okeys_7l0.out.lt q hq).1))
        clear hst_19
        have Dt_19_e_9 : Hid (Apart (some ⟨qt_19, 0, none⟩) _) := Lib.hid (apart_app (Apart.symm De_9_keys_7l0.out) (fun a_ ha_ => by cases ha_; exact cell_lt ke_9_0__235) Yt_19.out)
        replace Ff2_0__228 := cell_below HBwt_19.out Ff2_0h.out
        replace Ff2_1__229 := cell_below HBwt_19.out Ff2_1h.out
        replace Ff2_2__230 := cell_below HBwt_19.out Ff2_2h.out
        replace ct_7_0__231 := cell_other ct_7_0__231 Gt_19.out (apart_old Okeys_7l0.out ltt_7)
        replace ct_7_1__232 := cell_other ct_7_1__232 Gt_19.out (apart_old Okeys_7l0.out ltt_7)
        replace ct_7_2__233 := cell_other ct_7_2__233 Gt_19.out (apart_old Okeys_7l0.out ltt_7)
        replace ct_7_3__234 := cell_other ct_7_3__234 Gt_19.out (apart_old Okeys_7l0.out ltt_7)
        replace ke_9_0__235 := cell_other ke_9_0__235 Gt_19.out (Apart.symm De_9_keys_7l0.out)
        replace ke_9_1__236 := cell_other ke_9_1__236 Gt_19.out (Apart.symm De_9_keys_7l0.out)
        replace ke_9_2__237 := cell_other ke_9_2__237 Gt_19.out (Apart.symm De_9_keys_7l0.out)
        replace ke_9_3__238 := cell_other ke_9_3__238 Gt_19.out (Apart.symm De_9_keys_7l0.out)
        clear Ff2_0__221 Ff2_1__222 Ff2_2__223 ct_7_0__224 ct_7_1__225 ct_7_2__226 ct_7_3__227 ke_9_0 ke_9_1 ke_9_2 ke_9_3
        clear Okeys_7l0 Yt_19 Gt_19
        replace H := app_hid H
        go_wp2_with fail
        go_roundg m0
        case measure => omega
        case rel => exact ⟨k0 + 1, _, _, _, by omega, by go_num, rfl, H, HBwt_19, Ff2_0__228, Ff2_1__229, Ff2_2__230, Pt_19⟩
end Go.Proofs.YtdgbigkcophjoaaDoor.GiKeysWhereCombIntiIdOfCombiTurnedCombs1

/- loop.example/g01062/impl.TurnedCombs as a plain function, and the contract of the program's: where the plain one has an answer, the program has it. Conditions: slices read as lists. -/
namespace Go.Proofs.YtdgbigkcophjoaaDoor.GiTurnedCombs
set_option linter.unusedVariables false
set_option linter.unusedSimpArgs false
open Go.RowKit
open Go.Proofs.YtdgbigkcophjoaaDoor.Rowed Go.Proofs.YtdgbigkcophjoaaDoor.Turn Go.Proofs.YtdgbigkcophjoaaDoor.Aid Go.Proofs.YtdgbigkcophjoaaDoor.GoP Go.Proofs.YtdgbigkcophjoaaDoor.GoM

def P (list : (List Go.Proofs.YtdgbigkcophjoaaDoor.PComb.Comb)) (wide : Int) (high : Int) (off : Int) : Option ((List Int) × Bool) :=
  Option.bind (Go.Proofs.YtdgbigkcophjoaaDoor.GiCanMatch.P list wide high off) fun (t_9 : Bool) =>
  letK (!t_9) fun (t_10 : Bool) =>
  iteK t_10
  (some (([] : List Int), false))
  (Option.bind (Go.Proofs.YtdgbigkcophjoaaDoor.GiKeysWhereCombIntiIdOfCombiTurnedCombs1.P list wide high off) fun (t_16 : (List Int)) =>
  some (t_16, true))

set_option maxRecDepth 100000 in
set_option maxHeartbeats 2000000 in
theorem C (list : (List Go.Proofs.YtdgbigkcophjoaaDoor.PComb.Comb)) (wide : Int) (high : Int) (off : Int) (A0 : Option Addr) (c0 : Nat)  (w : World) (M0 : Hid (Cells w 4 A0 list.length (Go.Proofs.YtdgbigkcophjoaaDoor.PComb.flat list))) (N0 : Hid (list.length ≤ 9223372036854775807))  {r0 : (List Int)} {r1 : Bool} (H : Hid (P list wide high off = some (r0, r1))) :
    Calls Tryd.prog 9 #[.slice A0 list.length c0, .int .i64 wide, .int .i64 high, .int .i64 off] w (fun e w' => ∃ A_r0 c_r0, e = .returned (.tuple #[.slice A_r0 r0.length c_r0, .bool r1]) ∧ w'.ownsRow w.heap.size 3 1 (.slice A_r0 r0.length c_r0) r0.length (Go.Proofs.YtdgbigkcophjoaaDoor.HelpInt.iv r0) ∧ Below w.heap.size w w') := by
  have HB := Lib.hid (Below.refl w.heap.size w)
  unfold P at H
  have N0o := N0.out
  go_enter Tryd.func9, Tryd.ntmps9
  obtain ⟨w_wide_0, hw_wide_0⟩ : ∃ x, w.alloc (.cells #[.int .i64 wide] 3) = x := ⟨_, rfl⟩
  have bw_wide_0 : Below w.heap.size w w_wide_0 := by rw [← hw_wide_0]; exact (Below.refl _ _).alloc (Nat.le_refl _) _
  have HBw_wide_0 := Lib.hid (Below.step HB.out bw_wide_0)
  clear bw_wide_0
  have kwide_0_0 : w_wide_0.cell? ⟨w.heap.size, 0, none⟩ = some (.int .i64 wide) := by rw [← hw_wide_0]; exact box_new _ _ _ 0 _ rfl
  obtain ⟨w_high_1, hw_high_1⟩ : ∃ x, w_wide_0.alloc (.cells #[.int .i64 high] 3) = x := ⟨_, rfl⟩
  have bw_high_1 : Below w_wide_0.heap.size w_wide_0 w_high_1 := by rw [← hw_high_1]; exact (Below.refl _ _).alloc (Nat.le_refl _) _
  have HBw_high_1 := Lib.hid (Below.step HBw_wide_0.out bw_high_1)
  have kwide_0_0__239 := cell_below bw_high_1 kwide_0_0
  clear bw_high_1
  have khigh_1_0 : w_high_1.cell? ⟨w_wide_0.heap.size, 0, none⟩ = some (.int .i64 high) := by rw [← hw_high_1]; exact box_new _ _ _ 0 _ rfl
  obtain ⟨w_off_2, hw_off_2⟩ : ∃ x, w_high_1.alloc (.cells #[.int .i64 off] 3) = x := ⟨_, rfl⟩
  have bw_off_2 : Below w_high_1.heap.size w_high_1 w_off_2 := by rw [← hw_off_2]; exact (Below.refl _ _).alloc (Nat.le_refl _) _
  have HBw_off_2 := Lib.hid (Below.step HBw_high_1.out bw_off_2)
  have kwide_0_0__240 := cell_below bw_off_2 kwide_0_0__239
  have khigh_1_0__241 := cell_below bw_off_2 khigh_1_0
  clear bw_off_2
  have koff_2_0 : w_off_2.cell? ⟨w_high_1.heap.size, 0, none⟩ = some (.int .i64 off) := by rw [← hw_off_2]; exact box_new _ _ _ 0 _ rfl
  replace H := bind_hid H
  obtain ⟨t_9, qt_9, H⟩ := H
  go_wp2_with fail
  clear kwide_0_0 kwide_0_0__239 khigh_1_0
  go_at_call 28
  refine (Go.Proofs.YtdgbigkcophjoaaDoor.GiCanMatch.C (list) (wide) (high) (off) A0 c0 _   (Lib.hid (Cells.below M0.out HBw_off_2.out)) N0 qt_9).mono ?_
  rintro e_t_9 wt_9 ⟨rfl, bt_9⟩
  have HBwt_9 := Lib.hid (Below.step HBw_off_2.out bt_9)
  replace kwide_0_0__240 := cell_below bt_9 kwide_0_0__240
  replace khigh_1_0__241 := cell_below bt_9 khigh_1_0__241
  replace koff_2_0 := cell_below bt_9 koff_2_0
  clear bt_9
  cases t_9 with
  | false =>
    replace H := let_hid H
    obtain ⟨t_10, ht_10, H⟩ := H
    obtain rfl : t_10 = true := ht_10.symm
    replace H := ite_t H
    obtain ⟨w_t_11, hw_t_11⟩ : ∃ x, wt_9.alloc (.cells #[] 3) = x := ⟨_, rfl⟩
    have bw_t_11 : Below wt_9.heap.size wt_9 w_t_11 := by rw [← hw_t_11]; exact (Below.refl _ _).alloc (Nat.le_refl _) _
    have Ot_11 : Hid (w_t_11.ownsRow w.heap.size 3 1 (.slice (some ⟨wt_9.heap.size, 0, none⟩) 0 0) 0 []) := Lib.hid (by rw [← hw_t_11]; exact own_empty HBwt_9.out.size)
    have Dt_11_wide_0 := Lib.hid (apart_box kwide_0_0__240)
    have Dt_11_high_1 := Lib.hid (apart_box khigh_1_0__241)
    have Dt_11_off_2 := Lib.hid (apart_box koff_2_0)
    have HBw_t_11 := Lib.hid (Below.step HBwt_9.out bw_t_11)
    have kwide_0_0__242 := cell_below bw_t_11 kwide_0_0__240
    have khigh_1_0__243 := cell_below bw_t_11 khigh_1_0__241
    have koff_2_0__244 := cell_below bw_t_11 koff_2_0
    clear bw_t_11
    cases ret_hid H
    go_wp2_with fail
    go_ret2
    exact ⟨(some ⟨wt_9.heap.size, 0, none⟩), 0, rfl, Ot_11.out, HBw_t_11.out⟩
  | true =>
    replace H := let_hid H
    obtain ⟨t_10, ht_10, H⟩ := H
    obtain rfl : t_10 = false := ht_10.symm
    replace H := ite_f H
    replace H := bind_hid H
    obtain ⟨t_16, qt_16, H⟩ := H
    go_wp2_with fail
    go_at_call 29
    refine (Go.Proofs.YtdgbigkcophjoaaDoor.GiKeysWhereCombIntiIdOfCombiTurnedCombs1.C (list) (wide) (high) (off) A0 c0 (w.heap.size) (w_wide_0.heap.size) (w_high_1.heap.size) _   (Lib.hid (Cells.below M0.out HBwt_9.out)) N0 (Lib.hid kwide_0_0__240) (Lib.hid khigh_1_0__241) (Lib.hid koff_2_0) qt_16).mono ?_
    rintro e_t_16 wt_16 ⟨At_16, ct_16, rfl, ot_16, bt_16⟩
    have Dt_16_wide_0 := Lib.hid (apart_callbox ot_16 kwide_0_0__240)
    have Dt_16_high_1 := Lib.hid (apart_callbox ot_16 khigh_1_0__241)
    have Dt_16_off_2 := Lib.hid (apart_callbox ot_16 koff_2_0)
    have Ot_16 := Lib.hid (own_lower ot_16 HBwt_9.out.size)
    clear ot_16
    have HBwt_16 := Lib.hid (Below.step HBwt_9.out bt_16)
    replace kwide_0_0__240 := cell_below bt_16 kwide_0_0__240
    replace khigh_1_0__241 := cell_below bt_16 khigh_1_0__241
    replace koff_2_0 := cell_below bt_16 koff_2_0
    clear bt_16
    cases ret_hid H
    go_wp2_with fail
    go_ret2
    exact ⟨At_16, ct_16, rfl, Ot_16.out, HBwt_16.out⟩
end Go.Proofs.YtdgbigkcophjoaaDoor.GiTurnedCombs

/- loop.example/g01062/spec.TurnedCombs as a plain function, and the contract of the program's: where the plain one has an answer, the program has it. Conditions: slices read as lists. -/
namespace Go.Proofs.YtdgbigkcophjoaaDoor.GsTurnedCombs
set_option linter.unusedVariables false
set_option linter.unusedSimpArgs false
open Go.RowKit
open Go.Proofs.YtdgbigkcophjoaaDoor.Rowed Go.Proofs.YtdgbigkcophjoaaDoor.Turn Go.Proofs.YtdgbigkcophjoaaDoor.Aid Go.Proofs.YtdgbigkcophjoaaDoor.GoP Go.Proofs.YtdgbigkcophjoaaDoor.GoM

def l0 (list : (List Go.Proofs.YtdgbigkcophjoaaDoor.PComb.Comb)) (wide : Int) (high : Int) (off : Int) (k0 : Nat) (s : (List Int)) (nx0 bk0 : (List Int) → Option ((List Int) × Bool)) : Option ((List Int) × Bool) :=
  letK s fun out_10l0 =>
  Option.bind (idx list (k0 : Int)) fun (yt_20 : Go.Proofs.YtdgbigkcophjoaaDoor.PComb.Comb) =>
  unComb yt_20 fun (t_20_id : Int) (t_20_wide : Int) (t_20_high : Int) (t_20_line : Bool) =>
  Option.bind (Go.Proofs.YtdgbigkcophjoaaDoor.GsL5Match.P (Go.Proofs.YtdgbigkcophjoaaDoor.PComb.Comb.mk t_20_id t_20_wide t_20_high t_20_line) wide high off) fun (t_25 : Bool) =>
  letK (!t_25) fun (t_26 : Bool) =>
  joinK (fun (t_36 : Bool) =>
  iteK t_36
  (Option.bind (idx list (k0 : Int)) fun (yt_40 : Go.Proofs.YtdgbigkcophjoaaDoor.PComb.Comb) =>
  unComb yt_40 fun (t_40_id : Int) (t_40_wide : Int) (t_40_high : Int) (t_40_line : Bool) =>
  guardK (out_10l0.length ≤ 1099511627776) <|
  letK (out_10l0 ++ [t_40_id]) fun (t_44 : (List Int)) =>
  appK nx0 (t_44))
  (appK nx0 (out_10l0))) fun jt_36 => iteK t_26 (Option.bind (idx list (k0 : Int)) fun (yt_30 : Go.Proofs.YtdgbigkcophjoaaDoor.PComb.Comb) =>
  unComb yt_30 fun (t_30_id : Int) (t_30_wide : Int) (t_30_high : Int) (t_30_line : Bool) =>
  Option.bind (Go.Proofs.YtdgbigkcophjoaaDoor.GsL5Match.P (Go.Proofs.YtdgbigkcophjoaaDoor.PComb.Comb.mk t_30_id t_30_wide t_30_high t_30_line) high wide off) fun (t_35 : Bool) =>
  appK jt_36 t_35) (appK jt_36 false)

def e0  (s : (List Int)) : Option ((List Int) × Bool) :=
  letK s fun out_10l0 =>
  some (out_10l0, true)

def P (list : (List Go.Proofs.YtdgbigkcophjoaaDoor.PComb.Comb)) (wide : Int) (high : Int) (off : Int) : Option ((List Int) × Bool) :=
  Option.bind (Go.Proofs.YtdgbigkcophjoaaDoor.GsL5Asked.P list wide high off) fun (t_8 : Bool) =>
  letK (!t_8) fun (t_9 : Bool) =>
  iteK t_9
  (some (([] : List Int), false))
  (cntK (l0 list wide high off) (list.length) 0 (([] : List Int)) (e0 ))

set_option maxRecDepth 100000 in
set_option maxHeartbeats 2000000 in
theorem C (list : (List Go.Proofs.YtdgbigkcophjoaaDoor.PComb.Comb)) (wide : Int) (high : Int) (off : Int) (A0 : Option Addr) (c0 : Nat)  (w : World) (M0 : Hid (Cells w 4 A0 list.length (Go.Proofs.YtdgbigkcophjoaaDoor.PComb.flat list))) (N0 : Hid (list.length ≤ 9223372036854775807))  {r0 : (List Int)} {r1 : Bool} (H : Hid (P list wide high off = some (r0, r1))) :
    Calls Tryd.prog 10 #[.slice A0 list.length c0, .int .i64 wide, .int .i64 high, .int .i64 off] w (fun e w' => ∃ A_r0 c_r0, e = .returned (.tuple #[.slice A_r0 r0.length c_r0, .bool r1]) ∧ w'.ownsRow w.heap.size 3 1 (.slice A_r0 r0.length c_r0) r0.length (Go.Proofs.YtdgbigkcophjoaaDoor.HelpInt.iv r0) ∧ Below w.heap.size w w') := by
  have HB := Lib.hid (Below.refl w.heap.size w)
  unfold P at H
  have N0o := N0.out
  obtain ⟨i0_3, hi_3, hz0_3, hz1_3, hz2_3⟩ := Aid.info_parts (P := Tryd.prog) (T := 3) (z := .int .i64 0) (s := 1) (b := 8) (by kernel_rfl)
  go_enter Tryd.func10, Tryd.ntmps10
  obtain ⟨w_t_2, hw_t_2⟩ : ∃ x, w.alloc (.cells #[] 3) = x := ⟨_, rfl⟩
  have bw_t_2 : Below w.heap.size w w_t_2 := by rw [← hw_t_2]; exact (Below.refl _ _).alloc (Nat.le_refl _) _
  have Ot_2 : Hid (w_t_2.ownsRow w.heap.size 3 1 (.slice (some ⟨w.heap.size, 0, none⟩) 0 0) 0 []) := Lib.hid (by rw [← hw_t_2]; exact own_empty HB.out.size)
  have HBw_t_2 := Lib.hid (Below.step HB.out bw_t_2)
  clear bw_t_2
  replace H := bind_hid H
  obtain ⟨t_8, qt_8, H⟩ := H
  go_wp2_with fail
  go_at_call 33
  refine (Go.Proofs.YtdgbigkcophjoaaDoor.GsL5Asked.C (list) (wide) (high) (off) A0 c0 _   (Lib.hid (Cells.below M0.out HBw_t_2.out)) N0 qt_8).mono ?_
  rintro e_t_8 wt_8 ⟨rfl, bt_8⟩
  have HBwt_8 := Lib.hid (Below.step HBw_t_2.out bt_8)
  replace Ot_2 := Lib.hid (own_below Ot_2.out bt_8)
  clear bt_8
  cases t_8 with
  | false =>
    replace H := let_hid H
    obtain ⟨t_9, ht_9, H⟩ := H
    obtain rfl : t_9 = true := ht_9.symm
    replace H := ite_t H
    cases ret_hid H
    go_wp2_with fail
    go_ret2
    exact ⟨(some ⟨w.heap.size, 0, none⟩), 0, rfl, Ot_2.out, HBwt_8.out⟩
  | true =>
    replace H := let_hid H
    obtain ⟨t_9, ht_9, H⟩ := H
    obtain rfl : t_9 = false := ht_9.symm
    replace H := ite_f H
    go_wp2_with fail
    go_loopg [11, 10] (list.length) (fun m_ v11_ v10_ wr => ∃ (k0 : Nat) (out_10l0 : (List Int)) (Aout_10l0 : Option Addr) (cout_10l0 : Nat), k0 + m_ = list.length ∧ v11_ = .int .i64 (k0 : Int) ∧ v10_ = .slice Aout_10l0 out_10l0.length cout_10l0 ∧ Hid (cntK (l0 list wide high off) m_ k0 (out_10l0) (e0 ) = some (r0, r1)) ∧ Hid (Below w.heap.size w wr) ∧ Hid (wr.ownsRow w.heap.size 3 1 (.slice Aout_10l0 out_10l0.length cout_10l0) out_10l0.length (Go.Proofs.YtdgbigkcophjoaaDoor.HelpInt.iv out_10l0)))
    case atStart => exact ⟨0, _, _, _, by omega, rfl, rfl, H, HBwt_8, Ot_2⟩
    case round =>
      obtain ⟨k0, out_10l0, Aout_10l0, cout_10l0, hkm0, rfl, rfl, H, HBwr0, Oout_10l0⟩ := hrel
      rename World => wr0
      cases gk with
      | zero =>
        obtain rfl : k0 = list.length := by omega
        have hc0 : decide (((list.length : Nat) : Int) < ((list.length : Nat) : Int)) = false := by simp
        replace H := cnt_zero H
        unfold e0 at H
        replace H := let_hid H
        obtain ⟨_, rfl, H⟩ := H
        cases ret_hid H
        go_wp2_with fail
        go_ret2
        exact ⟨Aout_10l0, cout_10l0, rfl, Oout_10l0.out, HBwr0.out⟩
      | succ m0 =>
        have hlt0 : k0 < list.length := by omega
        have hc0 : decide ((k0 : Int) < ((list.length : Nat) : Int)) = true := by simp; omega
        replace H := cnt_succ H
        unfold l0 at H
        replace H := let_hid H
        obtain ⟨_, rfl, H⟩ := H
        replace H := idx_hid H
        obtain ⟨nt_20, yt_20, et_20, lt_20, gt_20, H⟩ := H
        obtain rfl : k0 = nt_20 := by omega
        clear et_20
        obtain ⟨t_20_id, t_20_wide, t_20_high, t_20_line⟩ := yt_20
        replace H := unComb_hid H
        obtain ⟨ab_t_20, ao_t_20, zt_20, At_20, z_t_20, ct_20_0, ct_20_1, ct_20_2, ct_20_3⟩ := Go.Proofs.YtdgbigkcophjoaaDoor.OComb.at_ M0.out lt_20
        obtain rfl := Option.some.inj (gt_20.out.symm.trans z_t_20)
        subst At_20
        have ltt_20 := cell_lt ct_20_0
        replace ct_20_0 := cell_below HBwr0.out ct_20_0
        replace ct_20_1 := cell_below HBwr0.out ct_20_1
        replace ct_20_2 := cell_below HBwr0.out ct_20_2
        replace ct_20_3 := cell_below HBwr0.out ct_20_3
        clear z_t_20
        have b0t_20 : (0 : Int) ≤ (k0 : Int) := by omega
        have b1t_20 : (k0 : Int) < ((list.length : Nat) : Int) := by omega
        have b2t_20 : ((k0 : Int)).toNat = k0 := by omega
        replace H := bind_hid H
        obtain ⟨t_25, qt_25, H⟩ := H
        go_wp2_with fail
        go_at_call 34
        refine (Go.Proofs.YtdgbigkcophjoaaDoor.GsL5Match.C ((Go.Proofs.YtdgbigkcophjoaaDoor.PComb.Comb.mk t_20_id t_20_wide t_20_high t_20_line)) (wide) (high) (off)  _    qt_25).mono ?_
        rintro e_t_25 wt_25 ⟨rfl, bt_25⟩
        have HBwt_25 := Lib.hid (Below.step HBwr0.out bt_25)
        replace ct_20_0 := cell_below bt_25 ct_20_0
        replace ct_20_1 := cell_below bt_25 ct_20_1
        replace ct_20_2 := cell_below bt_25 ct_20_2
        replace ct_20_3 := cell_below bt_25 ct_20_3
        replace Oout_10l0 := Lib.hid (own_below Oout_10l0.out bt_25)
        clear bt_25
        cases t_25 with
        | false =>
          replace H := let_hid H
          obtain ⟨t_26, ht_26, H⟩ := H
          obtain rfl : t_26 = true := ht_26.symm
          replace H := join_hid H
          replace H := ite_t H
          replace H := idx_hid H
          obtain ⟨nt_30, yt_30, et_30, lt_30, gt_30, H⟩ := H
          obtain rfl : k0 = nt_30 := by omega
          clear et_30
          obtain rfl := Option.some.inj (gt_20.out.symm.trans gt_30.out)
          clear gt_30 lt_30
          replace H := unComb_hid H
          replace H := bind_hid H
          obtain ⟨t_35, qt_35, H⟩ := H
          go_wp2_with fail
          go_at_call 34
          refine (Go.Proofs.YtdgbigkcophjoaaDoor.GsL5Match.C ((Go.Proofs.YtdgbigkcophjoaaDoor.PComb.Comb.mk t_20_id t_20_wide t_20_high t_20_line)) (high) (wide) (off)  _    qt_35).mono ?_
          rintro e_t_35 wt_35 ⟨rfl, bt_35⟩
          have HBwt_35 := Lib.hid (Below.step HBwt_25.out bt_35)
          replace ct_20_0 := cell_below bt_35 ct_20_0
          replace ct_20_1 := cell_below bt_35 ct_20_1
          replace ct_20_2 := cell_below bt_35 ct_20_2
          replace ct_20_3 := cell_below bt_35 ct_20_3
          replace Oout_10l0 := Lib.hid (own_below Oout_10l0.out bt_35)
          clear bt_35
          replace H := app_hid H
          cases t_35 with
          | false =>
            replace H := ite_f H
            replace H := app_hid H
            go_wp2_with fail
            go_roundg m0
            case measure => omega
            case rel => exact ⟨k0 + 1, _, _, _, by omega, by go_num, rfl, H, HBwt_35, Oout_10l0⟩
          | true =>
            replace H := ite_t H
            replace H := idx_hid H
            obtain ⟨nt_40, yt_40, et_40, lt_40, gt_40, H⟩ := H
            obtain rfl : k0 = nt_40 := by omega
            clear et_40
            obtain rfl := Option.some.inj (gt_20.out.symm.trans gt_40.out)
            clear gt_40 lt_40
            replace H := unComb_hid H
            obtain ⟨w_t_43, hw_t_43⟩ : ∃ x, wt_35.alloc (.cells #[.int .i64 t_20_id] 3) = x := ⟨_, rfl⟩
            have bw_t_43 : Below wt_35.heap.size wt_35 w_t_43 := by rw [← hw_t_43]; exact (Below.refl _ _).alloc (Nat.le_refl _) _
            have HBw_t_43 := Lib.hid (Below.step HBwt_35.out bw_t_43)
            have ct_20_0__245 := cell_below bw_t_43 ct_20_0
            have ct_20_1__246 := cell_below bw_t_43 ct_20_1
            have ct_20_2__247 := cell_below bw_t_43 ct_20_2
            have ct_20_3__248 := cell_below bw_t_43 ct_20_3
            replace Oout_10l0 := Lib.hid (own_below Oout_10l0.out bw_t_43)
            clear bw_t_43
            replace H := guard_hid H
            obtain ⟨hlt_44, H⟩ := H
            replace H := let_hid H
            obtain ⟨t_44, ht_44, H⟩ := H
            have hht_44 := Lib.hid ht_44
            clear ht_44
            have hst_44 := HBw_t_43.out.size
            go_wp2_with (at_builtin; refine wpList_append_own_at _ rfl _ _ 27 rfl w.heap.size 3 i0_3 (.int .i64 0) 1 8 Tryd.underlying27 hi_3 hz0_3 hz1_3 hz2_3 rfl (by decide) _ _ _ rfl Oout_10l0.out ⟨wt_35.heap.size, 0, none⟩ 1 1 [.int .i64 t_20_id] rfl rfl (news_new hw_t_43) (one_cells rfl) (by unfold maxLen; omega) (by omega) hst_44 ?_; intro vt_44 wt_44 ot_44 gt_44 zt_44 yt_44; clear zt_44; obtain ⟨qt_44, ct_44, rfl, pt_44⟩ := own_push hht_44.out (Go.Proofs.YtdgbigkcophjoaaDoor.HelpInt.iv_snoc _ _) rfl ot_44; have Pt_44 := Lib.hid pt_44; have Yt_44 := Lib.hid yt_44; have Gt_44 := Lib.hid gt_44; clear ot_44 gt_44 pt_44 yt_44; refine stop_in ?_)
            refine stop_out ?_
            have HBwt_44 := Lib.hid (HBw_t_43.out.grown Gt_44.out hst_44 (fun q hq => (Oout_10l0.out.lt q hq).1))
            clear hst_44
            replace ct_20_0__245 := cell_other ct_20_0__245 Gt_44.out (apart_old Oout_10l0.out ltt_20)
            replace ct_20_1__246 := cell_other ct_20_1__246 Gt_44.out (apart_old Oout_10l0.out ltt_20)
            replace ct_20_2__247 := cell_other ct_20_2__247 Gt_44.out (apart_old Oout_10l0.out ltt_20)
            replace ct_20_3__248 := cell_other ct_20_3__248 Gt_44.out (apart_old Oout_10l0.out ltt_20)
            clear ct_20_0 ct_20_1 ct_20_2 ct_20_3
            clear Oout_10l0 Yt_44 Gt_44
            replace H := app_hid H
            go_wp2_with fail
            go_roundg m0
            case measure => omega
            case rel => exact ⟨k0 + 1, _, _, _, by omega, by go_num, rfl, H, HBwt_44, Pt_44⟩
        | true =>
          replace H := let_hid H
          obtain ⟨t_26, ht_26, H⟩ := H
          obtain rfl : t_26 = false := ht_26.symm
          replace H := join_hid H
          replace H := ite_f H
          replace H := app_hid H
          replace H := ite_f H
          replace H := app_hid H
          go_wp2_with fail
          go_roundg m0
          case measure => omega
          case rel => exact ⟨k0 + 1, _, _, _, by omega, by go_num, rfl, H, HBwt_25, Oout_10l0⟩
end Go.Proofs.YtdgbigkcophjoaaDoor.GsTurnedCombs

/- loop.example/g01062/laws.rHas as a plain function, and the contract of the program's: where the plain one has an answer, the program has it. Conditions: slices read as lists. -/
namespace Go.Proofs.YtdgbigkcophjoaaDoor.GlRHas
set_option linter.unusedVariables false
set_option linter.unusedSimpArgs false
open Go.RowKit
open Go.Proofs.YtdgbigkcophjoaaDoor.Rowed Go.Proofs.YtdgbigkcophjoaaDoor.Turn Go.Proofs.YtdgbigkcophjoaaDoor.Aid Go.Proofs.YtdgbigkcophjoaaDoor.GoP Go.Proofs.YtdgbigkcophjoaaDoor.GoM

def l0 (list : (List Int)) (x : Int) (k0 : Nat) (s : Unit) (nx0 bk0 : Unit → Option (Bool)) : Option (Bool) :=
  
  Option.bind (idx list (k0 : Int)) fun (yt_8 : Int) =>
  letK (yt_8 == x) fun (t_11 : Bool) =>
  iteK t_11
  (some true)
  (appK nx0 ())

def e0  (s : Unit) : Option (Bool) :=
  
  some false

def P (list : (List Int)) (x : Int) : Option (Bool) :=
  cntK (l0 list x) (list.length) 0 () (e0 )

set_option maxRecDepth 100000 in
set_option maxHeartbeats 2000000 in
theorem C (list : (List Int)) (x : Int) (A0 : Option Addr) (c0 : Nat)  (w : World) (M0 : Hid (Cells w 1 A0 list.length (Go.Proofs.YtdgbigkcophjoaaDoor.HelpInt.iv list))) (N0 : Hid (list.length ≤ 9223372036854775807))  {r : Bool} (H : Hid (P list x = some r)) :
    Calls Tryd.prog 11 #[.slice A0 list.length c0, .int .i64 x] w (Gives (.bool r) w) := by
  have HB := Lib.hid (Below.refl w.heap.size w)
  unfold P at H
  have N0o := N0.out
  go_enter Tryd.func11, Tryd.ntmps11
  go_wp2_with fail
  go_loopg [5] (list.length) (fun m_ v5_ wr => ∃ (k0 : Nat) , k0 + m_ = list.length ∧ v5_ = .int .i64 (k0 : Int) ∧ Hid (cntK (l0 list x) m_ k0 () (e0 ) = some r) ∧ Hid (Below w.heap.size w wr))
  case atStart => exact ⟨0, by omega, rfl, H, HB⟩
  case round =>
    obtain ⟨k0, hkm0, rfl, H, HBwr0⟩ := hrel
    rename World => wr0
    cases gk with
    | zero =>
      obtain rfl : k0 = list.length := by omega
      have hc0 : decide (((list.length : Nat) : Int) < ((list.length : Nat) : Int)) = false := by simp
      replace H := cnt_zero H
      unfold e0 at H
      obtain rfl := ret_hid H
      go_wp2_with fail
      go_ret
      exact ⟨rfl, HBwr0.out⟩
    | succ m0 =>
      have hlt0 : k0 < list.length := by omega
      have hc0 : decide ((k0 : Int) < ((list.length : Nat) : Int)) = true := by simp; omega
      replace H := cnt_succ H
      unfold l0 at H
      replace H := idx_hid H
      obtain ⟨nt_8, yt_8, et_8, lt_8, gt_8, H⟩ := H
      obtain rfl : k0 = nt_8 := by omega
      clear et_8
      obtain ⟨ab_t_8, ao_t_8, zt_8, At_8, z_t_8, ct_8_0⟩ := Go.Proofs.YtdgbigkcophjoaaDoor.HelpInt.Ints.at_ M0.out lt_8
      obtain rfl := Option.some.inj (gt_8.out.symm.trans z_t_8)
      subst At_8
      have ltt_8 := cell_lt ct_8_0
      replace ct_8_0 := cell_below HBwr0.out ct_8_0
      clear z_t_8
      have b0t_8 : (0 : Int) ≤ (k0 : Int) := by omega
      have b1t_8 : (k0 : Int) < ((list.length : Nat) : Int) := by omega
      have b2t_8 : ((k0 : Int)).toNat = k0 := by omega
      replace H := let_hid H
      obtain ⟨t_11, ht_11, H⟩ := H
      cases t_11 with
      | false =>
        replace H := ite_f H
        replace H := app_hid H
        go_wp2_with fail
        go_roundg m0
        case measure => omega
        case rel => exact ⟨k0 + 1, by omega, by go_num, H, HBwr0⟩
      | true =>
        replace H := ite_t H
        obtain rfl := ret_hid H
        go_wp2_with fail
        go_ret
        exact ⟨rfl, HBwr0.out⟩
end Go.Proofs.YtdgbigkcophjoaaDoor.GlRHas

/- loop.example/g01062/impl.SameGauges$1 as a plain function, and the contract of the program's: where the plain one has an answer, the program has it. Conditions: slices read as lists. -/
namespace Go.Proofs.YtdgbigkcophjoaaDoor.GiSameGauges1
set_option linter.unusedVariables false
set_option linter.unusedSimpArgs false
open Go.RowKit
open Go.Proofs.YtdgbigkcophjoaaDoor.Rowed Go.Proofs.YtdgbigkcophjoaaDoor.Turn Go.Proofs.YtdgbigkcophjoaaDoor.Aid Go.Proofs.YtdgbigkcophjoaaDoor.GoP Go.Proofs.YtdgbigkcophjoaaDoor.GoM

def P (y : Go.Proofs.YtdgbigkcophjoaaDoor.PComb.Comb) (hq0_id : Int) (hq0_wide : Int) (hq0_high : Int) (hq0_line : Bool) : Option (Bool) :=
  unComb y fun (y_id : Int) (y_wide : Int) (y_high : Int) (y_line : Bool) =>
  letK (y_wide == hq0_wide) fun (t_6 : Bool) =>
  joinK (fun (t_13 : Bool) =>
  some t_13) fun jt_13 => iteK t_6 (letK (y_high == hq0_high) fun (t_12 : Bool) =>
  appK jt_13 t_12) (appK jt_13 false)

set_option maxRecDepth 100000 in
set_option maxHeartbeats 2000000 in
theorem C (y : Go.Proofs.YtdgbigkcophjoaaDoor.PComb.Comb) (hq0_id : Int) (hq0_wide : Int) (hq0_high : Int) (hq0_line : Bool)  (gq0 : Nat) (w : World)  (Fq0_0h : Hid (w.cell? ⟨gq0, 0, none⟩ = some (.int .i64 hq0_id))) (Fq0_1h : Hid (w.cell? ⟨gq0, 1, none⟩ = some (.int .i64 hq0_wide))) (Fq0_2h : Hid (w.cell? ⟨gq0, 2, none⟩ = some (.int .i64 hq0_high))) (Fq0_3h : Hid (w.cell? ⟨gq0, 3, none⟩ = some (.bool hq0_line))) {r : Bool} (H : Hid (P y hq0_id hq0_wide hq0_high hq0_line = some r)) :
    Calls Tryd.prog 36 #[y.val, .pointer (some ⟨gq0, 0, none⟩)] w (Gives (.bool r) w) := by
  have HB := Lib.hid (Below.refl w.heap.size w)
  unfold P at H
  obtain ⟨y_id, y_wide, y_high, y_line⟩ := y
  replace H := unComb_hid H
  unfold Go.Proofs.YtdgbigkcophjoaaDoor.PComb.Comb.val
  have Fq0_0 := Fq0_0h.out
  have Fq0_1 := Fq0_1h.out
  have Fq0_2 := Fq0_2h.out
  have Fq0_3 := Fq0_3h.out
  go_enter Tryd.func36, Tryd.ntmps36
  obtain ⟨w_y_0, hw_y_0⟩ : ∃ x, w.alloc (.cells #[.int .i64 y_id, .int .i64 y_wide, .int .i64 y_high, .bool y_line] 32) = x := ⟨_, rfl⟩
  have bw_y_0 : Below w.heap.size w w_y_0 := by rw [← hw_y_0]; exact (Below.refl _ _).alloc (Nat.le_refl _) _
  have HBw_y_0 := Lib.hid (Below.step HB.out bw_y_0)
  have Fq0_0__249 := cell_below bw_y_0 Fq0_0
  have Fq0_1__250 := cell_below bw_y_0 Fq0_1
  have Fq0_2__251 := cell_below bw_y_0 Fq0_2
  have Fq0_3__252 := cell_below bw_y_0 Fq0_3
  clear bw_y_0
  have ky_0_0 : w_y_0.cell? ⟨w.heap.size, 0, none⟩ = some (.int .i64 y_id) := by rw [← hw_y_0]; exact box_new _ _ _ 0 _ rfl
  have ky_0_1 : w_y_0.cell? ⟨w.heap.size, 1, none⟩ = some (.int .i64 y_wide) := by rw [← hw_y_0]; exact box_new _ _ _ 1 _ rfl
  have ky_0_2 : w_y_0.cell? ⟨w.heap.size, 2, none⟩ = some (.int .i64 y_high) := by rw [← hw_y_0]; exact box_new _ _ _ 2 _ rfl
  have ky_0_3 : w_y_0.cell? ⟨w.heap.size, 3, none⟩ = some (.bool y_line) := by rw [← hw_y_0]; exact box_new _ _ _ 3 _ rfl
  replace H := let_hid H
  obtain ⟨t_6, ht_6, H⟩ := H
  replace H := join_hid H
  cases t_6 with
  | false =>
    replace H := ite_f H
    replace H := app_hid H
    obtain rfl := ret_hid H
    go_wp2_with fail
    go_ret
    exact ⟨rfl, HBw_y_0.out⟩
  | true =>
    replace H := ite_t H
    replace H := let_hid H
    obtain ⟨t_12, ht_12, H⟩ := H
    replace H := app_hid H
    obtain rfl := ret_hid H
    go_wp2_with fail
    go_ret
    exact ⟨rfl, HBw_y_0.out⟩
end Go.Proofs.YtdgbigkcophjoaaDoor.GiSameGauges1

/- slices.IndexFunc[[]loop.example/g01062/impl.Comb,loop.example/g01062/impl.Comb] as a plain function, and the contract of the program's: where the plain one has an answer, the program has it. Conditions: slices read as lists. -/
namespace Go.Proofs.YtdgbigkcophjoaaDoor.GxSlicesIndexFuncLoopExampleG01062ImplCombLoopExampleG01062ImplCombiSameGauges1
set_option linter.unusedVariables false
set_option linter.unusedSimpArgs false
open Go.RowKit
open Go.Proofs.YtdgbigkcophjoaaDoor.Rowed Go.Proofs.YtdgbigkcophjoaaDoor.Turn Go.Proofs.YtdgbigkcophjoaaDoor.Aid Go.Proofs.YtdgbigkcophjoaaDoor.GoP Go.Proofs.YtdgbigkcophjoaaDoor.GoM

def l0 (s_0 : (List Go.Proofs.YtdgbigkcophjoaaDoor.PComb.Comb)) (hf1_0_id : Int) (hf1_0_wide : Int) (hf1_0_high : Int) (hf1_0_line : Bool) (k0 : Nat) (s : Unit) (nx0 bk0 : Unit → Option (Int)) : Option (Int) :=
  
  Option.bind (idx s_0 (k0 : Int)) fun (yt_10 : Go.Proofs.YtdgbigkcophjoaaDoor.PComb.Comb) =>
  unComb yt_10 fun (t_10_id : Int) (t_10_wide : Int) (t_10_high : Int) (t_10_line : Bool) =>
  Option.bind (Go.Proofs.YtdgbigkcophjoaaDoor.GiSameGauges1.P (Go.Proofs.YtdgbigkcophjoaaDoor.PComb.Comb.mk t_10_id t_10_wide t_10_high t_10_line) hf1_0_id hf1_0_wide hf1_0_high hf1_0_line) fun (t_12 : Bool) =>
  iteK t_12
  (some (k0 : Int))
  (appK nx0 ())

def e0  (s : Unit) : Option (Int) :=
  
  some (-1)

def P (s_0 : (List Go.Proofs.YtdgbigkcophjoaaDoor.PComb.Comb)) (hf1_0_id : Int) (hf1_0_wide : Int) (hf1_0_high : Int) (hf1_0_line : Bool) : Option (Int) :=
  cntK (l0 s_0 hf1_0_id hf1_0_wide hf1_0_high hf1_0_line) (s_0.length) 0 () (e0 )

set_option maxRecDepth 100000 in
set_option maxHeartbeats 2000000 in
theorem C (s_0 : (List Go.Proofs.YtdgbigkcophjoaaDoor.PComb.Comb)) (hf1_0_id : Int) (hf1_0_wide : Int) (hf1_0_high : Int) (hf1_0_line : Bool) (A0 : Option Addr) (c0 : Nat) (gf1_0 : Nat) (w : World) (M0 : Hid (Cells w 4 A0 s_0.length (Go.Proofs.YtdgbigkcophjoaaDoor.PComb.flat s_0))) (N0 : Hid (s_0.length ≤ 9223372036854775807)) (Ff1_0_0h : Hid (w.cell? ⟨gf1_0, 0, none⟩ = some (.int .i64 hf1_0_id))) (Ff1_0_1h : Hid (w.cell? ⟨gf1_0, 1, none⟩ = some (.int .i64 hf1_0_wide))) (Ff1_0_2h : Hid (w.cell? ⟨gf1_0, 2, none⟩ = some (.int .i64 hf1_0_high))) (Ff1_0_3h : Hid (w.cell? ⟨gf1_0, 3, none⟩ = some (.bool hf1_0_line))) {r : Int} (H : Hid (P s_0 hf1_0_id hf1_0_wide hf1_0_high hf1_0_line = some r)) :
    Calls Tryd.prog 58 #[.slice A0 s_0.length c0, .func (.func 36) #[] #[.pointer (some ⟨gf1_0, 0, none⟩)]] w (Gives (.int .i64 r) w) := by
  have HB := Lib.hid (Below.refl w.heap.size w)
  unfold P at H
  have N0o := N0.out
  have Ff1_0_0 := Ff1_0_0h.out
  have Ff1_0_1 := Ff1_0_1h.out
  have Ff1_0_2 := Ff1_0_2h.out
  have Ff1_0_3 := Ff1_0_3h.out
  go_enter Tryd.func58, Tryd.ntmps58
  go_wp2_with fail
  go_loopg [8] (s_0.length) (fun m_ v8_ wr => ∃ (k0 : Nat) , k0 + m_ = s_0.length ∧ v8_ = .int .i64 (k0 : Int) ∧ Hid (cntK (l0 s_0 hf1_0_id hf1_0_wide hf1_0_high hf1_0_line) m_ k0 () (e0 ) = some r) ∧ Hid (Below w.heap.size w wr) ∧ wr.cell? ⟨gf1_0, 0, none⟩ = some (.int .i64 hf1_0_id) ∧ wr.cell? ⟨gf1_0, 1, none⟩ = some (.int .i64 hf1_0_wide) ∧ wr.cell? ⟨gf1_0, 2, none⟩ = some (.int .i64 hf1_0_high) ∧ wr.cell? ⟨gf1_0, 3, none⟩ = some (.bool hf1_0_line))
  case atStart => exact ⟨0, by omega, rfl, H, HB, Ff1_0_0, Ff1_0_1, Ff1_0_2, Ff1_0_3⟩
  case round =>
    obtain ⟨k0, hkm0, rfl, H, HBwr0, Ff1_0_0, Ff1_0_1, Ff1_0_2, Ff1_0_3⟩ := hrel
    rename World => wr0
    cases gk with
    | zero =>
      obtain rfl : k0 = s_0.length := by omega
      have hc0 : decide (((s_0.length : Nat) : Int) < ((s_0.length : Nat) : Int)) = false := by simp
      replace H := cnt_zero H
      unfold e0 at H
      obtain rfl := ret_hid H
      go_wp2_with fail
      go_ret
      exact ⟨rfl, HBwr0.out⟩
    | succ m0 =>
      have hlt0 : k0 < s_0.length := by omega
      have hc0 : decide ((k0 : Int) < ((s_0.length : Nat) : Int)) = true := by simp; omega
      replace H := cnt_succ H
      unfold l0 at H
      replace H := idx_hid H
      obtain ⟨nt_10, yt_10, et_10, lt_10, gt_10, H⟩ := H
      obtain rfl : k0 = nt_10 := by omega
      clear et_10
      obtain ⟨t_10_id, t_10_wide, t_10_high, t_10_line⟩ := yt_10
      replace H := unComb_hid H
      obtain ⟨ab_t_10, ao_t_10, zt_10, At_10, z_t_10, ct_10_0, ct_10_1, ct_10_2, ct_10_3⟩ := Go.Proofs.YtdgbigkcophjoaaDoor.OComb.at_ M0.out lt_10
      obtain rfl := Option.some.inj (gt_10.out.symm.trans z_t_10)
      subst At_10
      have ltt_10 := cell_lt ct_10_0
      replace ct_10_0 := cell_below HBwr0.out ct_10_0
      replace ct_10_1 := cell_below HBwr0.out ct_10_1
      replace ct_10_2 := cell_below HBwr0.out ct_10_2
      replace ct_10_3 := cell_below HBwr0.out ct_10_3
      clear z_t_10
      have b0t_10 : (0 : Int) ≤ (k0 : Int) := by omega
      have b1t_10 : (k0 : Int) < ((s_0.length : Nat) : Int) := by omega
      have b2t_10 : ((k0 : Int)).toNat = k0 := by omega
      replace H := bind_hid H
      obtain ⟨t_12, qt_12, H⟩ := H
      go_wp2_with fail
      go_at_call 36
      refine (Go.Proofs.YtdgbigkcophjoaaDoor.GiSameGauges1.C ((Go.Proofs.YtdgbigkcophjoaaDoor.PComb.Comb.mk t_10_id t_10_wide t_10_high t_10_line)) (hf1_0_id) (hf1_0_wide) (hf1_0_high) (hf1_0_line) (gf1_0) _   (Lib.hid Ff1_0_0) (Lib.hid Ff1_0_1) (Lib.hid Ff1_0_2) (Lib.hid Ff1_0_3) qt_12).mono ?_
      rintro e_t_12 wt_12 ⟨rfl, bt_12⟩
      have HBwt_12 := Lib.hid (Below.step HBwr0.out bt_12)
      replace Ff1_0_0 := cell_below bt_12 Ff1_0_0
      replace Ff1_0_1 := cell_below bt_12 Ff1_0_1
      replace Ff1_0_2 := cell_below bt_12 Ff1_0_2
      replace Ff1_0_3 := cell_below bt_12 Ff1_0_3
      replace ct_10_0 := cell_below bt_12 ct_10_0
      replace ct_10_1 := cell_below bt_12 ct_10_1
      replace ct_10_2 := cell_below bt_12 ct_10_2
      replace ct_10_3 := cell_below bt_12 ct_10_3
      clear bt_12
      cases t_12 with
      | false =>
        replace H := ite_f H
        replace H := app_hid H
        go_wp2_with fail
        go_roundg m0
        case measure => omega
        case rel => exact ⟨k0 + 1, by omega, by go_num, H, HBwt_12, Ff1_0_0, Ff1_0_1, Ff1_0_2, Ff1_0_3⟩
      | true =>
        replace H := ite_t H
        obtain rfl := ret_hid H
        go_wp2_with fail
        go_ret
        exact ⟨rfl, HBwt_12.out⟩
end Go.Proofs.YtdgbigkcophjoaaDoor.GxSlicesIndexFuncLoopExampleG01062ImplCombLoopExampleG01062ImplCombiSameGauges1

/- slices.ContainsFunc[[]loop.example/g01062/impl.Comb,loop.example/g01062/impl.Comb] as a plain function, and the contract of the program's: where the plain one has an answer, the program has it. Conditions: slices read as lists. -/
namespace Go.Proofs.YtdgbigkcophjoaaDoor.GxSlicesContainsFuncLoopExampleG01062ImplCombLoopExampleG01062ImplCombiSameGauges1
set_option linter.unusedVariables false
set_option linter.unusedSimpArgs false
open Go.RowKit
open Go.Proofs.YtdgbigkcophjoaaDoor.Rowed Go.Proofs.YtdgbigkcophjoaaDoor.Turn Go.Proofs.YtdgbigkcophjoaaDoor.Aid Go.Proofs.YtdgbigkcophjoaaDoor.GoP Go.Proofs.YtdgbigkcophjoaaDoor.GoM

def P (s_0 : (List Go.Proofs.YtdgbigkcophjoaaDoor.PComb.Comb)) (hf1_0_id : Int) (hf1_0_wide : Int) (hf1_0_high : Int) (hf1_0_line : Bool) : Option (Bool) :=
  Option.bind (Go.Proofs.YtdgbigkcophjoaaDoor.GxSlicesIndexFuncLoopExampleG01062ImplCombLoopExampleG01062ImplCombiSameGauges1.P s_0 hf1_0_id hf1_0_wide hf1_0_high hf1_0_line) fun (t_3 : Int) =>
  letK (decide (0 ≤ t_3)) fun (t_4 : Bool) =>
  some t_4

set_option maxRecDepth 100000 in
set_option maxHeartbeats 2000000 in
theorem C (s_0 : (List Go.Proofs.YtdgbigkcophjoaaDoor.PComb.Comb)) (hf1_0_id : Int) (hf1_0_wide : Int) (hf1_0_high : Int) (hf1_0_line : Bool) (A0 : Option Addr) (c0 : Nat) (gf1_0 : Nat) (w : World) (M0 : Hid (Cells w 4 A0 s_0.length (Go.Proofs.YtdgbigkcophjoaaDoor.PComb.flat s_0))) (N0 : Hid (s_0.length ≤ 9223372036854775807)) (Ff1_0_0h : Hid (w.cell? ⟨gf1_0, 0, none⟩ = some (.int .i64 hf1_0_id))) (Ff1_0_1h : Hid (w.cell? ⟨gf1_0, 1, none⟩ = some (.int .i64 hf1_0_wide))) (Ff1_0_2h : Hid (w.cell? ⟨gf1_0, 2, none⟩ = some (.int .i64 hf1_0_high))) (Ff1_0_3h : Hid (w.cell? ⟨gf1_0, 3, none⟩ = some (.bool hf1_0_line))) {r : Bool} (H : Hid (P s_0 hf1_0_id hf1_0_wide hf1_0_high hf1_0_line = some r)) :
    Calls Tryd.prog 37 #[.slice A0 s_0.length c0, .func (.func 36) #[] #[.pointer (some ⟨gf1_0, 0, none⟩)]] w (Gives (.bool r) w) := by
  have HB := Lib.hid (Below.refl w.heap.size w)
  unfold P at H
  have N0o := N0.out
  have Ff1_0_0 := Ff1_0_0h.out
  have Ff1_0_1 := Ff1_0_1h.out
  have Ff1_0_2 := Ff1_0_2h.out
  have Ff1_0_3 := Ff1_0_3h.out
  go_enter Tryd.func37, Tryd.ntmps37
  replace H := bind_hid H
  obtain ⟨t_3, qt_3, H⟩ := H
  go_wp2_with fail
  go_at_call 58
  refine (Go.Proofs.YtdgbigkcophjoaaDoor.GxSlicesIndexFuncLoopExampleG01062ImplCombLoopExampleG01062ImplCombiSameGauges1.C (s_0) (hf1_0_id) (hf1_0_wide) (hf1_0_high) (hf1_0_line) A0 c0 (gf1_0) _   (Lib.hid (Cells.below M0.out HB.out)) N0 (Lib.hid Ff1_0_0) (Lib.hid Ff1_0_1) (Lib.hid Ff1_0_2) (Lib.hid Ff1_0_3) qt_3).mono ?_
  rintro e_t_3 wt_3 ⟨rfl, bt_3⟩
  have HBwt_3 := Lib.hid (Below.step HB.out bt_3)
  replace Ff1_0_0 := cell_below bt_3 Ff1_0_0
  replace Ff1_0_1 := cell_below bt_3 Ff1_0_1
  replace Ff1_0_2 := cell_below bt_3 Ff1_0_2
  replace Ff1_0_3 := cell_below bt_3 Ff1_0_3
  clear bt_3
  replace H := let_hid H
  obtain ⟨t_4, ht_4, H⟩ := H
  obtain rfl := ret_hid H
  go_wp2_with fail
  go_ret
  exact ⟨rfl, HBwt_3.out⟩
end Go.Proofs.YtdgbigkcophjoaaDoor.GxSlicesContainsFuncLoopExampleG01062ImplCombLoopExampleG01062ImplCombiSameGauges1

/- loop.example/g01062/impl.keysWhere[loop.example/g01062/impl.Comb,int] as a plain function, and the contract of the program's: where the plain one has an answer, the program has it. Conditions: slices read as lists. -/
namespace Go.Proofs.YtdgbigkcophjoaaDoor.GiKeysWhereCombIntiIdOfCombiSameGauges1
set_option linter.unusedVariables false
set_option linter.unusedSimpArgs false
open Go.RowKit
open Go.Proofs.YtdgbigkcophjoaaDoor.Rowed Go.Proofs.YtdgbigkcophjoaaDoor.Turn Go.Proofs.YtdgbigkcophjoaaDoor.Aid Go.Proofs.YtdgbigkcophjoaaDoor.GoP Go.Proofs.YtdgbigkcophjoaaDoor.GoM

def l0 (list : (List Go.Proofs.YtdgbigkcophjoaaDoor.PComb.Comb)) (hf2_0_id : Int) (hf2_0_wide : Int) (hf2_0_high : Int) (hf2_0_line : Bool) (k0 : Nat) (s : (List Int)) (nx0 bk0 : (List Int) → Option ((List Int))) : Option ((List Int)) :=
  letK s fun keys_7l0 =>
  Option.bind (idx list (k0 : Int)) fun (yt_7 : Go.Proofs.YtdgbigkcophjoaaDoor.PComb.Comb) =>
  unComb yt_7 fun (t_7_id : Int) (t_7_wide : Int) (t_7_high : Int) (t_7_line : Bool) =>
  Option.bind (Go.Proofs.YtdgbigkcophjoaaDoor.GiSameGauges1.P (Go.Proofs.YtdgbigkcophjoaaDoor.PComb.Comb.mk t_7_id t_7_wide t_7_high t_7_line) hf2_0_id hf2_0_wide hf2_0_high hf2_0_line) fun (t_13 : Bool) =>
  iteK t_13
  (Option.bind (Go.Proofs.YtdgbigkcophjoaaDoor.GiIdOfComb.P (Go.Proofs.YtdgbigkcophjoaaDoor.PComb.Comb.mk t_7_id t_7_wide t_7_high t_7_line)) fun (t_17 : Int) =>
  guardK (keys_7l0.length ≤ 1099511627776) <|
  letK (keys_7l0 ++ [t_17]) fun (t_19 : (List Int)) =>
  appK nx0 (t_19))
  (appK nx0 (keys_7l0))

def e0  (s : (List Int)) : Option ((List Int)) :=
  letK s fun keys_7l0 =>
  some keys_7l0

def P (list : (List Go.Proofs.YtdgbigkcophjoaaDoor.PComb.Comb)) (hf2_0_id : Int) (hf2_0_wide : Int) (hf2_0_high : Int) (hf2_0_line : Bool) : Option ((List Int)) :=
  cntK (l0 list hf2_0_id hf2_0_wide hf2_0_high hf2_0_line) (list.length) 0 (([] : List Int)) (e0 )

set_option maxRecDepth 100000 in
set_option maxHeartbeats 2000000 in
theorem C (list : (List Go.Proofs.YtdgbigkcophjoaaDoor.PComb.Comb)) (hf2_0_id : Int) (hf2_0_wide : Int) (hf2_0_high : Int) (hf2_0_line : Bool) (A0 : Option Addr) (c0 : Nat) (gf2_0 : Nat) (w : World) (M0 : Hid (Cells w 4 A0 list.length (Go.Proofs.YtdgbigkcophjoaaDoor.PComb.flat list))) (N0 : Hid (list.length ≤ 9223372036854775807)) (Ff2_0_0h : Hid (w.cell? ⟨gf2_0, 0, none⟩ = some (.int .i64 hf2_0_id))) (Ff2_0_1h : Hid (w.cell? ⟨gf2_0, 1, none⟩ = some (.int .i64 hf2_0_wide))) (Ff2_0_2h : Hid (w.cell? ⟨gf2_0, 2, none⟩ = some (.int .i64 hf2_0_high))) (Ff2_0_3h : Hid (w.cell? ⟨gf2_0, 3, none⟩ = some (.bool hf2_0_line))) {r : (List Int)} (H : Hid (P list hf2_0_id hf2_0_wide hf2_0_high hf2_0_line = some r)) :
    Calls Tryd.prog 29 #[.slice A0 list.length c0, .func (.func 30) #[] #[], .func (.func 36) #[] #[.pointer (some ⟨gf2_0, 0, none⟩)]] w (fun e w' => ∃ A_r c_r, e = .returned (.slice A_r r.length c_r) ∧ w'.ownsRow w.heap.size 3 1 (.slice A_r r.length c_r) r.length (Go.Proofs.YtdgbigkcophjoaaDoor.HelpInt.iv r) ∧ Below w.heap.size w w') := by
  have HB := Lib.hid (Below.refl w.heap.size w)
  unfold P at H
  have N0o := N0.out
  have Ff2_0_0 := Ff2_0_0h.out
  have Ff2_0_1 := Ff2_0_1h.out
  have Ff2_0_2 := Ff2_0_2h.out
  have Ff2_0_3 := Ff2_0_3h.out
  obtain ⟨i0_3, hi_3, hz0_3, hz1_3, hz2_3⟩ := Aid.info_parts (P := Tryd.prog) (T := 3) (z := .int .i64 0) (s := 1) (b := 8) (by kernel_rfl)
  go_enter Tryd.func29, Tryd.ntmps29
  obtain ⟨w_t_1, hw_t_1⟩ : ∃ x, w.alloc (.cells #[] 3) = x := ⟨_, rfl⟩
  have bw_t_1 : Below w.heap.size w w_t_1 := by rw [← hw_t_1]; exact (Below.refl _ _).alloc (Nat.le_refl _) _
  have Ot_1 : Hid (w_t_1.ownsRow w.heap.size 3 1 (.slice (some ⟨w.heap.size, 0, none⟩) 0 0) 0 []) := Lib.hid (by rw [← hw_t_1]; exact own_empty HB.out.size)
  have HBw_t_1 := Lib.hid (Below.step HB.out bw_t_1)
  have Ff2_0_0__253 := cell_below bw_t_1 Ff2_0_0
  have Ff2_0_1__254 := cell_below bw_t_1 Ff2_0_1
  have Ff2_0_2__255 := cell_below bw_t_1 Ff2_0_2
  have Ff2_0_3__256 := cell_below bw_t_1 Ff2_0_3
  clear bw_t_1
  go_wp2_with fail
  clear Ff2_0_0 Ff2_0_1 Ff2_0_2 Ff2_0_3
  go_loopg [13, 7] (list.length) (fun m_ v13_ v7_ wr => ∃ (k0 : Nat) (keys_7l0 : (List Int)) (Akeys_7l0 : Option Addr) (ckeys_7l0 : Nat), k0 + m_ = list.length ∧ v13_ = .int .i64 (k0 : Int) ∧ v7_ = .slice Akeys_7l0 keys_7l0.length ckeys_7l0 ∧ Hid (cntK (l0 list hf2_0_id hf2_0_wide hf2_0_high hf2_0_line) m_ k0 (keys_7l0) (e0 ) = some r) ∧ Hid (Below w.heap.size w wr) ∧ wr.cell? ⟨gf2_0, 0, none⟩ = some (.int .i64 hf2_0_id) ∧ wr.cell? ⟨gf2_0, 1, none⟩ = some (.int .i64 hf2_0_wide) ∧ wr.cell? ⟨gf2_0, 2, none⟩ = some (.int .i64 hf2_0_high) ∧ wr.cell? ⟨gf2_0, 3, none⟩ = some (.bool hf2_0_line) ∧ Hid (wr.ownsRow w.heap.size 3 1 (.slice Akeys_7l0 keys_7l0.length ckeys_7l0) keys_7l0.length (Go.Proofs.YtdgbigkcophjoaaDoor.HelpInt.iv keys_7l0)))
  case atStart => exact ⟨0, _, _, _, by omega, rfl, rfl, H, HBw_t_1, Ff2_0_0__253, Ff2_0_1__254, Ff2_0_2__255, Ff2_0_3__256, Ot_1⟩
  case round =>
    obtain ⟨k0, keys_7l0, Akeys_7l0, ckeys_7l0, hkm0, rfl, rfl, H, HBwr0, Ff2_0_0__253, Ff2_0_1__254, Ff2_0_2__255, Ff2_0_3__256, Okeys_7l0⟩ := hrel
    rename World => wr0
    cases gk with
    | zero =>
      obtain rfl : k0 = list.length := by omega
      have hc0 : decide (((list.length : Nat) : Int) < ((list.length : Nat) : Int)) = false := by simp
      replace H := cnt_zero H
      unfold e0 at H
      replace H := let_hid H
      obtain ⟨_, rfl, H⟩ := H
      obtain rfl := ret_hid H
      go_wp2_with fail
      go_ret
      exact ⟨Akeys_7l0, ckeys_7l0, rfl, Okeys_7l0.out, HBwr0.out⟩
    | succ m0 =>
      have hlt0 : k0 < list.length := by omega
      have hc0 : decide ((k0 : Int) < ((list.length : Nat) : Int)) = true := by simp; omega
      replace H := cnt_succ H
      unfold l0 at H
      replace H := let_hid H
      obtain ⟨_, rfl, H⟩ := H
      replace H := idx_hid H
      obtain ⟨nt_7, yt_7, et_7, lt_7, gt_7, H⟩ := H
      obtain rfl : k0 = nt_7 := by omega
      clear et_7
      obtain ⟨t_7_id, t_7_wide, t_7_high, t_7_line⟩ := yt_7
      replace H := unComb_hid H
      obtain ⟨ab_t_7, ao_t_7, zt_7, At_7, z_t_7, ct_7_0, ct_7_1, ct_7_2, ct_7_3⟩ := Go.Proofs.YtdgbigkcophjoaaDoor.OComb.at_ M0.out lt_7
      obtain rfl := Option.some.inj (gt_7.out.symm.trans z_t_7)
      subst At_7
      have ltt_7 := cell_lt ct_7_0
      replace ct_7_0 := cell_below HBwr0.out ct_7_0
      replace ct_7_1 := cell_below HBwr0.out ct_7_1
      replace ct_7_2 := cell_below HBwr0.out ct_7_2
      replace ct_7_3 := cell_below HBwr0.out ct_7_3
      clear z_t_7
      have b0t_7 : (0 : Int) ≤ (k0 : Int) := by omega
      have b1t_7 : (k0 : Int) < ((list.length : Nat) : Int) := by omega
      have b2t_7 : ((k0 : Int)).toNat = k0 := by omega
      obtain ⟨w_e_9, hw_e_9⟩ : ∃ x, wr0.alloc (.cells #[.int .i64 t_7_id, .int .i64 t_7_wide, .int .i64 t_7_high, .bool t_7_line] 32) = x := ⟨_, rfl⟩
      have bw_e_9 : Below wr0.heap.size wr0 w_e_9 := by rw [← hw_e_9]; exact (Below.refl _ _).alloc (Nat.le_refl _) _
      have De_9_keys_7l0 := Lib.hid (apart_fresh Okeys_7l0.out)
      have HBw_e_9 := Lib.hid (Below.step HBwr0.out bw_e_9)
      have Ff2_0_0__257 := cell_below bw_e_9 Ff2_0_0__253
      have Ff2_0_1__258 := cell_below bw_e_9 Ff2_0_1__254
      have Ff2_0_2__259 := cell_below bw_e_9 Ff2_0_2__255
      have Ff2_0_3__260 := cell_below bw_e_9 Ff2_0_3__256
      have ct_7_0__261 := cell_below bw_e_9 ct_7_0
      have ct_7_1__262 := cell_below bw_e_9 ct_7_1
      have ct_7_2__263 := cell_below bw_e_9 ct_7_2
      have ct_7_3__264 := cell_below bw_e_9 ct_7_3
      replace Okeys_7l0 := Lib.hid (own_below Okeys_7l0.out bw_e_9)
      clear bw_e_9
      have ke_9_0 : w_e_9.cell? ⟨wr0.heap.size, 0, none⟩ = some (.int .i64 t_7_id) := by rw [← hw_e_9]; exact box_new _ _ _ 0 _ rfl
      have ke_9_1 : w_e_9.cell? ⟨wr0.heap.size, 1, none⟩ = some (.int .i64 t_7_wide) := by rw [← hw_e_9]; exact box_new _ _ _ 1 _ rfl
      have ke_9_2 : w_e_9.cell? ⟨wr0.heap.size, 2, none⟩ = some (.int .i64 t_7_high) := by rw [← hw_e_9]; exact box_new _ _ _ 2 _ rfl
      have ke_9_3 : w_e_9.cell? ⟨wr0.heap.size, 3, none⟩ = some (.bool t_7_line) := by rw [← hw_e_9]; exact box_new _ _ _ 3 _ rfl
      replace H := bind_hid H
      obtain ⟨t_13, qt_13, H⟩ := H
      go_wp2_with fail
      clear Ff2_0_0__253 Ff2_0_1__254 Ff2_0_2__255 Ff2_0_3__256 ct_7_0 ct_7_1 ct_7_2 ct_7_3
      go_at_call 36
      refine (Go.Proofs.YtdgbigkcophjoaaDoor.GiSameGauges1.C ((Go.Proofs.YtdgbigkcophjoaaDoor.PComb.Comb.mk t_7_id t_7_wide t_7_high t_7_line)) (hf2_0_id) (hf2_0_wide) (hf2_0_high) (hf2_0_line) (gf2_0) _   (Lib.hid Ff2_0_0__257) (Lib.hid Ff2_0_1__258) (Lib.hid Ff2_0_2__259) (Lib.hid Ff2_0_3__260) qt_13).mono ?_
      rintro e_t_13 wt_13 ⟨rfl, bt_13⟩
      have HBwt_13 := Lib.hid (Below.step HBw_e_9.out bt_13)
      replace Ff2_0_0__257 := cell_below bt_13 Ff2_0_0__257
      replace Ff2_0_1__258 := cell_below bt_13 Ff2_0_1__258
      replace Ff2_0_2__259 := cell_below bt_13 Ff2_0_2__259
      replace Ff2_0_3__260 := cell_below bt_13 Ff2_0_3__260
      replace ct_7_0__261 := cell_below bt_13 ct_7_0__261
      replace ct_7_1__262 := cell_below bt_13 ct_7_1__262
      replace ct_7_2__263 := cell_below bt_13 ct_7_2__263
      replace ct_7_3__264 := cell_below bt_13 ct_7_3__264
      replace ke_9_0 := cell_below bt_13 ke_9_0
      replace ke_9_1 := cell_below bt_13 ke_9_1
      replace ke_9_2 := cell_below bt_13 ke_9_2
      replace ke_9_3 := cell_below bt_13 ke_9_3
      replace Okeys_7l0 := Lib.hid (own_below Okeys_7l0.out bt_13)
      clear bt_13
      cases t_13 with
      | false =>
        replace H := ite_f H
        replace H := app_hid H
        go_wp2_with fail
        go_roundg m0
        case measure => omega
        case rel => exact ⟨k0 + 1, _, _, _, by omega, by go_num, rfl, H, HBwt_13, Ff2_0_0__257, Ff2_0_1__258, Ff2_0_2__259, Ff2_0_3__260, Okeys_7l0⟩
      | true =>
        replace H := ite_t H
        replace H := bind_hid H
        obtain ⟨t_17, qt_17, H⟩ := H
        go_wp2_with fail
        go_at_call 30
        refine (Go.Proofs.YtdgbigkcophjoaaDoor.GiIdOfComb.C ((Go.Proofs.YtdgbigkcophjoaaDoor.PComb.Comb.mk t_7_id t_7_wide t_7_high t_7_line))  _    qt_17).mono ?_
        rintro e_t_17 wt_17 ⟨rfl, bt_17⟩
        have HBwt_17 := Lib.hid (Below.step HBwt_13.out bt_17)
        replace Ff2_0_0__257 := cell_below bt_17 Ff2_0_0__257
        replace Ff2_0_1__258 := cell_below bt_17 Ff2_0_1__258
        replace Ff2_0_2__259 := cell_below bt_17 Ff2_0_2__259
        replace Ff2_0_3__260 := cell_below bt_17 Ff2_0_3__260
        replace ct_7_0__261 := cell_below bt_17 ct_7_0__261
        replace ct_7_1__262 := cell_below bt_17 ct_7_1__262
        replace ct_7_2__263 := cell_below bt_17 ct_7_2__263
        replace ct_7_3__264 := cell_below bt_17 ct_7_3__264
        replace ke_9_0 := cell_below bt_17 ke_9_0
        replace ke_9_1 := cell_below bt_17 ke_9_1
        replace ke_9_2 := cell_below bt_17 ke_9_2
        replace ke_9_3 := cell_below bt_17 ke_9_3
        replace Okeys_7l0 := Lib.hid (own_below Okeys_7l0.out bt_17)
        clear bt_17
        obtain ⟨w_t_18, hw_t_18⟩ : ∃ x, wt_17.alloc (.cells #[.int .i64 t_17] 3) = x := ⟨_, rfl⟩
        have bw_t_18 : Below wt_17.heap.size wt_17 w_t_18 := by rw [← hw_t_18]; exact (Below.refl _ _).alloc (Nat.le_refl _) _
        have HBw_t_18 := Lib.hid (Below.step HBwt_17.out bw_t_18)
        have Ff2_0_0__265 := cell_below bw_t_18 Ff2_0_0__257
        have Ff2_0_1__266 := cell_below bw_t_18 Ff2_0_1__258
        have Ff2_0_2__267 := cell_below bw_t_18 Ff2_0_2__259
        have Ff2_0_3__268 := cell_below bw_t_18 Ff2_0_3__260
        have ct_7_0__269 := cell_below bw_t_18 ct_7_0__261
        have ct_7_1__270 := cell_below bw_t_18 ct_7_1__262
        have ct_7_2__271 := cell_below bw_t_18 ct_7_2__263
        have ct_7_3__272 := cell_below bw_t_18 ct_7_3__264
        have ke_9_0__273 := cell_below bw_t_18 ke_9_0
        have ke_9_1__274 := cell_below bw_t_18 ke_9_1
        have ke_9_2__275 := cell_below bw_t_18 ke_9_2
        have ke_9_3__276 := cell_below bw_t_18 ke_9_3
        replace Okeys_7l0 := Lib.hid (own_below Okeys_7l0.out bw_t_18)
        clear bw_t_18
        replace H := guard_hid H
        obtain ⟨hlt_19, H⟩ := H
        replace H := let_hid H
        obtain ⟨t_19, ht_19, H⟩ := H
        have hht_19 := Lib.hid ht_19
        clear ht_19
        have hst_19 := HBw_t_18.out.size
        go_wp2_with (at_builtin; refine wpList_append_own_at _ rfl _ _ 27 rfl w.heap.size 3 i0_3 (.int .i64 0) 1 8 Tryd.underlying27 hi_3 hz0_3 hz1_3 hz2_3 rfl (by decide) _ _ _ rfl Okeys_7l0.out ⟨wt_17.heap.size, 0, none⟩ 1 1 [.int .i64 t_17] rfl rfl (news_new hw_t_18) (one_cells rfl) (by unfold maxLen; omega) (by omega) hst_19 ?_; intro vt_19 wt_19 ot_19 gt_19 zt_19 yt_19; clear zt_19; obtain ⟨qt_19, ct_19, rfl, pt_19⟩ := own_push hht_19.out (Go.Proofs.YtdgbigkcophjoaaDoor.HelpInt.iv_snoc _ _) rfl ot_19; have Pt_19 := Lib.hid pt_19; have Yt_19 := Lib.hid yt_19; have Gt_19 := Lib.hid gt_19; clear ot_19 gt_19 pt_19 yt_19; refine stop_in ?_)
        refine stop_out ?_
        have HBwt_19 := Lib.hid (HBw_t_18.out.grown Gt_19.out hst_19 (fun q hq => (Okeys_7l0.out.lt q hq).1))
        clear hst_19
        have Dt_19_e_9 : Hid (Apart (some ⟨qt_19, 0, none⟩) _) := Lib.hid (apart_app (Apart.symm De_9_keys_7l0.out) (fun a_ ha_ => by cases ha_; exact cell_lt ke_9_0__273) Yt_19.out)
        replace Ff2_0_0__265 := cell_below HBwt_19.out Ff2_0_0h.out
        replace Ff2_0_1__266 := cell_below HBwt_19.out Ff2_0_1h.out
        replace Ff2_0_2__267 := cell_below HBwt_19.out Ff2_0_2h.out
        replace Ff2_0_3__268 := cell_below HBwt_19.out Ff2_0_3h.out
        replace ct_7_0__269 := cell_other ct_7_0__269 Gt_19.out (apart_old Okeys_7l0.out ltt_7)
        replace ct_7_1__270 := cell_other ct_7_1__270 Gt_19.out (apart_old Okeys_7l0.out ltt_7)
        replace ct_7_2__271 := cell_other ct_7_2__271 Gt_19.out (apart_old Okeys_7l0.out ltt_7)
        replace ct_7_3__272 := cell_other ct_7_3__272 Gt_19.out (apart_old Okeys_7l0.out ltt_7)
        replace ke_9_0__273 := cell_other ke_9_0__273 Gt_19.out (Apart.symm De_9_keys_7l0.out)
        replace ke_9_1__274 := cell_other ke_9_1__274 Gt_19.out (Apart.symm De_9_keys_7l0.out)
        replace ke_9_2__275 := cell_other ke_9_2__275 Gt_19.out (Apart.symm De_9_keys_7l0.out)
        replace ke_9_3__276 := cell_other ke_9_3__276 Gt_19.out (Apart.symm De_9_keys_7l0.out)
        clear Ff2_0_0__257 Ff2_0_1__258 Ff2_0_2__259 Ff2_0_3__260 ct_7_0__261 ct_7_1__262 ct_7_2__263 ct_7_3__264 ke_9_0 ke_9_1 ke_9_2 ke_9_3
        clear Okeys_7l0 Yt_19 Gt_19
        replace H := app_hid H
        go_wp2_with fail
        go_roundg m0
        case measure => omega
        case rel => exact ⟨k0 + 1, _, _, _, by omega, by go_num, rfl, H, HBwt_19, Ff2_0_0__265, Ff2_0_1__266, Ff2_0_2__267, Ff2_0_3__268, Pt_19⟩
end Go.Proofs.YtdgbigkcophjoaaDoor.GiKeysWhereCombIntiIdOfCombiSameGauges1

/- loop.example/g01062/impl.SameGauges as a plain function, and the contract of the program's: where the plain one has an answer, the program has it. Conditions: slices read as lists. -/
namespace Go.Proofs.YtdgbigkcophjoaaDoor.GiSameGauges
set_option linter.unusedVariables false
set_option linter.unusedSimpArgs false
open Go.RowKit
open Go.Proofs.YtdgbigkcophjoaaDoor.Rowed Go.Proofs.YtdgbigkcophjoaaDoor.Turn Go.Proofs.YtdgbigkcophjoaaDoor.Aid Go.Proofs.YtdgbigkcophjoaaDoor.GoP Go.Proofs.YtdgbigkcophjoaaDoor.GoM

def l0 (list : (List Go.Proofs.YtdgbigkcophjoaaDoor.PComb.Comb)) (k0 : Nat) (s : (List (List Int))) (nx0 bk0 : (List (List Int)) → Option ((List (List Int)) × Bool)) : Option ((List (List Int)) × Bool) :=
  letK s fun groups_4l0 =>
  Option.bind (idx list (k0 : Int)) fun (yt_15 : Go.Proofs.YtdgbigkcophjoaaDoor.PComb.Comb) =>
  unComb yt_15 fun (t_15_id : Int) (t_15_wide : Int) (t_15_high : Int) (t_15_line : Bool) =>
  guardK ((0 : Int) ≤ (k0 : Int) ∧ ((k0 : Int) : Int) ≤ (list.length : Int)) <|
  letK (List.take (Int.toNat (k0 : Int)) list) fun (t_24 : (List Go.Proofs.YtdgbigkcophjoaaDoor.PComb.Comb)) =>
  Option.bind (Go.Proofs.YtdgbigkcophjoaaDoor.GxSlicesContainsFuncLoopExampleG01062ImplCombLoopExampleG01062ImplCombiSameGauges1.P t_24 t_15_id t_15_wide t_15_high t_15_line) fun (t_26 : Bool) =>
  letK (!t_26) fun (t_27 : Bool) =>
  iteK t_27
  (Option.bind (Go.Proofs.YtdgbigkcophjoaaDoor.GiKeysWhereCombIntiIdOfCombiSameGauges1.P list t_15_id t_15_wide t_15_high t_15_line) fun (t_31 : (List Int)) =>
  guardK (groups_4l0.length ≤ 1099511627776) <|
  letK (groups_4l0 ++ [t_31]) fun (t_33 : (List (List Int))) =>
  appK nx0 (t_33))
  (appK nx0 (groups_4l0))

def e0  (s : (List (List Int))) : Option ((List (List Int)) × Bool) :=
  letK s fun groups_4l0 =>
  some (groups_4l0, true)

def P (list : (List Go.Proofs.YtdgbigkcophjoaaDoor.PComb.Comb)) : Option ((List (List Int)) × Bool) :=
  Option.bind (Go.Proofs.YtdgbigkcophjoaaDoor.GiAreCombs.P list) fun (t_3 : Bool) =>
  letK (!t_3) fun (t_4 : Bool) =>
  iteK t_4
  (some (([] : List (List Int)), false))
  (cntK (l0 list) (list.length) 0 (([] : List (List Int))) (e0 ))

set_option maxRecDepth 100000 in
set_option maxHeartbeats 2000000 in
theorem C (list : (List Go.Proofs.YtdgbigkcophjoaaDoor.PComb.Comb)) (A0 : Option Addr) (c0 : Nat)  (w : World) (M0 : Hid (Cells w 4 A0 list.length (Go.Proofs.YtdgbigkcophjoaaDoor.PComb.flat list))) (N0 : Hid (list.length ≤ 9223372036854775807)) (Q0 : Hid (Room A0 list.length c0))  {r0 : (List (List Int))} {r1 : Bool} (H : Hid (P list = some (r0, r1))) :
    Calls Tryd.prog 12 #[.slice A0 list.length c0] w (fun e w' => ∃ A_r0 c_r0, e = .returned (.tuple #[.slice A_r0 r0.length c_r0, .bool r1]) ∧ (∃ B_, Go.Proofs.YtdgbigkcophjoaaDoor.GoN.OwnNest w' (w.heap.size) 27 3 1 Go.Proofs.YtdgbigkcophjoaaDoor.HelpInt.iv A_r0 c_r0 r0 B_) ∧ Below w.heap.size w w') := by
  have HB := Lib.hid (Below.refl w.heap.size w)
  unfold P at H
  have N0o := N0.out
  obtain ⟨i0_32, hi_32, hz0_32, hz1_32, hz2_32⟩ := Aid.info_parts (P := Tryd.prog) (T := 32) (z := .agg #[.int .i64 0, .int .i64 0, .int .i64 0, .bool false]) (s := 4) (b := 32) (by kernel_rfl)
  obtain ⟨i0_27, hi_27, hz0_27, hz1_27, hz2_27⟩ := Aid.info_parts (P := Tryd.prog) (T := 27) (z := .slice none 0 0) (s := 1) (b := 24) (by kernel_rfl)
  go_enter Tryd.func12, Tryd.ntmps12
  replace H := bind_hid H
  obtain ⟨t_3, qt_3, H⟩ := H
  go_wp2_with fail
  go_at_call 21
  refine (Go.Proofs.YtdgbigkcophjoaaDoor.GiAreCombs.C (list) A0 c0 _   (Lib.hid (Cells.below M0.out HB.out)) N0 qt_3).mono ?_
  rintro e_t_3 wt_3 ⟨rfl, bt_3⟩
  have HBwt_3 := Lib.hid (Below.step HB.out bt_3)
  clear bt_3
  cases t_3 with
  | false =>
    replace H := let_hid H
    obtain ⟨t_4, ht_4, H⟩ := H
    obtain rfl : t_4 = true := ht_4.symm
    replace H := ite_t H
    obtain ⟨w_t_5, hw_t_5⟩ : ∃ x, wt_3.alloc (.cells #[] 27) = x := ⟨_, rfl⟩
    have bw_t_5 : Below wt_3.heap.size wt_3 w_t_5 := by rw [← hw_t_5]; exact (Below.refl _ _).alloc (Nat.le_refl _) _
    have Ot_5 : Hid (Go.Proofs.YtdgbigkcophjoaaDoor.GoN.OwnNest w_t_5 (w.heap.size) 27 3 1 Go.Proofs.YtdgbigkcophjoaaDoor.HelpInt.iv (some ⟨wt_3.heap.size, 0, none⟩) 0 ([] : List (List Int)) [some ⟨wt_3.heap.size, 0, none⟩]) := Lib.hid (by rw [← hw_t_5]; exact Go.Proofs.YtdgbigkcophjoaaDoor.GoN.nest_empty HBwt_3.out.size)
    have HBw_t_5 := Lib.hid (Below.step HBwt_3.out bw_t_5)
    clear bw_t_5
    cases ret_hid H
    go_wp2_with fail
    go_ret2
    exact ⟨(some ⟨wt_3.heap.size, 0, none⟩), 0, rfl, ⟨_, Ot_5.out⟩, HBw_t_5.out⟩
  | true =>
    replace H := let_hid H
    obtain ⟨t_4, ht_4, H⟩ := H
    obtain rfl : t_4 = false := ht_4.symm
    replace H := ite_f H
    obtain ⟨w_t_8, hw_t_8⟩ : ∃ x, wt_3.alloc (.cells #[] 27) = x := ⟨_, rfl⟩
    have bw_t_8 : Below wt_3.heap.size wt_3 w_t_8 := by rw [← hw_t_8]; exact (Below.refl _ _).alloc (Nat.le_refl _) _
    have Ot_8 : Hid (Go.Proofs.YtdgbigkcophjoaaDoor.GoN.OwnNest w_t_8 (w.heap.size) 27 3 1 Go.Proofs.YtdgbigkcophjoaaDoor.HelpInt.iv (some ⟨wt_3.heap.size, 0, none⟩) 0 ([] : List (List Int)) [some ⟨wt_3.heap.size, 0, none⟩]) := Lib.hid (by rw [← hw_t_8]; exact Go.Proofs.YtdgbigkcophjoaaDoor.GoN.nest_empty HBwt_3.out.size)
    have HBw_t_8 := Lib.hid (Below.step HBwt_3.out bw_t_8)
    clear bw_t_8
    go_wp2_with fail
    go_loopg [15, 4] (list.length) (fun m_ v15_ v4_ wr => ∃ (k0 : Nat) (groups_4l0 : (List (List Int))) (Agroups_4l0 : Option Addr) (cgroups_4l0 : Nat) (Bgroups_4l0 : List (Option Addr)), k0 + m_ = list.length ∧ v15_ = .int .i64 (k0 : Int) ∧ v4_ = .slice Agroups_4l0 groups_4l0.length cgroups_4l0 ∧ Hid (cntK (l0 list) m_ k0 (groups_4l0) (e0 ) = some (r0, r1)) ∧ Hid (Below w.heap.size w wr) ∧ Hid (Go.Proofs.YtdgbigkcophjoaaDoor.GoN.OwnNest wr (w.heap.size) 27 3 1 Go.Proofs.YtdgbigkcophjoaaDoor.HelpInt.iv Agroups_4l0 cgroups_4l0 groups_4l0 Bgroups_4l0))
    case atStart => exact ⟨0, _, _, _, _, by omega, rfl, rfl, H, HBw_t_8, Ot_8⟩
    case round =>
      obtain ⟨k0, groups_4l0, Agroups_4l0, cgroups_4l0, Bgroups_4l0, hkm0, rfl, rfl, H, HBwr0, Ogroups_4l0⟩ := hrel
      rename World => wr0
      cases gk with
      | zero =>
        obtain rfl : k0 = list.length := by omega
        have hc0 : decide (((list.length : Nat) : Int) < ((list.length : Nat) : Int)) = false := by simp
        replace H := cnt_zero H
        unfold e0 at H
        replace H := let_hid H
        obtain ⟨_, rfl, H⟩ := H
        cases ret_hid H
        go_wp2_with fail
        go_ret2
        exact ⟨Agroups_4l0, cgroups_4l0, rfl, ⟨_, Ogroups_4l0.out⟩, HBwr0.out⟩
      | succ m0 =>
        have hlt0 : k0 < list.length := by omega
        have hc0 : decide ((k0 : Int) < ((list.length : Nat) : Int)) = true := by simp; omega
        replace H := cnt_succ H
        unfold l0 at H
        replace H := let_hid H
        obtain ⟨_, rfl, H⟩ := H
        replace H := idx_hid H
        obtain ⟨nt_15, yt_15, et_15, lt_15, gt_15, H⟩ := H
        obtain rfl : k0 = nt_15 := by omega
        clear et_15
        obtain ⟨t_15_id, t_15_wide, t_15_high, t_15_line⟩ := yt_15
        replace H := unComb_hid H
        obtain ⟨ab_t_15, ao_t_15, zt_15, At_15, z_t_15, ct_15_0, ct_15_1, ct_15_2, ct_15_3⟩ := Go.Proofs.YtdgbigkcophjoaaDoor.OComb.at_ M0.out lt_15
        obtain rfl := Option.some.inj (gt_15.out.symm.trans z_t_15)
        subst At_15
        have ltt_15 := cell_lt ct_15_0
        replace ct_15_0 := cell_below HBwr0.out ct_15_0
        replace ct_15_1 := cell_below HBwr0.out ct_15_1
        replace ct_15_2 := cell_below HBwr0.out ct_15_2
        replace ct_15_3 := cell_below HBwr0.out ct_15_3
        clear z_t_15
        have b0t_15 : (0 : Int) ≤ (k0 : Int) := by omega
        have b1t_15 : (k0 : Int) < ((list.length : Nat) : Int) := by omega
        have b2t_15 : ((k0 : Int)).toNat = k0 := by omega
        obtain ⟨w_x_17, hw_x_17⟩ : ∃ x, wr0.alloc (.cells #[.int .i64 t_15_id, .int .i64 t_15_wide, .int .i64 t_15_high, .bool t_15_line] 32) = x := ⟨_, rfl⟩
        have bw_x_17 : Below wr0.heap.size wr0 w_x_17 := by rw [← hw_x_17]; exact (Below.refl _ _).alloc (Nat.le_refl _) _
        have Dx_17_groups_4l0 := Lib.hid (Go.Proofs.YtdgbigkcophjoaaDoor.GoN.nest_fresh Ogroups_4l0.out)
        have HBw_x_17 := Lib.hid (Below.step HBwr0.out bw_x_17)
        have ct_15_0__277 := cell_below bw_x_17 ct_15_0
        have ct_15_1__278 := cell_below bw_x_17 ct_15_1
        have ct_15_2__279 := cell_below bw_x_17 ct_15_2
        have ct_15_3__280 := cell_below bw_x_17 ct_15_3
        replace Ogroups_4l0 := Lib.hid (Go.Proofs.YtdgbigkcophjoaaDoor.GoN.nest_below Ogroups_4l0.out bw_x_17)
        clear bw_x_17
        have kx_17_0 : w_x_17.cell? ⟨wr0.heap.size, 0, none⟩ = some (.int .i64 t_15_id) := by rw [← hw_x_17]; exact box_new _ _ _ 0 _ rfl
        have kx_17_1 : w_x_17.cell? ⟨wr0.heap.size, 1, none⟩ = some (.int .i64 t_15_wide) := by rw [← hw_x_17]; exact box_new _ _ _ 1 _ rfl
        have kx_17_2 : w_x_17.cell? ⟨wr0.heap.size, 2, none⟩ = some (.int .i64 t_15_high) := by rw [← hw_x_17]; exact box_new _ _ _ 2 _ rfl
        have kx_17_3 : w_x_17.cell? ⟨wr0.heap.size, 3, none⟩ = some (.bool t_15_line) := by rw [← hw_x_17]; exact box_new _ _ _ 3 _ rfl
        replace H := guard_hid H
        obtain ⟨hl_t_24, H⟩ := H
        replace H := let_hid H
        obtain ⟨t_24, ht_24, H⟩ := H
        have dt_24 : ((Go.Proofs.YtdgbigkcophjoaaDoor.PComb.flat list)).take (Int.toNat (k0 : Int) * 4) = (Go.Proofs.YtdgbigkcophjoaaDoor.PComb.flat t_24) := by
          rw [← ht_24]
          exact flat_take Go.Proofs.YtdgbigkcophjoaaDoor.PComb.Comb.cells 4 (fun _ => rfl) _ _
        have nt_24 : Int.toNat (k0 : Int) = t_24.length := by rw [← ht_24, List.length_take]; omega
        obtain ⟨rt_24, Mt_24, Qt_24⟩ := slice_headB (P := Tryd.prog) (t := 24) (e := 32) (k := .i64) (by kernel_rfl) (by kernel_rfl) hi_32 hz1_32 M0.out Q0.out hl_t_24 nt_24 dt_24
        have Nt_24 : Hid (t_24.length ≤ 9223372036854775807) := Lib.hid (by have := N0.out; omega)
        replace Mt_24 := Lib.hid Mt_24
        replace Qt_24 := Lib.hid Qt_24
        clear dt_24 nt_24 hl_t_24
        have hht_24 := Lib.hid ht_24
        clear ht_24
        replace H := bind_hid H
        obtain ⟨t_26, qt_26, H⟩ := H
        go_wp2_with fail
        clear ct_15_0 ct_15_1 ct_15_2 ct_15_3
        go_at_call 37
        refine (Go.Proofs.YtdgbigkcophjoaaDoor.GxSlicesContainsFuncLoopExampleG01062ImplCombLoopExampleG01062ImplCombiSameGauges1.C (t_24) (t_15_id) (t_15_wide) (t_15_high) (t_15_line) (some ⟨ab_t_15, ao_t_15, none⟩) c0 (wr0.heap.size) _   (Lib.hid (Cells.below Mt_24.out HBw_x_17.out)) Nt_24 (Lib.hid kx_17_0) (Lib.hid kx_17_1) (Lib.hid kx_17_2) (Lib.hid kx_17_3) qt_26).mono ?_
        rintro e_t_26 wt_26 ⟨rfl, bt_26⟩
        have HBwt_26 := Lib.hid (Below.step HBw_x_17.out bt_26)
        replace ct_15_0__277 := cell_below bt_26 ct_15_0__277
        replace ct_15_1__278 := cell_below bt_26 ct_15_1__278
        replace ct_15_2__279 := cell_below bt_26 ct_15_2__279
        replace ct_15_3__280 := cell_below bt_26 ct_15_3__280
        replace kx_17_0 := cell_below bt_26 kx_17_0
        replace kx_17_1 := cell_below bt_26 kx_17_1
        replace kx_17_2 := cell_below bt_26 kx_17_2
        replace kx_17_3 := cell_below bt_26 kx_17_3
        replace Ogroups_4l0 := Lib.hid (Go.Proofs.YtdgbigkcophjoaaDoor.GoN.nest_below Ogroups_4l0.out bt_26)
        clear bt_26
        cases t_26 with
        | false =>
          replace H := let_hid H
          obtain ⟨t_27, ht_27, H⟩ := H
          obtain rfl : t_27 = true := ht_27.symm
          replace H := ite_t H
          replace H := bind_hid H
          obtain ⟨t_31, qt_31, H⟩ := H
          go_wp2_with fail
          go_at_call 29
          refine (Go.Proofs.YtdgbigkcophjoaaDoor.GiKeysWhereCombIntiIdOfCombiSameGauges1.C (list) (t_15_id) (t_15_wide) (t_15_high) (t_15_line) (some ⟨ab_t_15, ao_t_15, none⟩) c0 (wr0.heap.size) _   (Lib.hid (Cells.below M0.out HBwt_26.out)) N0 (Lib.hid kx_17_0) (Lib.hid kx_17_1) (Lib.hid kx_17_2) (Lib.hid kx_17_3) qt_31).mono ?_
          rintro e_t_31 wt_31 ⟨At_31, ct_31, rfl, ot_31, bt_31⟩
          have Dt_31_groups_4l0 := Lib.hid (Go.Proofs.YtdgbigkcophjoaaDoor.GoN.nest_call ot_31 Ogroups_4l0.out)
          have Dt_31_x_17 := Lib.hid (apart_callbox ot_31 kx_17_0)
          have Ot_31 := Lib.hid (own_lower ot_31 HBwt_26.out.size)
          clear ot_31
          have HBwt_31 := Lib.hid (Below.step HBwt_26.out bt_31)
          replace ct_15_0__277 := cell_below bt_31 ct_15_0__277
          replace ct_15_1__278 := cell_below bt_31 ct_15_1__278
          replace ct_15_2__279 := cell_below bt_31 ct_15_2__279
          replace ct_15_3__280 := cell_below bt_31 ct_15_3__280
          replace kx_17_0 := cell_below bt_31 kx_17_0
          replace kx_17_1 := cell_below bt_31 kx_17_1
          replace kx_17_2 := cell_below bt_31 kx_17_2
          replace kx_17_3 := cell_below bt_31 kx_17_3
          replace Ogroups_4l0 := Lib.hid (Go.Proofs.YtdgbigkcophjoaaDoor.GoN.nest_below Ogroups_4l0.out bt_31)
          clear bt_31
          obtain ⟨w_t_32, hw_t_32⟩ : ∃ x, wt_31.alloc (.cells #[.slice At_31 t_31.length ct_31] 27) = x := ⟨_, rfl⟩
          have bw_t_32 : Below wt_31.heap.size wt_31 w_t_32 := by rw [← hw_t_32]; exact (Below.refl _ _).alloc (Nat.le_refl _) _
          have HBw_t_32 := Lib.hid (Below.step HBwt_31.out bw_t_32)
          have ct_15_0__281 := cell_below bw_t_32 ct_15_0__277
          have ct_15_1__282 := cell_below bw_t_32 ct_15_1__278
          have ct_15_2__283 := cell_below bw_t_32 ct_15_2__279
          have ct_15_3__284 := cell_below bw_t_32 ct_15_3__280
          have kx_17_0__285 := cell_below bw_t_32 kx_17_0
          have kx_17_1__286 := cell_below bw_t_32 kx_17_1
          have kx_17_2__287 := cell_below bw_t_32 kx_17_2
          have kx_17_3__288 := cell_below bw_t_32 kx_17_3
          replace Ogroups_4l0 := Lib.hid (Go.Proofs.YtdgbigkcophjoaaDoor.GoN.nest_below Ogroups_4l0.out bw_t_32)
          replace Ot_31 := Lib.hid (own_below Ot_31.out bw_t_32)
          clear bw_t_32
          replace H := guard_hid H
          obtain ⟨hlt_33, H⟩ := H
          replace H := let_hid H
          obtain ⟨t_33, ht_33, H⟩ := H
          have hht_33 := Lib.hid ht_33
          clear ht_33
          have hst_33 := HBw_t_32.out.size
          obtain ⟨zt_33, h1t_33, h2t_33, h3t_33, h4t_33, h5t_33⟩ := Ogroups_4l0.out
          have h1t_33i := Lib.hid h1t_33
          have h3t_33i := Lib.hid h3t_33
          have h4t_33i := Lib.hid h4t_33
          have h5t_33i := Lib.hid h5t_33
          clear h1t_33 h3t_33 h4t_33 h5t_33
          have h2t_33i := Lib.hid h2t_33
          clear h2t_33
          go_wp2_with (at_builtin; refine wpList_append_own_at _ rfl _ _ 34 rfl w.heap.size 27 i0_27 (.slice none 0 0) 1 24 Tryd.underlying34 hi_27 hz0_27 hz1_27 hz2_27 rfl (by decide) _ _ _ rfl h2t_33i.out ⟨wt_31.heap.size, 0, none⟩ 1 1 [.slice At_31 t_31.length ct_31] rfl rfl (news_new hw_t_32) (one_cells rfl) (by unfold maxLen; omega) (by omega) hst_33 ?_; intro vt_33 wt_33 ot_33 gt_33 ut_33 yt_33; clear ut_33; obtain ⟨qt_33, ct_33, Bt_33, rfl, pt_33, dt_33, rt_33⟩ := Go.Proofs.YtdgbigkcophjoaaDoor.GoN.nest_app hht_33.out h1t_33i.out h4t_33i.out h3t_33i.out h5t_33i.out Ot_31.out Dt_31_groups_4l0.out gt_33 ot_33 yt_33; have Pt_33 := Lib.hid pt_33; have Ut_33 := Lib.hid dt_33; have Rt_33 := Lib.hid rt_33; have Gt_33 := Lib.hid gt_33; clear ot_33 gt_33 pt_33 yt_33 dt_33 rt_33; refine stop_in ?_)
          refine stop_out ?_
          have HBwt_33 := Lib.hid (HBw_t_32.out.grown Gt_33.out hst_33 (fun q hq => (h2t_33i.out.lt q hq).1))
          clear hst_33
          have Dt_33_x_17 : Hid (∀ y_ ∈ Bt_33, Apart (some ⟨wr0.heap.size, 0, none⟩) y_) := Lib.hid (Go.Proofs.YtdgbigkcophjoaaDoor.GoN.apart_push Dx_17_groups_4l0.out (Apart.symm Dt_31_x_17.out) (fun a_ ha_ => by cases ha_; exact cell_lt kx_17_0__285) Ut_33.out)
          replace ct_15_0__281 := cell_other ct_15_0__281 Gt_33.out (apart_old h2t_33i.out ltt_15)
          replace ct_15_1__282 := cell_other ct_15_1__282 Gt_33.out (apart_old h2t_33i.out ltt_15)
          replace ct_15_2__283 := cell_other ct_15_2__283 Gt_33.out (apart_old h2t_33i.out ltt_15)
          replace ct_15_3__284 := cell_other ct_15_3__284 Gt_33.out (apart_old h2t_33i.out ltt_15)
          replace kx_17_0__285 := cell_other kx_17_0__285 Gt_33.out (Apart.symm (Dx_17_groups_4l0.out _ (Go.Proofs.YtdgbigkcophjoaaDoor.GoN.nest_head Ogroups_4l0.out)))
          replace kx_17_1__286 := cell_other kx_17_1__286 Gt_33.out (Apart.symm (Dx_17_groups_4l0.out _ (Go.Proofs.YtdgbigkcophjoaaDoor.GoN.nest_head Ogroups_4l0.out)))
          replace kx_17_2__287 := cell_other kx_17_2__287 Gt_33.out (Apart.symm (Dx_17_groups_4l0.out _ (Go.Proofs.YtdgbigkcophjoaaDoor.GoN.nest_head Ogroups_4l0.out)))
          replace kx_17_3__288 := cell_other kx_17_3__288 Gt_33.out (Apart.symm (Dx_17_groups_4l0.out _ (Go.Proofs.YtdgbigkcophjoaaDoor.GoN.nest_head Ogroups_4l0.out)))
          replace Ot_31 := Lib.hid (own_other Ot_31.out Gt_33.out (Apart.symm (Dt_31_groups_4l0.out _ (Go.Proofs.YtdgbigkcophjoaaDoor.GoN.nest_head Ogroups_4l0.out))))
          clear ct_15_0__277 ct_15_1__278 ct_15_2__279 ct_15_3__280 kx_17_0 kx_17_1 kx_17_2 kx_17_3
          clear Ogroups_4l0 Gt_33 h1t_33i h2t_33i h3t_33i h4t_33i h5t_33i
          clear Ot_31
          have mmt_33 := Lib.hid Ut_33.out.2.1
          clear Ut_33
          replace H := app_hid H
          go_wp2_with fail
          go_roundg m0
          case measure => omega
          case rel => exact ⟨k0 + 1, _, _, _, _, by omega, by go_num, rfl, H, HBwt_33, Pt_33⟩
        | true =>
          replace H := let_hid H
          obtain ⟨t_27, ht_27, H⟩ := H
          obtain rfl : t_27 = false := ht_27.symm
          replace H := ite_f H
          replace H := app_hid H
          go_wp2_with fail
          go_roundg m0
          case measure => omega
          case rel => exact ⟨k0 + 1, _, _, _, _, by omega, by go_num, rfl, H, HBwt_26, Ogroups_4l0⟩
end Go.Proofs.YtdgbigkcophjoaaDoor.GiSameGauges

/- loop.example/g01062/spec.SameGauges as a plain function, and the contract of the program's: where the plain one has an answer, the program has it. Conditions: slices read as lists. -/
namespace Go.Proofs.YtdgbigkcophjoaaDoor.GsSameGauges
set_option linter.unusedVariables false
set_option linter.unusedSimpArgs false
open Go.RowKit
open Go.Proofs.YtdgbigkcophjoaaDoor.Rowed Go.Proofs.YtdgbigkcophjoaaDoor.Turn Go.Proofs.YtdgbigkcophjoaaDoor.Aid Go.Proofs.YtdgbigkcophjoaaDoor.GoP Go.Proofs.YtdgbigkcophjoaaDoor.GoM

def l1 (list : (List Go.Proofs.YtdgbigkcophjoaaDoor.PComb.Comb)) (k0 : Nat) (k1 : Nat) (s : (List Int) × Bool) (nx1 bk1 : (List Int) × Bool → Option ((List (List Int)) × Bool)) : Option ((List (List Int)) × Bool) :=
  unp2 s fun ids_6l1 first_7l1 =>
  Option.bind (idx list (k1 : Int)) fun (yt_25 : Go.Proofs.YtdgbigkcophjoaaDoor.PComb.Comb) =>
  unComb yt_25 fun (t_25_id : Int) (t_25_wide : Int) (t_25_high : Int) (t_25_line : Bool) =>
  Option.bind (idx list (k0 : Int)) fun (yt_30 : Go.Proofs.YtdgbigkcophjoaaDoor.PComb.Comb) =>
  unComb yt_30 fun (t_30_id : Int) (t_30_wide : Int) (t_30_high : Int) (t_30_line : Bool) =>
  letK (t_25_wide == t_30_wide) fun (t_33 : Bool) =>
  joinK (fun (t_46 : Bool) =>
  iteK t_46
  (Option.bind (idx list (k1 : Int)) fun (yt_50 : Go.Proofs.YtdgbigkcophjoaaDoor.PComb.Comb) =>
  unComb yt_50 fun (t_50_id : Int) (t_50_wide : Int) (t_50_high : Int) (t_50_line : Bool) =>
  guardK (ids_6l1.length ≤ 1099511627776) <|
  letK (ids_6l1 ++ [t_50_id]) fun (t_54 : (List Int)) =>
  joinK (fun (t_61 : Bool) =>
  appK nx1 (t_54, t_61)) fun jt_61 => iteK first_7l1 (letK (decide ((k0 : Int) ≤ (k1 : Int))) fun (t_60 : Bool) =>
  appK jt_61 t_60) (appK jt_61 false))
  (appK nx1 (ids_6l1, first_7l1))) fun jt_46 => iteK t_33 (Option.bind (idx list (k1 : Int)) fun (yt_37 : Go.Proofs.YtdgbigkcophjoaaDoor.PComb.Comb) =>
  unComb yt_37 fun (t_37_id : Int) (t_37_wide : Int) (t_37_high : Int) (t_37_line : Bool) =>
  Option.bind (idx list (k0 : Int)) fun (yt_42 : Go.Proofs.YtdgbigkcophjoaaDoor.PComb.Comb) =>
  unComb yt_42 fun (t_42_id : Int) (t_42_wide : Int) (t_42_high : Int) (t_42_line : Bool) =>
  letK (t_37_high == t_42_high) fun (t_45 : Bool) =>
  appK jt_46 t_45) (appK jt_46 false)

def e1 (nx0 : ((List (List Int))) → Option ((List (List Int)) × Bool)) (out_4l0 : (List (List Int))) (s : (List Int) × Bool) : Option ((List (List Int)) × Bool) :=
  unp2 s fun ids_6l1 first_7l1 =>
  iteK first_7l1
  (guardK (out_4l0.length ≤ 1099511627776) <|
  letK (out_4l0 ++ [ids_6l1]) fun (t_70 : (List (List Int))) =>
  appK nx0 (t_70))
  (appK nx0 (out_4l0))

def l0 (list : (List Go.Proofs.YtdgbigkcophjoaaDoor.PComb.Comb)) (k0 : Nat) (s : (List (List Int))) (nx0 bk0 : (List (List Int)) → Option ((List (List Int)) × Bool)) : Option ((List (List Int)) × Bool) :=
  letK s fun out_4l0 =>
  cntK (l1 list k0) (list.length) 0 (([] : List Int), true) (e1 nx0 out_4l0)

def e0  (s : (List (List Int))) : Option ((List (List Int)) × Bool) :=
  letK s fun out_4l0 =>
  some (out_4l0, true)

def P (list : (List Go.Proofs.YtdgbigkcophjoaaDoor.PComb.Comb)) : Option ((List (List Int)) × Bool) :=
  Option.bind (Go.Proofs.YtdgbigkcophjoaaDoor.GsL5Good.P list) fun (t_5 : Bool) =>
  letK (!t_5) fun (t_6 : Bool) =>
  iteK t_6
  (some (([] : List (List Int)), false))
  (cntK (l0 list) (list.length) 0 (([] : List (List Int))) (e0 ))

set_option maxRecDepth 100000 in
set_option maxHeartbeats 2000000 in
theorem C (list : (List Go.Proofs.YtdgbigkcophjoaaDoor.PComb.Comb)) (A0 : Option Addr) (c0 : Nat)  (w : World) (M0 : Hid (Cells w 4 A0 list.length (Go.Proofs.YtdgbigkcophjoaaDoor.PComb.flat list))) (N0 : Hid (list.length ≤ 9223372036854775807))  {r0 : (List (List Int))} {r1 : Bool} (H : Hid (P list = some (r0, r1))) :
    Calls Tryd.prog 13 #[.slice A0 list.length c0] w (fun e w' => ∃ A_r0 c_r0, e = .returned (.tuple #[.slice A_r0 r0.length c_r0, .bool r1]) ∧ (∃ B_, Go.Proofs.YtdgbigkcophjoaaDoor.GoN.OwnNest w' (w.heap.size) 27 3 1 Go.Proofs.YtdgbigkcophjoaaDoor.HelpInt.iv A_r0 c_r0 r0 B_) ∧ Below w.heap.size w w') := by
  have HB := Lib.hid (Below.refl w.heap.size w)
  unfold P at H
  have N0o := N0.out
  obtain ⟨i0_27, hi_27, hz0_27, hz1_27, hz2_27⟩ := Aid.info_parts (P := Tryd.prog) (T := 27) (z := .slice none 0 0) (s := 1) (b := 24) (by kernel_rfl)
  obtain ⟨i0_3, hi_3, hz0_3, hz1_3, hz2_3⟩ := Aid.info_parts (P := Tryd.prog) (T := 3) (z := .int .i64 0) (s := 1) (b := 8) (by kernel_rfl)
  go_enter Tryd.func13, Tryd.ntmps13
  obtain ⟨w_t_2, hw_t_2⟩ : ∃ x, w.alloc (.cells #[] 27) = x := ⟨_, rfl⟩
  have bw_t_2 : Below w.heap.size w w_t_2 := by rw [← hw_t_2]; exact (Below.refl _ _).alloc (Nat.le_refl _) _
  have Ot_2 : Hid (Go.Proofs.YtdgbigkcophjoaaDoor.GoN.OwnNest w_t_2 (w.heap.size) 27 3 1 Go.Proofs.YtdgbigkcophjoaaDoor.HelpInt.iv (some ⟨w.heap.size, 0, none⟩) 0 ([] : List (List Int)) [some ⟨w.heap.size, 0, none⟩]) := Lib.hid (by rw [← hw_t_2]; exact Go.Proofs.YtdgbigkcophjoaaDoor.GoN.nest_empty HB.out.size)
  have HBw_t_2 := Lib.hid (Below.step HB.out bw_t_2)
  clear bw_t_2
  replace H := bind_hid H
  obtain ⟨t_5, qt_5, H⟩ := H
  go_wp2_with fail
  go_at_call 38
  refine (Go.Proofs.YtdgbigkcophjoaaDoor.GsL5Good.C (list) A0 c0 _   (Lib.hid (Cells.below M0.out HBw_t_2.out)) N0 qt_5).mono ?_
  rintro e_t_5 wt_5 ⟨rfl, bt_5⟩
  have HBwt_5 := Lib.hid (Below.step HBw_t_2.out bt_5)
  replace Ot_2 := Lib.hid (Go.Proofs.YtdgbigkcophjoaaDoor.GoN.nest_below Ot_2.out bt_5)
  clear bt_5
  cases t_5 with
  | false =>
    replace H := let_hid H
    obtain ⟨t_6, ht_6, H⟩ := H
    obtain rfl : t_6 = true := ht_6.symm
    replace H := ite_t H
    cases ret_hid H
    go_wp2_with fail
    go_ret2
    exact ⟨(some ⟨w.heap.size, 0, none⟩), 0, rfl, ⟨_, Ot_2.out⟩, HBwt_5.out⟩
  | true =>
    replace H := let_hid H
    obtain ⟨t_6, ht_6, H⟩ := H
    obtain rfl : t_6 = false := ht_6.symm
    replace H := ite_f H
    go_wp2_with fail
    go_loopg [5, 4] (list.length) (fun m_ v5_ v4_ wr => ∃ (k0 : Nat) (out_4l0 : (List (List Int))) (Aout_4l0 : Option Addr) (cout_4l0 : Nat) (Bout_4l0 : List (Option Addr)), k0 + m_ = list.length ∧ v5_ = .int .i64 (k0 : Int) ∧ v4_ = .slice Aout_4l0 out_4l0.length cout_4l0 ∧ Hid (cntK (l0 list) m_ k0 (out_4l0) (e0 ) = some (r0, r1)) ∧ Hid (Below w.heap.size w wr) ∧ Hid (Go.Proofs.YtdgbigkcophjoaaDoor.GoN.OwnNest wr (w.heap.size) 27 3 1 Go.Proofs.YtdgbigkcophjoaaDoor.HelpInt.iv Aout_4l0 cout_4l0 out_4l0 Bout_4l0))
    case atStart => exact ⟨0, _, _, _, _, by omega, rfl, rfl, H, HBwt_5, Ot_2⟩
    case round =>
      obtain ⟨k0, out_4l0, Aout_4l0, cout_4l0, Bout_4l0, hkm0, rfl, rfl, H, HBwr0, Oout_4l0⟩ := hrel
      rename World => wr0
      cases gk with
      | zero =>
        obtain rfl : k0 = list.length := by omega
        have hc0 : decide (((list.length : Nat) : Int) < ((list.length : Nat) : Int)) = false := by simp
        replace H := cnt_zero H
        unfold e0 at H
        replace H := let_hid H
        obtain ⟨_, rfl, H⟩ := H
        cases ret_hid H
        go_wp2_with fail
        go_ret2
        exact ⟨Aout_4l0, cout_4l0, rfl, ⟨_, Oout_4l0.out⟩, HBwr0.out⟩
      | succ m0 =>
        have hlt0 : k0 < list.length := by omega
        have hc0 : decide ((k0 : Int) < ((list.length : Nat) : Int)) = true := by simp; omega
        replace H := cnt_succ H
        unfold l0 at H
        replace H := let_hid H
        obtain ⟨_, rfl, H⟩ := H
        obtain ⟨w_t_15, hw_t_15⟩ : ∃ x, wr0.alloc (.cells #[] 3) = x := ⟨_, rfl⟩
        have bw_t_15 : Below wr0.heap.size wr0 w_t_15 := by rw [← hw_t_15]; exact (Below.refl _ _).alloc (Nat.le_refl _) _
        have Ot_15 : Hid (w_t_15.ownsRow w.heap.size 3 1 (.slice (some ⟨wr0.heap.size, 0, none⟩) 0 0) 0 []) := Lib.hid (by rw [← hw_t_15]; exact own_empty HBwr0.out.size)
        have Dt_15_out_4l0 := Lib.hid (Go.Proofs.YtdgbigkcophjoaaDoor.GoN.nest_fresh Oout_4l0.out)
        have HBw_t_15 := Lib.hid (Below.step HBwr0.out bw_t_15)
        replace Oout_4l0 := Lib.hid (Go.Proofs.YtdgbigkcophjoaaDoor.GoN.nest_below Oout_4l0.out bw_t_15)
        clear bw_t_15
        go_wp2_with fail
        go_loopg [8, 6, 7] (list.length) (fun m_ v8_ v6_ v7_ wr => ∃ (k1 : Nat) (ids_6l1 : (List Int)) (first_7l1 : Bool) (Aids_6l1 : Option Addr) (cids_6l1 : Nat), k1 + m_ = list.length ∧ v8_ = .int .i64 (k1 : Int) ∧ v6_ = .slice Aids_6l1 ids_6l1.length cids_6l1 ∧ v7_ = .bool first_7l1 ∧ Hid (cntK (l1 list k0) m_ k1 (ids_6l1, first_7l1) (e1 (fun s' => cntK (l0 list) m0 (k0 + 1) s' (e0 )) out_4l0) = some (r0, r1)) ∧ Hid (Below w.heap.size w wr) ∧ Hid (wr.ownsRow w.heap.size 3 1 (.slice Aids_6l1 ids_6l1.length cids_6l1) ids_6l1.length (Go.Proofs.YtdgbigkcophjoaaDoor.HelpInt.iv ids_6l1)) ∧ Hid (Go.Proofs.YtdgbigkcophjoaaDoor.GoN.OwnNest wr (w.heap.size) 27 3 1 Go.Proofs.YtdgbigkcophjoaaDoor.HelpInt.iv Aout_4l0 cout_4l0 out_4l0 Bout_4l0) ∧ Hid (∀ y_ ∈ Bout_4l0, Apart Aids_6l1 y_))
        case atStart => exact ⟨0, _, _, _, _, by omega, rfl, rfl, rfl, H, HBw_t_15, Ot_15, Oout_4l0, Lib.hid Dt_15_out_4l0.out⟩
        case round =>
          obtain ⟨k1, ids_6l1, first_7l1, Aids_6l1, cids_6l1, hkm1, rfl, rfl, rfl, H, HBwr1, Oids_6l1, Oout_4l0, Dids_6l1_out_4l0⟩ := hrel
          rename World => wr1
          cases gk with
          | zero =>
            obtain rfl : k1 = list.length := by omega
            have hc1 : decide (((list.length : Nat) : Int) < ((list.length : Nat) : Int)) = false := by simp
            replace H := cnt_zero H
            unfold e1 at H
            replace H := unp2_hid H
            cases first_7l1 with
            | false =>
              replace H := ite_f H
              replace H := app_hid H
              go_wp2_with fail
              go_roundg m0
              case measure => omega
              case rel => exact ⟨k0 + 1, _, _, _, _, by omega, by go_num, rfl, H, HBwr1, Oout_4l0⟩
            | true =>
              replace H := ite_t H
              obtain ⟨w_t_69, hw_t_69⟩ : ∃ x, wr1.alloc (.cells #[.slice Aids_6l1 ids_6l1.length cids_6l1] 27) = x := ⟨_, rfl⟩
              have bw_t_69 : Below wr1.heap.size wr1 w_t_69 := by rw [← hw_t_69]; exact (Below.refl _ _).alloc (Nat.le_refl _) _
              have HBw_t_69 := Lib.hid (Below.step HBwr1.out bw_t_69)
              replace Oout_4l0 := Lib.hid (Go.Proofs.YtdgbigkcophjoaaDoor.GoN.nest_below Oout_4l0.out bw_t_69)
              replace Oids_6l1 := Lib.hid (own_below Oids_6l1.out bw_t_69)
              clear bw_t_69
              replace H := guard_hid H
              obtain ⟨hlt_70, H⟩ := H
              replace H := let_hid H
              obtain ⟨t_70, ht_70, H⟩ := H
              have hht_70 := Lib.hid ht_70
              clear ht_70
              have hst_70 := HBw_t_69.out.size
              obtain ⟨zt_70, h1t_70, h2t_70, h3t_70, h4t_70, h5t_70⟩ := Oout_4l0.out
              have h1t_70i := Lib.hid h1t_70
              have h3t_70i := Lib.hid h3t_70
              have h4t_70i := Lib.hid h4t_70
              have h5t_70i := Lib.hid h5t_70
              clear h1t_70 h3t_70 h4t_70 h5t_70
              have h2t_70i := Lib.hid h2t_70
              clear h2t_70
              go_wp2_with (at_builtin; refine wpList_append_own_at _ rfl _ _ 34 rfl w.heap.size 27 i0_27 (.slice none 0 0) 1 24 Tryd.underlying34 hi_27 hz0_27 hz1_27 hz2_27 rfl (by decide) _ _ _ rfl h2t_70i.out ⟨wr1.heap.size, 0, none⟩ 1 1 [.slice Aids_6l1 ids_6l1.length cids_6l1] rfl rfl (news_new hw_t_69) (one_cells rfl) (by unfold maxLen; omega) (by omega) hst_70 ?_; intro vt_70 wt_70 ot_70 gt_70 ut_70 yt_70; clear ut_70; obtain ⟨qt_70, ct_70, Bt_70, rfl, pt_70, dt_70, rt_70⟩ := Go.Proofs.YtdgbigkcophjoaaDoor.GoN.nest_app hht_70.out h1t_70i.out h4t_70i.out h3t_70i.out h5t_70i.out Oids_6l1.out Dids_6l1_out_4l0.out gt_70 ot_70 yt_70; have Pt_70 := Lib.hid pt_70; have Ut_70 := Lib.hid dt_70; have Rt_70 := Lib.hid rt_70; have Gt_70 := Lib.hid gt_70; clear ot_70 gt_70 pt_70 yt_70 dt_70 rt_70; refine stop_in ?_)
              refine stop_out ?_
              have HBwt_70 := Lib.hid (HBw_t_69.out.grown Gt_70.out hst_70 (fun q hq => (h2t_70i.out.lt q hq).1))
              clear hst_70
              replace Oids_6l1 := Lib.hid (own_other Oids_6l1.out Gt_70.out (Apart.symm (Dids_6l1_out_4l0.out _ (Go.Proofs.YtdgbigkcophjoaaDoor.GoN.nest_head Oout_4l0.out))))
              clear Oout_4l0 Gt_70 h1t_70i h2t_70i h3t_70i h4t_70i h5t_70i
              clear Oids_6l1
              have mmt_70 := Lib.hid Ut_70.out.2.1
              clear Ut_70
              replace H := app_hid H
              go_wp2_with fail
              go_roundg m0
              case measure => omega
              case rel => exact ⟨k0 + 1, _, _, _, _, by omega, by go_num, rfl, H, HBwt_70, Pt_70⟩
          | succ m1 =>
            have hlt1 : k1 < list.length := by omega
            have hc1 : decide ((k1 : Int) < ((list.length : Nat) : Int)) = true := by simp; omega
            replace H := cnt_succ H
            unfold l1 at H
            replace H := unp2_hid H
            go_wp2_with fail
            replace H := idx_hid H
            obtain ⟨nt_25, yt_25, et_25, lt_25, gt_25, H⟩ := H
            obtain rfl : k1 = nt_25 := by omega
            clear et_25
            obtain ⟨t_25_id, t_25_wide, t_25_high, t_25_line⟩ := yt_25
            replace H := unComb_hid H
            obtain ⟨ab_t_25, ao_t_25, zt_25, At_25, z_t_25, ct_25_0, ct_25_1, ct_25_2, ct_25_3⟩ := Go.Proofs.YtdgbigkcophjoaaDoor.OComb.at_ M0.out lt_25
            obtain rfl := Option.some.inj (gt_25.out.symm.trans z_t_25)
            subst At_25
            have ltt_25 := cell_lt ct_25_0
            replace ct_25_0 := cell_below HBwr1.out ct_25_0
            replace ct_25_1 := cell_below HBwr1.out ct_25_1
            replace ct_25_2 := cell_below HBwr1.out ct_25_2
            replace ct_25_3 := cell_below HBwr1.out ct_25_3
            clear z_t_25
            have b0t_25 : (0 : Int) ≤ (k1 : Int) := by omega
            have b1t_25 : (k1 : Int) < ((list.length : Nat) : Int) := by omega
            have b2t_25 : ((k1 : Int)).toNat = k1 := by omega
            have Hct_25_0 := Lib.hid ct_25_0
            replace ct_25_0 := cell_regrown ct_25_0
            have Hct_25_1 := Lib.hid ct_25_1
            replace ct_25_1 := cell_regrown ct_25_1
            have Hct_25_2 := Lib.hid ct_25_2
            replace ct_25_2 := cell_regrown ct_25_2
            have Hct_25_3 := Lib.hid ct_25_3
            replace ct_25_3 := cell_regrown ct_25_3
            replace H := idx_hid H
            obtain ⟨nt_30, yt_30, et_30, lt_30, gt_30, H⟩ := H
            obtain rfl : k0 = nt_30 := by omega
            clear et_30
            obtain ⟨t_30_id, t_30_wide, t_30_high, t_30_line⟩ := yt_30
            replace H := unComb_hid H
            obtain ⟨ab_t_30, ao_t_30, zt_30, At_30, z_t_30, ct_30_0, ct_30_1, ct_30_2, ct_30_3⟩ := Go.Proofs.YtdgbigkcophjoaaDoor.OComb.at_ M0.out lt_30
            obtain rfl := Option.some.inj (gt_30.out.symm.trans z_t_30)
            simp only [Option.some.injEq, Addr.mk.injEq] at At_30
            obtain ⟨rfl, rfl, _⟩ := At_30
            have ltt_30 := cell_lt ct_30_0
            replace ct_30_0 := cell_below HBwr1.out ct_30_0
            replace ct_30_1 := cell_below HBwr1.out ct_30_1
            replace ct_30_2 := cell_below HBwr1.out ct_30_2
            replace ct_30_3 := cell_below HBwr1.out ct_30_3
            clear z_t_30
            have b0t_30 : (0 : Int) ≤ (k0 : Int) := by omega
            have b1t_30 : (k0 : Int) < ((list.length : Nat) : Int) := by omega
            have b2t_30 : ((k0 : Int)).toNat = k0 := by omega
            have Hct_30_0 := Lib.hid ct_30_0
            replace ct_30_0 := cell_regrown ct_30_0
            have Hct_30_1 := Lib.hid ct_30_1
            replace ct_30_1 := cell_regrown ct_30_1
            have Hct_30_2 := Lib.hid ct_30_2
            replace ct_30_2 := cell_regrown ct_30_2
            have Hct_30_3 := Lib.hid ct_30_3
            replace ct_30_3 := cell_regrown ct_30_3
            replace H := let_hid H
            obtain ⟨t_33, ht_33, H⟩ := H
            replace H := join_hid H
            cases t_33 with
            | false =>
              replace H := ite_f H
              replace H := app_hid H
              refine wp_region_quiet_below (by kernel_rfl) (by kernel_rfl) ?_
              repeat (go_big_quiet_step (fail))
              refine wpQuiet_nil ?_
              intro Y12 hY12
              replace hY12 := below_class hY12
              replace ct_25_0 := Hct_25_0.out
              clear Hct_25_0
              replace ct_25_1 := Hct_25_1.out
              clear Hct_25_1
              replace ct_25_2 := Hct_25_2.out
              clear Hct_25_2
              replace ct_25_3 := Hct_25_3.out
              clear Hct_25_3
              replace ct_30_0 := Hct_30_0.out
              clear Hct_30_0
              replace ct_30_1 := Hct_30_1.out
              clear Hct_30_1
              replace ct_30_2 := Hct_30_2.out
              clear Hct_30_2
              replace ct_30_3 := Hct_30_3.out
              clear Hct_30_3
              have HBY12 := Lib.hid (Below.step HBwr1.out hY12)
              replace ct_25_0 := cell_below hY12 ct_25_0
              replace ct_25_1 := cell_below hY12 ct_25_1
              replace ct_25_2 := cell_below hY12 ct_25_2
              replace ct_25_3 := cell_below hY12 ct_25_3
              replace ct_30_0 := cell_below hY12 ct_30_0
              replace ct_30_1 := cell_below hY12 ct_30_1
              replace ct_30_2 := cell_below hY12 ct_30_2
              replace ct_30_3 := cell_below hY12 ct_30_3
              replace Oout_4l0 := Lib.hid (Go.Proofs.YtdgbigkcophjoaaDoor.GoN.nest_below Oout_4l0.out hY12)
              replace Oids_6l1 := Lib.hid (own_below Oids_6l1.out hY12)
              clear hY12
              replace H := ite_f H
              replace H := app_hid H
              go_wp2_with fail
              go_roundg m1
              case measure => omega
              case rel => exact ⟨k1 + 1, _, _, _, _, by omega, by go_num, rfl, rfl, H, HBY12, Oids_6l1, Oout_4l0, Lib.hid Dids_6l1_out_4l0.out⟩
            | true =>
              replace H := ite_t H
              replace H := idx_hid H
              obtain ⟨nt_37, yt_37, et_37, lt_37, gt_37, H⟩ := H
              obtain rfl : k1 = nt_37 := by omega
              clear et_37
              obtain rfl := Option.some.inj (gt_25.out.symm.trans gt_37.out)
              clear gt_37 lt_37
              replace H := unComb_hid H
              replace H := idx_hid H
              obtain ⟨nt_42, yt_42, et_42, lt_42, gt_42, H⟩ := H
              obtain rfl : k0 = nt_42 := by omega
              clear et_42
              obtain rfl := Option.some.inj (gt_30.out.symm.trans gt_42.out)
              clear gt_42 lt_42
              replace H := unComb_hid H
              replace H := let_hid H
              obtain ⟨t_45, ht_45, H⟩ := H
              replace H := app_hid H
              refine wp_region_quiet_below (by kernel_rfl) (by kernel_rfl) ?_
              repeat (go_big_quiet_step (fail))
              refine wpQuiet_nil ?_
              intro Y12 hY12
              replace hY12 := below_class hY12
              replace ct_25_0 := Hct_25_0.out
              clear Hct_25_0
              replace ct_25_1 := Hct_25_1.out
              clear Hct_25_1
              replace ct_25_2 := Hct_25_2.out
              clear Hct_25_2
              replace ct_25_3 := Hct_25_3.out
              clear Hct_25_3
              replace ct_30_0 := Hct_30_0.out
              clear Hct_30_0
              replace ct_30_1 := Hct_30_1.out
              clear Hct_30_1
              replace ct_30_2 := Hct_30_2.out
              clear Hct_30_2
              replace ct_30_3 := Hct_30_3.out
              clear Hct_30_3
              have HBY12 := Lib.hid (Below.step HBwr1.out hY12)
              replace ct_25_0 := cell_below hY12 ct_25_0
              replace ct_25_1 := cell_below hY12 ct_25_1
              replace ct_25_2 := cell_below hY12 ct_25_2
              replace ct_25_3 := cell_below hY12 ct_25_3
              replace ct_30_0 := cell_below hY12 ct_30_0
              replace ct_30_1 := cell_below hY12 ct_30_1
              replace ct_30_2 := cell_below hY12 ct_30_2
              replace ct_30_3 := cell_below hY12 ct_30_3
              replace Oout_4l0 := Lib.hid (Go.Proofs.YtdgbigkcophjoaaDoor.GoN.nest_below Oout_4l0.out hY12)
              replace Oids_6l1 := Lib.hid (own_below Oids_6l1.out hY12)
              clear hY12
              cases t_45 with
              | false =>
                replace H := ite_f H
                replace H := app_hid H
                go_wp2_with fail
                go_roundg m1
                case measure => omega
                case rel => exact ⟨k1 + 1, _, _, _, _, by omega, by go_num, rfl, rfl, H, HBY12, Oids_6l1, Oout_4l0, Lib.hid Dids_6l1_out_4l0.out⟩
              | true =>
                replace H := ite_t H
                replace H := idx_hid H
                obtain ⟨nt_50, yt_50, et_50, lt_50, gt_50, H⟩ := H
                obtain rfl : k1 = nt_50 := by omega
                clear et_50
                obtain rfl := Option.some.inj (gt_25.out.symm.trans gt_50.out)
                clear gt_50 lt_50
                replace H := unComb_hid H
                obtain ⟨w_t_53, hw_t_53⟩ : ∃ x, Y12.alloc (.cells #[.int .i64 t_25_id] 3) = x := ⟨_, rfl⟩
                have bw_t_53 : Below Y12.heap.size Y12 w_t_53 := by rw [← hw_t_53]; exact (Below.refl _ _).alloc (Nat.le_refl _) _
                have HBw_t_53 := Lib.hid (Below.step HBY12.out bw_t_53)
                have ct_25_0__289 := cell_below bw_t_53 ct_25_0
                have ct_25_1__290 := cell_below bw_t_53 ct_25_1
                have ct_25_2__291 := cell_below bw_t_53 ct_25_2
                have ct_25_3__292 := cell_below bw_t_53 ct_25_3
                have ct_30_0__293 := cell_below bw_t_53 ct_30_0
                have ct_30_1__294 := cell_below bw_t_53 ct_30_1
                have ct_30_2__295 := cell_below bw_t_53 ct_30_2
                have ct_30_3__296 := cell_below bw_t_53 ct_30_3
                replace Oout_4l0 := Lib.hid (Go.Proofs.YtdgbigkcophjoaaDoor.GoN.nest_below Oout_4l0.out bw_t_53)
                replace Oids_6l1 := Lib.hid (own_below Oids_6l1.out bw_t_53)
                clear bw_t_53
                replace H := guard_hid H
                obtain ⟨hlt_54, H⟩ := H
                replace H := let_hid H
                obtain ⟨t_54, ht_54, H⟩ := H
                have hht_54 := Lib.hid ht_54
                clear ht_54
                have hst_54 := HBw_t_53.out.size
                go_wp2_with (at_builtin; refine wpList_append_own_at _ rfl _ _ 27 rfl w.heap.size 3 i0_3 (.int .i64 0) 1 8 Tryd.underlying27 hi_3 hz0_3 hz1_3 hz2_3 rfl (by decide) _ _ _ rfl Oids_6l1.out ⟨Y12.heap.size, 0, none⟩ 1 1 [.int .i64 t_25_id] rfl rfl (news_new hw_t_53) (one_cells rfl) (by unfold maxLen; omega) (by omega) hst_54 ?_; intro vt_54 wt_54 ot_54 gt_54 zt_54 yt_54; clear zt_54; obtain ⟨qt_54, ct_54, rfl, pt_54⟩ := own_push hht_54.out (Go.Proofs.YtdgbigkcophjoaaDoor.HelpInt.iv_snoc _ _) rfl ot_54; have Pt_54 := Lib.hid pt_54; have Yt_54 := Lib.hid yt_54; have Gt_54 := Lib.hid gt_54; clear ot_54 gt_54 pt_54 yt_54; refine stop_in ?_)
                refine stop_out ?_
                have HBwt_54 := Lib.hid (HBw_t_53.out.grown Gt_54.out hst_54 (fun q hq => (Oids_6l1.out.lt q hq).1))
                clear hst_54
                have Dt_54_out_4l0 : Hid (∀ y_ ∈ Bout_4l0, Apart (some ⟨qt_54, 0, none⟩) y_) := Lib.hid (fun y_ hy_ => (apart_app (Dids_6l1_out_4l0.out y_ hy_) (fun a_ ha_ => (Go.Proofs.YtdgbigkcophjoaaDoor.GoN.nest_lt Oout_4l0.out y_ hy_ a_ ha_).2) Yt_54.out))
                replace ct_25_0__289 := cell_other ct_25_0__289 Gt_54.out (apart_old Oids_6l1.out ltt_25)
                replace ct_25_1__290 := cell_other ct_25_1__290 Gt_54.out (apart_old Oids_6l1.out ltt_25)
                replace ct_25_2__291 := cell_other ct_25_2__291 Gt_54.out (apart_old Oids_6l1.out ltt_25)
                replace ct_25_3__292 := cell_other ct_25_3__292 Gt_54.out (apart_old Oids_6l1.out ltt_25)
                replace ct_30_0__293 := cell_other ct_30_0__293 Gt_54.out (apart_old Oids_6l1.out ltt_30)
                replace ct_30_1__294 := cell_other ct_30_1__294 Gt_54.out (apart_old Oids_6l1.out ltt_30)
                replace ct_30_2__295 := cell_other ct_30_2__295 Gt_54.out (apart_old Oids_6l1.out ltt_30)
                replace ct_30_3__296 := cell_other ct_30_3__296 Gt_54.out (apart_old Oids_6l1.out ltt_30)
                replace Oout_4l0 := Lib.hid (Go.Proofs.YtdgbigkcophjoaaDoor.GoN.nest_other Oout_4l0.out Gt_54.out Dids_6l1_out_4l0.out)
                clear ct_25_0 ct_25_1 ct_25_2 ct_25_3 ct_30_0 ct_30_1 ct_30_2 ct_30_3
                clear Oids_6l1 Yt_54 Gt_54
                replace H := join_hid H
                cases first_7l1 with
                | false =>
                  replace H := ite_f H
                  replace H := app_hid H
                  replace H := app_hid H
                  go_wp2_with fail
                  go_roundg m1
                  case measure => omega
                  case rel => exact ⟨k1 + 1, _, _, _, _, by omega, by go_num, rfl, rfl, H, HBwt_54, Pt_54, Oout_4l0, Lib.hid Dt_54_out_4l0.out⟩
                | true =>
                  replace H := ite_t H
                  replace H := let_hid H
                  obtain ⟨t_60, ht_60, H⟩ := H
                  replace H := app_hid H
                  cases t_60 with
                  | false =>
                    have nht_60 : ¬ (k0 ≤ k1) := by have := of_decide_eq_false ht_60; omega
                    replace H := app_hid H
                    go_wp2_with fail
                    go_roundg m1
                    case measure => omega
                    case rel => exact ⟨k1 + 1, _, _, _, _, by omega, by go_num, rfl, rfl, H, HBwt_54, Pt_54, Oout_4l0, Lib.hid Dt_54_out_4l0.out⟩
                  | true =>
                    have nht_60 : k0 ≤ k1 := by have := of_decide_eq_true ht_60; omega
                    replace H := app_hid H
                    go_wp2_with fail
                    go_roundg m1
                    case measure => omega
                    case rel => exact ⟨k1 + 1, _, _, _, _, by omega, by go_num, rfl, rfl, H, HBwt_54, Pt_54, Oout_4l0, Lib.hid Dt_54_out_4l0.out⟩
end Go.Proofs.YtdgbigkcophjoaaDoor.GsSameGauges

/- loop.example/g01062/laws.rTable as a plain function, and the contract of the program's: where the plain one has an answer, the program has it. Conditions: slices read as lists. -/
namespace Go.Proofs.YtdgbigkcophjoaaDoor.GlRTable
set_option linter.unusedVariables false
set_option linter.unusedSimpArgs false
open Go.RowKit
open Go.Proofs.YtdgbigkcophjoaaDoor.Rowed Go.Proofs.YtdgbigkcophjoaaDoor.Turn Go.Proofs.YtdgbigkcophjoaaDoor.Aid Go.Proofs.YtdgbigkcophjoaaDoor.GoP Go.Proofs.YtdgbigkcophjoaaDoor.GoM

def l0 (a : (List (List Int))) (b : (List (List Int))) (k0 : Nat) (s : Unit) (nx0 bk0 : Unit → Option (Bool)) : Option (Bool) :=
  
  Option.bind (idx a (k0 : Int)) fun (yt_14 : (List Int)) =>
  Option.bind (idx b (k0 : Int)) fun (yt_18 : (List Int)) =>
  Option.bind (Go.Proofs.YtdgbigkcophjoaaDoor.GlRInts.P yt_14 yt_18) fun (t_20 : Bool) =>
  letK (!t_20) fun (t_21 : Bool) =>
  iteK t_21
  (some false)
  (appK nx0 ())

def e0  (s : Unit) : Option (Bool) :=
  
  some true

def P (a : (List (List Int))) (b : (List (List Int))) : Option (Bool) :=
  letK ((a.length : Int) != (b.length : Int)) fun (t_5 : Bool) =>
  iteK t_5
  (some false)
  (cntK (l0 a b) (a.length) 0 () (e0 ))

set_option maxRecDepth 100000 in
set_option maxHeartbeats 2000000 in
theorem C (a : (List (List Int))) (b : (List (List Int))) (A0 : Option Addr) (c0 : Nat) (A1 : Option Addr) (c1 : Nat)  (w : World) (M0 : Hid (Go.Proofs.YtdgbigkcophjoaaDoor.GoN.ReadNest w 1 Go.Proofs.YtdgbigkcophjoaaDoor.HelpInt.iv A0 a)) (N0 : Hid (a.length ≤ 9223372036854775807)) (M1 : Hid (Go.Proofs.YtdgbigkcophjoaaDoor.GoN.ReadNest w 1 Go.Proofs.YtdgbigkcophjoaaDoor.HelpInt.iv A1 b)) (N1 : Hid (b.length ≤ 9223372036854775807))  {r : Bool} (H : Hid (P a b = some r)) :
    Calls Tryd.prog 14 #[.slice A0 a.length c0, .slice A1 b.length c1] w (Gives (.bool r) w) := by
  have HB := Lib.hid (Below.refl w.heap.size w)
  unfold P at H
  have N0o := N0.out
  have N1o := N1.out
  go_enter Tryd.func14, Tryd.ntmps14
  replace H := let_hid H
  obtain ⟨t_5, ht_5, H⟩ := H
  cases t_5 with
  | false =>
    have Hht_5 : Hid (a.length = b.length) := Lib.hid (by have := bne_eq_false_iff_eq.1 ht_5; omega)
    have nht_5 : (a.length == b.length) = true := beq_iff_eq.2 Hht_5.out
    replace H := ite_f H
    go_wp2_with fail
    go_loopg [5] (a.length) (fun m_ v5_ wr => ∃ (k0 : Nat) , k0 + m_ = a.length ∧ v5_ = .int .i64 (k0 : Int) ∧ Hid (cntK (l0 a b) m_ k0 () (e0 ) = some r) ∧ Hid (Below w.heap.size w wr))
    case atStart => exact ⟨0, by omega, rfl, H, HB⟩
    case round =>
      obtain ⟨k0, hkm0, rfl, H, HBwr0⟩ := hrel
      rename World => wr0
      cases gk with
      | zero =>
        obtain rfl : k0 = a.length := by omega
        have hc0 : decide (((a.length : Nat) : Int) < ((a.length : Nat) : Int)) = false := by simp
        replace H := cnt_zero H
        unfold e0 at H
        obtain rfl := ret_hid H
        go_wp2_with fail
        go_ret
        exact ⟨rfl, HBwr0.out⟩
      | succ m0 =>
        have hlt0 : k0 < a.length := by omega
        have hc0 : decide ((k0 : Int) < ((a.length : Nat) : Int)) = true := by simp; omega
        replace H := cnt_succ H
        unfold l0 at H
        go_wp2_with fail
        replace H := idx_hid H
        obtain ⟨nt_14, yt_14, et_14, lt_14, gt_14, H⟩ := H
        obtain rfl : k0 = nt_14 := by omega
        clear et_14
        obtain ⟨bbt_14, oot_14, zt_14, Art_14, crt_14, eAt_14, zzt_14, hct_14, hrt_14, hqt_14, hnt_14⟩ := Go.Proofs.YtdgbigkcophjoaaDoor.GoN.nest_at M0.out (k := k0) lt_14
        obtain rfl := Option.some.inj (gt_14.out.symm.trans zzt_14)
        clear zzt_14
        subst eAt_14
        have ltt_14 := cell_lt hct_14
        replace hct_14 := cell_below HBwr0.out hct_14
        have Mrt_14 := Lib.hid hrt_14
        have Qrt_14 := Lib.hid hqt_14
        have Nrt_14 := Lib.hid hnt_14
        clear hrt_14 hqt_14 hnt_14
        have b0t_14 : (0 : Int) ≤ (k0 : Int) := by omega
        have b1t_14 : (k0 : Int) < ((a.length : Nat) : Int) := by omega
        have b2t_14 : ((k0 : Int)).toNat = k0 := by omega
        have Hhct_14 := Lib.hid hct_14
        replace hct_14 := cell_regrown hct_14
        replace H := idx_hid H
        obtain ⟨nt_18, yt_18, et_18, lt_18, gt_18, H⟩ := H
        obtain rfl : k0 = nt_18 := by omega
        clear et_18
        obtain ⟨bbt_18, oot_18, zt_18, Art_18, crt_18, eAt_18, zzt_18, hct_18, hrt_18, hqt_18, hnt_18⟩ := Go.Proofs.YtdgbigkcophjoaaDoor.GoN.nest_at M1.out (k := k0) lt_18
        obtain rfl := Option.some.inj (gt_18.out.symm.trans zzt_18)
        clear zzt_18
        subst eAt_18
        have ltt_18 := cell_lt hct_18
        replace hct_18 := cell_below HBwr0.out hct_18
        have Mrt_18 := Lib.hid hrt_18
        have Qrt_18 := Lib.hid hqt_18
        have Nrt_18 := Lib.hid hnt_18
        clear hrt_18 hqt_18 hnt_18
        have b0t_18 : (0 : Int) ≤ (k0 : Int) := by omega
        have b1t_18 : (k0 : Int) < ((b.length : Nat) : Int) := by omega
        have b2t_18 : ((k0 : Int)).toNat = k0 := by omega
        have Hhct_18 := Lib.hid hct_18
        replace hct_18 := cell_regrown hct_18
        replace H := bind_hid H
        obtain ⟨t_20, qt_20, H⟩ := H
        have nt_20 : ∀ d os, Calls Tryd.prog 8 #[.slice Art_14 yt_14.length crt_14, .slice Art_18 yt_18.length crt_18] (Go.Sort.grow (redrawn wr0 d) os) fun e w'' => e = .returned (.bool t_20) ∧ ∃ p : Regrown, w'' = Go.Sort.grow (redrawn wr0 p.d) p.os := fun d os => Calls.regrown_of (Go.Proofs.YtdgbigkcophjoaaDoor.GlRInts.C (yt_14) (yt_18) Art_14 crt_14 Art_18 crt_18 _   (Lib.hid (Cells.below (Cells.below Mrt_14.out HBwr0.out) (below_regrown _ _ _))) Nrt_14 (Lib.hid (Cells.below (Cells.below Mrt_18.out HBwr0.out) (below_regrown _ _ _))) Nrt_18 qt_20)
        cases t_20 with
        | false =>
          replace H := let_hid H
          obtain ⟨t_21, ht_21, H⟩ := H
          obtain rfl : t_21 = true := ht_21.symm
          refine wp_region_quiet_below (by kernel_rfl) (by kernel_rfl) ?_
          repeat (go_big_quiet_step (first | (go_at_call 8; exact nt_20 _ _)))
          refine wpQuiet_nil ?_
          intro Y6 hY6
          replace hY6 := below_class hY6
          clear nt_20
          replace hct_14 := Hhct_14.out
          clear Hhct_14
          replace hct_18 := Hhct_18.out
          clear Hhct_18
          have HBY6 := Lib.hid (Below.step HBwr0.out hY6)
          replace hct_14 := cell_below hY6 hct_14
          replace hct_18 := cell_below hY6 hct_18
          clear hY6
          replace H := ite_t H
          obtain rfl := ret_hid H
          go_wp2_with fail
          go_ret
          exact ⟨rfl, HBY6.out⟩
        | true =>
          replace H := let_hid H
          obtain ⟨t_21, ht_21, H⟩ := H
          obtain rfl : t_21 = false := ht_21.symm
          refine wp_region_quiet_below (by kernel_rfl) (by kernel_rfl) ?_
          repeat (go_big_quiet_step (first | (go_at_call 8; exact nt_20 _ _)))
          refine wpQuiet_nil ?_
          intro Y6 hY6
          replace hY6 := below_class hY6
          clear nt_20
          replace hct_14 := Hhct_14.out
          clear Hhct_14
          replace hct_18 := Hhct_18.out
          clear Hhct_18
          have HBY6 := Lib.hid (Below.step HBwr0.out hY6)
          replace hct_14 := cell_below hY6 hct_14
          replace hct_18 := cell_below hY6 hct_18
          clear hY6
          replace H := ite_f H
          replace H := app_hid H
          go_wp2_with fail
          go_roundg m0
          case measure => omega
          case rel => exact ⟨k0 + 1, by omega, by go_num, H, HBY6⟩
  | true =>
    have nht_5 : ¬ (a.length = b.length) := by have := bne_iff_ne.1 ht_5; omega
    replace H := ite_t H
    obtain rfl := ret_hid H
    go_wp2_with fail
    go_ret
    exact ⟨rfl, HB.out⟩
end Go.Proofs.YtdgbigkcophjoaaDoor.GlRTable

/- loop.example/g01062/spec.DrawGaugeText as a plain function, and the contract of the program's: where the plain one has an answer, the program has it. Conditions: slices read as lists. -/
namespace Go.Proofs.YtdgbigkcophjoaaDoor.GsDrawGaugeText
set_option linter.unusedVariables false
set_option linter.unusedSimpArgs false
open Go.RowKit
open Go.Proofs.YtdgbigkcophjoaaDoor.Rowed Go.Proofs.YtdgbigkcophjoaaDoor.Turn Go.Proofs.YtdgbigkcophjoaaDoor.Aid Go.Proofs.YtdgbigkcophjoaaDoor.GoP Go.Proofs.YtdgbigkcophjoaaDoor.GoM

def P (tapes : List Int → Go.Proofs.YtdgbigkcophjoaaDoor.GoC.Tape) (code : (List Int)) : Option (Int) :=
  letK (tapes code) fun (t_3 : Go.Proofs.YtdgbigkcophjoaaDoor.GoC.Tape) =>
  letK ([500, 1100, 1105, 1150, 1175, 2000, 499, 2001]) fun (t_6 : (List Int)) =>
  bind2 (Go.Proofs.YtdgbigkcophjoaaDoor.GsL1CurPick.P t_3 24) fun (t_8 : Int) (t_8_tp : Go.Proofs.YtdgbigkcophjoaaDoor.GoC.Tape) =>
  letK (IntKind.i64.wrap (Int.tdiv t_8 11)) fun (t_9 : Int) =>
  letK (IntKind.i64.wrap (6 + t_9)) fun (t_10 : Int) =>
  guardK ((0 : Int) ≤ t_10 ∧ (t_10 : Int) ≤ (t_6.length : Int)) <|
  letK (List.take (Int.toNat t_10) t_6) fun (t_11 : (List Int)) =>
  bind2 (Go.Proofs.YtdgbigkcophjoaaDoor.GsL1CurAmong.P t_8_tp t_11) fun (t_12 : Int) (t_12_tp : Go.Proofs.YtdgbigkcophjoaaDoor.GoC.Tape) =>
  some t_12

set_option maxRecDepth 100000 in
set_option maxHeartbeats 2000000 in
theorem C (tapes : List Int → Go.Proofs.YtdgbigkcophjoaaDoor.GoC.Tape) (code : (List Int)) (A0 : Option Addr) (c0 : Nat)  (w : World) (HE : Hid (Go.Proofs.YtdgbigkcophjoaaDoor.GoC.Tells tapes)) (M0 : Hid (Cells w 1 A0 code.length (Go.Proofs.YtdgbigkcophjoaaDoor.GoC.u8s code))) (N0 : Hid (code.length ≤ 9223372036854775807)) (V0 : Hid (∀ z ∈ code, 0 ≤ z ∧ z ≤ 255))  {r : Int} (H : Hid (P tapes code = some r)) :
    Calls Tryd.prog 15 #[.slice A0 code.length c0] w (Gives (.int .i64 r) w) := by
  have HB := Lib.hid (Below.refl w.heap.size w)
  unfold P at H
  have N0o := N0.out
  obtain ⟨i0_3, hi_3, hz0_3, hz1_3, hz2_3⟩ := Aid.info_parts (P := Tryd.prog) (T := 3) (z := .int .i64 0) (s := 1) (b := 8) (by kernel_rfl)
  go_enter Tryd.func15, Tryd.ntmps15
  replace H := let_hid H
  obtain ⟨t_3, ht_3, H⟩ := H
  obtain ⟨w_t_3, hw_t_3⟩ : ∃ x, w.alloc (.cells #[.slice A0 code.length c0, .int .i64 0, .int .u64 0] 47) = x := ⟨_, rfl⟩
  have bw_t_3 : Below w.heap.size w w_t_3 := by rw [← hw_t_3]; exact (Below.refl _ _).alloc (Nat.le_refl _) _
  have Kt_3 : Hid (Go.Proofs.YtdgbigkcophjoaaDoor.GoC.CurIs w_t_3 w.heap.size w.heap.size A0 c0 t_3) := Lib.hid (by rw [← hw_t_3, ← ht_3]; exact Go.Proofs.YtdgbigkcophjoaaDoor.GoC.cur_new HB.out.size (Cells.below M0.out HB.out) (fun a_ ha_ h0_ => by subst ha_; exact Go.Proofs.YtdgbigkcophjoaaDoor.GoC.cells_lt M0.out (by unfold Go.Proofs.YtdgbigkcophjoaaDoor.GoC.u8s; rw [List.length_map]; exact h0_)) (HE.out.2.2 code V0.out N0.out))
  have hht_3 := Lib.hid ht_3
  clear ht_3
  have HBw_t_3 := Lib.hid (Below.step HB.out bw_t_3)
  clear bw_t_3
  replace H := let_hid H
  obtain ⟨t_6, ht_6, H⟩ := H
  obtain ⟨w_t_6, hw_t_6⟩ : ∃ x, w_t_3.alloc (.cells #[.int .i64 500, .int .i64 1100, .int .i64 1105, .int .i64 1150, .int .i64 1175, .int .i64 2000, .int .i64 499, .int .i64 2001] 3) = x := ⟨_, rfl⟩
  have bw_t_6 : Below w_t_3.heap.size w_t_3 w_t_6 := by rw [← hw_t_6]; exact (Below.refl _ _).alloc (Nat.le_refl _) _
  have hs_t_6 := HBw_t_3.out.size
  have nt_6 : t_6.length = 8 := by rw [← ht_6]; rfl
  have Ot_6 : Hid (w_t_6.ownsRow w.heap.size 3 1 (.slice (some ⟨w_t_3.heap.size, 0, none⟩) 8 8) 8 (Go.Proofs.YtdgbigkcophjoaaDoor.HelpInt.iv t_6)) := by
    rw [← hw_t_6, ← ht_6]
    have e_ : ([.int .i64 500, .int .i64 1100, .int .i64 1105, .int .i64 1150, .int .i64 1175, .int .i64 2000, .int .i64 499, .int .i64 2001] : List Value) = (Go.Proofs.YtdgbigkcophjoaaDoor.HelpInt.iv ([500, 1100, 1105, 1150, 1175, 2000, 499, 2001] : List Int)) := rfl
    exact Lib.hid (own_laid (n := 8) hs_t_6 e_ rfl (by unfold maxLen; omega))
  clear hs_t_6
  have hht_6 := Lib.hid ht_6
  clear ht_6
  replace nt_6 := Lib.hid nt_6
  have Dt_6_t_3 := Lib.hid (Go.Proofs.YtdgbigkcophjoaaDoor.GoC.apart_cur Kt_3.out)
  have HBw_t_6 := Lib.hid (Below.step HBw_t_3.out bw_t_6)
  replace Kt_3 := Lib.hid (Go.Proofs.YtdgbigkcophjoaaDoor.GoC.cur_below Kt_3.out bw_t_6)
  clear bw_t_6
  replace H := bind2_hid H
  obtain ⟨t_8, t_8_tp, qt_8, H⟩ := H
  go_wp2_with fail
  go_at_call 25
  refine (Go.Proofs.YtdgbigkcophjoaaDoor.GsL1CurPick.C (t_3) (24) (w.heap.size) (A0) (c0) (w.heap.size) _   Kt_3 qt_8).mono ?_
  rintro e_t_8 wt_8 ⟨rfl, kt_8, gt_8⟩
  have Kt_8 := Lib.hid kt_8
  have Gt_8 : Hid (w_t_6.grownBy wt_8 (Value.slice (some ⟨w.heap.size, 0, none⟩) 1 1).ownBlock) := Lib.hid gt_8
  clear kt_8 gt_8
  have HBwt_8 := Lib.hid (Go.Proofs.YtdgbigkcophjoaaDoor.GoC.below_cur HBw_t_6.out Gt_8.out HBw_t_6.out.size (Go.Proofs.YtdgbigkcophjoaaDoor.GoC.cur_lt Kt_3.out).1)
  replace Ot_6 := Lib.hid (own_other Ot_6.out Gt_8.out (Apart.symm Dt_6_t_3.out))
  clear Kt_3 Gt_8
  replace H := let_hid H
  obtain ⟨t_9, ht_9, H⟩ := H
  replace H := let_hid H
  obtain ⟨t_10, ht_10, H⟩ := H
  replace H := guard_hid H
  obtain ⟨hl_t_11, H⟩ := H
  replace H := let_hid H
  obtain ⟨t_11, ht_11, H⟩ := H
  have dt_11 : ((Go.Proofs.YtdgbigkcophjoaaDoor.HelpInt.iv t_6)).take (Int.toNat t_10 * 1) = (Go.Proofs.YtdgbigkcophjoaaDoor.HelpInt.iv t_11) := by
    rw [← ht_11]
    simp [Go.Proofs.YtdgbigkcophjoaaDoor.HelpInt.iv, List.map_take]
  have nt_11 : Int.toNat t_10 = t_11.length := by rw [← ht_11, List.length_take]; have h_ := nt_6.out; omega
  replace hl_t_11 : (0 : Int) ≤ t_10 ∧ (t_10 : Int) ≤ ((8 : Nat) : Int) := by have h_ := nt_6.out; omega
  obtain ⟨rt_11, Ot_11⟩ := slice_head (P := Tryd.prog) (t := 27) (e := 3) (k := .i64) (by kernel_rfl) (by kernel_rfl) hi_3 hz1_3 Ot_6.out hl_t_11 nt_11 dt_11
  replace Ot_11 := Lib.hid Ot_11
  clear dt_11 nt_11 hl_t_11
  have hht_11 := Lib.hid ht_11
  clear ht_11
  replace H := bind2_hid H
  obtain ⟨t_12, t_12_tp, qt_12, H⟩ := H
  go_wp2_with fail
  go_at_call 24
  refine (Go.Proofs.YtdgbigkcophjoaaDoor.GsL1CurAmong.C (t_8_tp) (t_11) (some ⟨w_t_3.heap.size, 0, none⟩) 8 (w.heap.size) (A0) (c0) (w.heap.size) _   (Lib.hid (own_cells Ot_11.out)) (Lib.hid (own_max Ot_11.out)) Kt_8 (Lib.hid (fun _ => Dt_6_t_3.out)) qt_12).mono ?_
  rintro e_t_12 wt_12 ⟨rfl, kt_12, gt_12⟩
  have Kt_12 := Lib.hid kt_12
  have Gt_12 : Hid (wt_8.grownBy wt_12 (Value.slice (some ⟨w.heap.size, 0, none⟩) 1 1).ownBlock) := Lib.hid gt_12
  clear kt_12 gt_12
  have HBwt_12 := Lib.hid (Go.Proofs.YtdgbigkcophjoaaDoor.GoC.below_cur HBwt_8.out Gt_12.out HBwt_8.out.size (Go.Proofs.YtdgbigkcophjoaaDoor.GoC.cur_lt Kt_8.out).1)
  replace Ot_11 := Lib.hid (own_other Ot_11.out Gt_12.out (Apart.symm Dt_6_t_3.out))
  clear Kt_8 Gt_12
  obtain rfl := ret_hid H
  go_wp2_with fail
  go_ret
  exact ⟨rfl, HBwt_12.out⟩
end Go.Proofs.YtdgbigkcophjoaaDoor.GsDrawGaugeText

/- strconv.Itoa as a plain function; the contract of the program's. Condition: the library's table of powers of ten is as the library lays it. -/
namespace Go.Proofs.YtdgbigkcophjoaaDoor.GxStrconvItoa
set_option linter.unusedVariables false
open Go.RowKit
open Go.Proofs.YtdgbigkcophjoaaDoor.Turn Go.Proofs.YtdgbigkcophjoaaDoor.Tab
def P (n : Int) : Option ByteArray := if -9223372036854775808 ≤ n ∧ n ≤ 9223372036854775807 then some ⟨(Lib.itoa n).toArray⟩ else none
theorem C (n : Int) (w : World) (HT : Hid (Tab w)) {r : ByteArray} (H : Hid (P n = some r)) : Calls Tryd.prog 47 #[.int .i64 n] w (Gives (.string r) w) := by
  have h : P n = some r := H
  unfold P at h
  by_cases hk : -9223372036854775808 ≤ n ∧ n ≤ 9223372036854775807
  · rw [if_pos hk] at h
    obtain rfl := Option.some.inj h
    exact itoa_any n hk.1 hk.2 w HT
  · rw [if_neg hk] at h; simp at h
end Go.Proofs.YtdgbigkcophjoaaDoor.GxStrconvItoa

/- loop.example/g01062/impl.hundredths as a plain function, and the contract of the program's: where the plain one has an answer, the program has it. Conditions: slices read as lists. -/
namespace Go.Proofs.YtdgbigkcophjoaaDoor.GiHundredths
set_option linter.unusedVariables false
set_option linter.unusedSimpArgs false
open Go.RowKit
open Go.Proofs.YtdgbigkcophjoaaDoor.Rowed Go.Proofs.YtdgbigkcophjoaaDoor.Turn Go.Proofs.YtdgbigkcophjoaaDoor.Aid Go.Proofs.YtdgbigkcophjoaaDoor.GoP Go.Proofs.YtdgbigkcophjoaaDoor.GoM Go.Proofs.YtdgbigkcophjoaaDoor.Tab

def P (n_0 : Int) : Option (ByteArray) :=
  letK (Int.tmod n_0 100) fun (t_2 : Int) =>
  letK (IntKind.i64.wrap (100 + t_2)) fun (t_3 : Int) =>
  Option.bind (Go.Proofs.YtdgbigkcophjoaaDoor.GxStrconvItoa.P t_3) fun (t_4 : ByteArray) =>
  guardK ((0 : Int) ≤ 1 ∧ (1 : Int) ≤ (t_4.size : Int)) <|
  letK (ByteArray.extract t_4 (Int.toNat 1) t_4.size) fun (t_5 : ByteArray) =>
  letK (IntKind.i64.wrap (Int.tdiv n_0 100)) fun (t_8 : Int) =>
  Option.bind (Go.Proofs.YtdgbigkcophjoaaDoor.GxStrconvItoa.P t_8) fun (t_9 : ByteArray) =>
  guardK (t_9.size + (⟨#[46]⟩ : ByteArray).size ≤ maxLen) <|
  letK (t_9 ++ (⟨#[46]⟩ : ByteArray)) fun (t_10 : ByteArray) =>
  guardK (t_10.size + t_5.size ≤ maxLen) <|
  letK (t_10 ++ t_5) fun (t_12 : ByteArray) =>
  some t_12

set_option maxRecDepth 100000 in
set_option maxHeartbeats 2000000 in
theorem C (n_0 : Int)   (w : World) (HT : Hid (Tab w))   {r : ByteArray} (H : Hid (P n_0 = some r)) :
    Calls Tryd.prog 41 #[.int .i64 n_0] w (Gives (.string r) w) := by
  have HB := Lib.hid (Below.refl w.heap.size w)
  unfold P at H
  go_enter Tryd.func41, Tryd.ntmps41
  replace H := let_hid H
  obtain ⟨t_2, ht_2, H⟩ := H
  replace H := let_hid H
  obtain ⟨t_3, ht_3, H⟩ := H
  replace H := bind_hid H
  obtain ⟨t_4, qt_4, H⟩ := H
  go_wp2_with fail
  go_at_call 47
  refine (Go.Proofs.YtdgbigkcophjoaaDoor.GxStrconvItoa.C (t_3)  _ (tab_below HB.out HT)   qt_4).mono ?_
  rintro e_t_4 wt_4 ⟨rfl, bt_4⟩
  have HBwt_4 := Lib.hid (Below.step HB.out bt_4)
  clear bt_4
  replace H := guard_hid H
  obtain ⟨hl_t_5, H⟩ := H
  replace H := let_hid H
  obtain ⟨t_5, ht_5, H⟩ := H
  have ct_5 := slice_from (P := Tryd.prog) (t := 9) (k := .i64) Tryd.underlying9 ht_5 hl_t_5
  clear hl_t_5
  have hht_5 := Lib.hid ht_5
  clear ht_5
  replace H := let_hid H
  obtain ⟨t_8, ht_8, H⟩ := H
  replace H := bind_hid H
  obtain ⟨t_9, qt_9, H⟩ := H
  go_wp2_with fail
  go_at_call 47
  refine (Go.Proofs.YtdgbigkcophjoaaDoor.GxStrconvItoa.C (t_8)  _ (tab_below HBwt_4.out HT)   qt_9).mono ?_
  rintro e_t_9 wt_9 ⟨rfl, bt_9⟩
  have HBwt_9 := Lib.hid (Below.step HBwt_4.out bt_9)
  clear bt_9
  replace H := guard_hid H
  obtain ⟨hl_t_10, H⟩ := H
  replace H := let_hid H
  obtain ⟨t_10, ht_10, H⟩ := H
  have ct_10 := cat_rule (P := Tryd.prog) ht_10 hl_t_10
  clear hl_t_10
  have hht_10 := Lib.hid ht_10
  clear ht_10
  replace H := guard_hid H
  obtain ⟨hl_t_12, H⟩ := H
  replace H := let_hid H
  obtain ⟨t_12, ht_12, H⟩ := H
  have ct_12 := cat_rule (P := Tryd.prog) ht_12 hl_t_12
  clear hl_t_12
  have hht_12 := Lib.hid ht_12
  clear ht_12
  obtain rfl := ret_hid H
  go_wp2_with fail
  go_ret
  exact ⟨rfl, HBwt_9.out⟩
end Go.Proofs.YtdgbigkcophjoaaDoor.GiHundredths

/- strings.TrimRight at a set of one ASCII letter as a plain function; the contract of the program's. No condition. -/
namespace Go.Proofs.YtdgbigkcophjoaaDoor.GxStringsTrimRight
set_option linter.unusedVariables false
open Go.RowKit
open Go.Proofs.YtdgbigkcophjoaaDoor.Turn
def P (s c : ByteArray) : Option ByteArray := match c.data.toList with
  | [x] => if x.toNat < 128 ∧ s.size ≤ 9223372036854775807 then some ⟨(Lib.trimRightB s.data.toList x).toArray⟩ else none
  | _ => none
theorem C (s c : ByteArray) (w : World) {r : ByteArray} (H : Hid (P s c = some r)) : Calls Tryd.prog 40 #[.string s, .string c] w (Gives (.string r) w) := by
  have h : P s c = some r := H
  unfold P at h
  split at h
  · rename_i x hx
    by_cases hk : x.toNat < 128 ∧ s.size ≤ 9223372036854775807
    · rw [if_pos hk] at h
      obtain rfl := Option.some.inj h
      have hc : c = ⟨#[x]⟩ := by
        obtain ⟨⟨l⟩⟩ := c
        simp only at hx
        subst hx; rfl
      rw [hc]
      refine (Tryd.strings_TrimRight_one s x hk.1 w hk.2).mono ?_
      rintro e w' ⟨rfl, rfl⟩
      exact ⟨rfl, Below.refl _ _⟩
    · rw [if_neg hk] at h; simp at h
  · simp at h
end Go.Proofs.YtdgbigkcophjoaaDoor.GxStringsTrimRight

/- internal/stringslite.HasSuffix as a plain function, and the contract of the program's: where the plain one has an answer, the program has it. Conditions: slices read as lists. -/
namespace Go.Proofs.YtdgbigkcophjoaaDoor.GxInternalStringsliteHasSuffix
set_option linter.unusedVariables false
set_option linter.unusedSimpArgs false
open Go.RowKit
open Go.Proofs.YtdgbigkcophjoaaDoor.Rowed Go.Proofs.YtdgbigkcophjoaaDoor.Turn Go.Proofs.YtdgbigkcophjoaaDoor.Aid Go.Proofs.YtdgbigkcophjoaaDoor.GoP Go.Proofs.YtdgbigkcophjoaaDoor.GoM

def P (s_0 : ByteArray) (suffix : ByteArray) : Option (Bool) :=
  letK (decide ((suffix.size : Int) ≤ (s_0.size : Int))) fun (t_5 : Bool) =>
  joinK (fun (t_16 : Bool) =>
  some t_16) fun jt_16 => iteK t_5 (letK (IntKind.i64.wrap ((s_0.size : Int) - (suffix.size : Int))) fun (t_12 : Int) =>
  guardK ((0 : Int) ≤ t_12 ∧ (t_12 : Int) ≤ (s_0.size : Int)) <|
  letK (ByteArray.extract s_0 (Int.toNat t_12) s_0.size) fun (t_13 : ByteArray) =>
  letK (t_13.toList == suffix.toList) fun (t_15 : Bool) =>
  appK jt_16 t_15) (appK jt_16 false)

set_option maxRecDepth 100000 in
set_option maxHeartbeats 2000000 in
theorem C (s_0 : ByteArray) (suffix : ByteArray)   (w : World)   {r : Bool} (H : Hid (P s_0 suffix = some r)) :
    Calls Tryd.prog 68 #[.string s_0, .string suffix] w (Gives (.bool r) w) := by
  have HB := Lib.hid (Below.refl w.heap.size w)
  unfold P at H
  go_enter Tryd.func68, Tryd.ntmps68
  replace H := let_hid H
  obtain ⟨t_5, ht_5, H⟩ := H
  replace H := join_hid H
  cases t_5 with
  | false =>
    have nht_5 : ¬ (suffix.size ≤ s_0.size) := by have := of_decide_eq_false ht_5; omega
    replace H := ite_f H
    replace H := app_hid H
    obtain rfl := ret_hid H
    go_wp2_with fail
    go_ret
    exact ⟨rfl, HB.out⟩
  | true =>
    have nht_5 : suffix.size ≤ s_0.size := by have := of_decide_eq_true ht_5; omega
    replace H := ite_t H
    replace H := let_hid H
    obtain ⟨t_12, ht_12, H⟩ := H
    replace H := guard_hid H
    obtain ⟨hl_t_13, H⟩ := H
    replace H := let_hid H
    obtain ⟨t_13, ht_13, H⟩ := H
    have ct_13 := slice_from (P := Tryd.prog) (t := 9) (k := .i64) Tryd.underlying9 ht_13 hl_t_13
    clear hl_t_13
    have hht_13 := Lib.hid ht_13
    clear ht_13
    replace H := let_hid H
    obtain ⟨t_15, ht_15, H⟩ := H
    replace H := app_hid H
    obtain rfl := ret_hid H
    go_wp2_with fail
    go_ret
    exact ⟨rfl, HB.out⟩

set_option maxRecDepth 100000 in
set_option maxHeartbeats 2000000 in
theorem C0 (s_0 : ByteArray) (suffix : ByteArray)   (w : World)   {r : Bool} (H : Hid (P s_0 suffix = some r)) :
    Calls Tryd.prog 68 #[.string s_0, .string suffix] w (fun e w'' => e = .returned (.bool r) ∧ w'' = w) := by
  have HB := Lib.hid (Below.refl w.heap.size w)
  unfold P at H
  go_enter Tryd.func68, Tryd.ntmps68
  replace H := let_hid H
  obtain ⟨t_5, ht_5, H⟩ := H
  replace H := join_hid H
  cases t_5 with
  | false =>
    have nht_5 : ¬ (suffix.size ≤ s_0.size) := by have := of_decide_eq_false ht_5; omega
    replace H := ite_f H
    replace H := app_hid H
    obtain rfl := ret_hid H
    go_wp2_with fail
    go_ret
    exact ⟨rfl, rfl⟩
  | true =>
    have nht_5 : suffix.size ≤ s_0.size := by have := of_decide_eq_true ht_5; omega
    replace H := ite_t H
    replace H := let_hid H
    obtain ⟨t_12, ht_12, H⟩ := H
    replace H := guard_hid H
    obtain ⟨hl_t_13, H⟩ := H
    replace H := let_hid H
    obtain ⟨t_13, ht_13, H⟩ := H
    have ct_13 := slice_from (P := Tryd.prog) (t := 9) (k := .i64) Tryd.underlying9 ht_13 hl_t_13
    clear hl_t_13
    have hht_13 := Lib.hid ht_13
    clear ht_13
    replace H := let_hid H
    obtain ⟨t_15, ht_15, H⟩ := H
    replace H := app_hid H
    obtain rfl := ret_hid H
    go_wp2_with fail
    go_ret
    exact ⟨rfl, rfl⟩
end Go.Proofs.YtdgbigkcophjoaaDoor.GxInternalStringsliteHasSuffix

/- internal/stringslite.TrimSuffix as a plain function, and the contract of the program's: where the plain one has an answer, the program has it. Conditions: slices read as lists. -/
namespace Go.Proofs.YtdgbigkcophjoaaDoor.GxInternalStringsliteTrimSuffix
set_option linter.unusedVariables false
set_option linter.unusedSimpArgs false
open Go.RowKit
open Go.Proofs.YtdgbigkcophjoaaDoor.Rowed Go.Proofs.YtdgbigkcophjoaaDoor.Turn Go.Proofs.YtdgbigkcophjoaaDoor.Aid Go.Proofs.YtdgbigkcophjoaaDoor.GoP Go.Proofs.YtdgbigkcophjoaaDoor.GoM

def P (s_0 : ByteArray) (suffix : ByteArray) : Option (ByteArray) :=
  Option.bind (Go.Proofs.YtdgbigkcophjoaaDoor.GxInternalStringsliteHasSuffix.P s_0 suffix) fun (t_3 : Bool) =>
  iteK t_3
  (letK (IntKind.i64.wrap ((s_0.size : Int) - (suffix.size : Int))) fun (t_9 : Int) =>
  guardK ((0 : Int) ≤ t_9 ∧ (t_9 : Int) ≤ (s_0.size : Int)) <|
  letK (ByteArray.extract s_0 0 (Int.toNat t_9)) fun (t_10 : ByteArray) =>
  some t_10)
  (some s_0)

set_option maxRecDepth 100000 in
set_option maxHeartbeats 2000000 in
theorem C (s_0 : ByteArray) (suffix : ByteArray)   (w : World)   {r : ByteArray} (H : Hid (P s_0 suffix = some r)) :
    Calls Tryd.prog 63 #[.string s_0, .string suffix] w (Gives (.string r) w) := by
  have HB := Lib.hid (Below.refl w.heap.size w)
  unfold P at H
  go_enter Tryd.func63, Tryd.ntmps63
  replace H := bind_hid H
  obtain ⟨t_3, qt_3, H⟩ := H
  go_wp2_with fail
  go_at_call 68
  refine (Go.Proofs.YtdgbigkcophjoaaDoor.GxInternalStringsliteHasSuffix.C (s_0) (suffix)  _    qt_3).mono ?_
  rintro e_t_3 wt_3 ⟨rfl, bt_3⟩
  have HBwt_3 := Lib.hid (Below.step HB.out bt_3)
  clear bt_3
  cases t_3 with
  | false =>
    replace H := ite_f H
    obtain rfl := ret_hid H
    go_wp2_with fail
    go_ret
    exact ⟨rfl, HBwt_3.out⟩
  | true =>
    replace H := ite_t H
    replace H := let_hid H
    obtain ⟨t_9, ht_9, H⟩ := H
    replace H := guard_hid H
    obtain ⟨hl_t_10, H⟩ := H
    replace H := let_hid H
    obtain ⟨t_10, ht_10, H⟩ := H
    have ct_10 := slice_to (P := Tryd.prog) (t := 9) (k := .i64) Tryd.underlying9 ht_10 hl_t_10
    clear hl_t_10
    have hht_10 := Lib.hid ht_10
    clear ht_10
    obtain rfl := ret_hid H
    go_wp2_with fail
    go_ret
    exact ⟨rfl, HBwt_3.out⟩
end Go.Proofs.YtdgbigkcophjoaaDoor.GxInternalStringsliteTrimSuffix

/- strings.TrimSuffix as a plain function, and the contract of the program's: where the plain one has an answer, the program has it. Conditions: slices read as lists. -/
namespace Go.Proofs.YtdgbigkcophjoaaDoor.GxStringsTrimSuffix
set_option linter.unusedVariables false
set_option linter.unusedSimpArgs false
open Go.RowKit
open Go.Proofs.YtdgbigkcophjoaaDoor.Rowed Go.Proofs.YtdgbigkcophjoaaDoor.Turn Go.Proofs.YtdgbigkcophjoaaDoor.Aid Go.Proofs.YtdgbigkcophjoaaDoor.GoP Go.Proofs.YtdgbigkcophjoaaDoor.GoM

def P (s_0 : ByteArray) (suffix : ByteArray) : Option (ByteArray) :=
  Option.bind (Go.Proofs.YtdgbigkcophjoaaDoor.GxInternalStringsliteTrimSuffix.P s_0 suffix) fun (t_3 : ByteArray) =>
  some t_3

set_option maxRecDepth 100000 in
set_option maxHeartbeats 2000000 in
theorem C (s_0 : ByteArray) (suffix : ByteArray)   (w : World)   {r : ByteArray} (H : Hid (P s_0 suffix = some r)) :
    Calls Tryd.prog 42 #[.string s_0, .string suffix] w (Gives (.string r) w) := by
  have HB := Lib.hid (Below.refl w.heap.size w)
  unfold P at H
  go_enter Tryd.func42, Tryd.ntmps42
  replace H := bind_hid H
  obtain ⟨t_3, qt_3, H⟩ := H
  go_wp2_with fail
  go_at_call 63
  refine (Go.Proofs.YtdgbigkcophjoaaDoor.GxInternalStringsliteTrimSuffix.C (s_0) (suffix)  _    qt_3).mono ?_
  rintro e_t_3 wt_3 ⟨rfl, bt_3⟩
  have HBwt_3 := Lib.hid (Below.step HB.out bt_3)
  clear bt_3
  obtain rfl := ret_hid H
  go_wp2_with fail
  go_ret
  exact ⟨rfl, HBwt_3.out⟩
end Go.Proofs.YtdgbigkcophjoaaDoor.GxStringsTrimSuffix

/- loop.example/g01062/impl.GaugeText as a plain function, and the contract of the program's: where the plain one has an answer, the program has it. Conditions: slices read as lists. -/
namespace Go.Proofs.YtdgbigkcophjoaaDoor.GiGaugeText
set_option linter.unusedVariables false
set_option linter.unusedSimpArgs false
open Go.RowKit
open Go.Proofs.YtdgbigkcophjoaaDoor.Rowed Go.Proofs.YtdgbigkcophjoaaDoor.Turn Go.Proofs.YtdgbigkcophjoaaDoor.Aid Go.Proofs.YtdgbigkcophjoaaDoor.GoP Go.Proofs.YtdgbigkcophjoaaDoor.GoM Go.Proofs.YtdgbigkcophjoaaDoor.Tab

def P (gauge : Int) : Option (ByteArray × Bool) :=
  Option.bind (Go.Proofs.YtdgbigkcophjoaaDoor.GiIsGauge.P gauge) fun (t_3 : Bool) =>
  letK (!t_3) fun (t_4 : Bool) =>
  iteK t_4
  (some ((⟨#[]⟩ : ByteArray), false))
  (Option.bind (Go.Proofs.YtdgbigkcophjoaaDoor.GiHundredths.P gauge) fun (t_8 : ByteArray) =>
  Option.bind (Go.Proofs.YtdgbigkcophjoaaDoor.GxStringsTrimRight.P t_8 (⟨#[48]⟩ : ByteArray)) fun (t_9 : ByteArray) =>
  Option.bind (Go.Proofs.YtdgbigkcophjoaaDoor.GxStringsTrimSuffix.P t_9 (⟨#[46]⟩ : ByteArray)) fun (t_12 : ByteArray) =>
  some (t_12, true))

set_option maxRecDepth 100000 in
set_option maxHeartbeats 2000000 in
theorem C (gauge : Int)   (w : World) (HT : Hid (Tab w))   {r0 : ByteArray} {r1 : Bool} (H : Hid (P gauge = some (r0, r1))) :
    Calls Tryd.prog 16 #[.int .i64 gauge] w (Gives (.tuple #[.string r0, .bool r1]) w) := by
  have HB := Lib.hid (Below.refl w.heap.size w)
  unfold P at H
  go_enter Tryd.func16, Tryd.ntmps16
  replace H := bind_hid H
  obtain ⟨t_3, qt_3, H⟩ := H
  go_wp2_with fail
  go_at_call 39
  refine (Go.Proofs.YtdgbigkcophjoaaDoor.GiIsGauge.C (gauge)  _    qt_3).mono ?_
  rintro e_t_3 wt_3 ⟨rfl, bt_3⟩
  have HBwt_3 := Lib.hid (Below.step HB.out bt_3)
  clear bt_3
  cases t_3 with
  | false =>
    replace H := let_hid H
    obtain ⟨t_4, ht_4, H⟩ := H
    obtain rfl : t_4 = true := ht_4.symm
    replace H := ite_t H
    cases ret_hid H
    go_wp2_with fail
    go_ret2
    exact ⟨rfl, HBwt_3.out⟩
  | true =>
    replace H := let_hid H
    obtain ⟨t_4, ht_4, H⟩ := H
    obtain rfl : t_4 = false := ht_4.symm
    replace H := ite_f H
    replace H := bind_hid H
    obtain ⟨t_8, qt_8, H⟩ := H
    go_wp2_with fail
    go_at_call 41
    refine (Go.Proofs.YtdgbigkcophjoaaDoor.GiHundredths.C (gauge)  _ (tab_below HBwt_3.out HT)   qt_8).mono ?_
    rintro e_t_8 wt_8 ⟨rfl, bt_8⟩
    have HBwt_8 := Lib.hid (Below.step HBwt_3.out bt_8)
    clear bt_8
    replace H := bind_hid H
    obtain ⟨t_9, qt_9, H⟩ := H
    go_wp2_with fail
    go_at_call 40
    refine (Go.Proofs.YtdgbigkcophjoaaDoor.GxStringsTrimRight.C (t_8) ((⟨#[48]⟩ : ByteArray))  _    qt_9).mono ?_
    rintro e_t_9 wt_9 ⟨rfl, bt_9⟩
    have HBwt_9 := Lib.hid (Below.step HBwt_8.out bt_9)
    clear bt_9
    replace H := bind_hid H
    obtain ⟨t_12, qt_12, H⟩ := H
    go_wp2_with fail
    go_at_call 42
    refine (Go.Proofs.YtdgbigkcophjoaaDoor.GxStringsTrimSuffix.C (t_9) ((⟨#[46]⟩ : ByteArray))  _    qt_12).mono ?_
    rintro e_t_12 wt_12 ⟨rfl, bt_12⟩
    have HBwt_12 := Lib.hid (Below.step HBwt_9.out bt_12)
    clear bt_12
    cases ret_hid H
    go_wp2_with fail
    go_ret2
    exact ⟨rfl, HBwt_12.out⟩
end Go.Proofs.YtdgbigkcophjoaaDoor.GiGaugeText

/- The contracts of spec.l1In and spec.l1Num: whether a number lies within bounds, and its decimal numeral. Condition: the number is an int, from -2^62 on for l1Num. -/
namespace Go.Proofs.YtdgbigkcophjoaaDoor.Num
open Go.RowKit

theorem l1In_yes (x a b : Int) (w : World) (h1 : a ≤ x) (h2 : x ≤ b) :
    Calls Tryd.prog 56 #[.int .i64 x, .int .i64 a, .int .i64 b] w fun e w' => e = .returned (.bool true) ∧ w = w' := by
  go_enter Tryd.func56, Tryd.ntmps56
  go_wp2
  go_ret
  exact ⟨rfl, rfl⟩

theorem l1In_no (x a b : Int) (w : World) (h : x < a ∨ b < x) :
    Calls Tryd.prog 56 #[.int .i64 x, .int .i64 a, .int .i64 b] w fun e w' => e = .returned (.bool false) ∧ w = w' := by
  by_cases h1 : a ≤ x
  · have h2 : b < x := by omega
    clear h
    go_enter Tryd.func56, Tryd.ntmps56
    go_wp2
    go_ret
    exact ⟨by simp; omega, rfl⟩
  · clear h
    go_enter Tryd.func56, Tryd.ntmps56
    go_wp2
    go_ret
    exact ⟨rfl, rfl⟩

theorem digits10 (n : Int) (_h0 : 0 ≤ n) (h : n < 10) : (ByteArray.mk #[48, 49, 50, 51, 52, 53, 54, 55, 56, 57]).extract n.toNat (n + 1).toNat = ByteArray.mk #[UInt8.ofNat (48 + n.toNat)] := by
  obtain rfl | rfl | rfl | rfl | rfl | rfl | rfl | rfl | rfl | rfl : n = 0 ∨ n = 1 ∨ n = 2 ∨ n = 3 ∨ n = 4 ∨ n = 5 ∨ n = 6 ∨ n = 7 ∨ n = 8 ∨ n = 9 := by omega
  all_goals rfl

theorem decDigits_step (n : Int) (_h0 : 0 ≤ n) (h : ¬ n < 10) : Lib.decDigits n.toNat = Lib.decDigits (n / 10).toNat ++ [UInt8.ofNat (48 + (n % 10).toNat)] := by
  rw [Lib.decDigits, dif_neg (by omega)]
  have e1 : n.toNat / 10 = (n / 10).toNat := by omega
  have e2 : n.toNat % 10 = (n % 10).toNat := by omega
  rw [e1, e2]

theorem add_digit (n : Int) (h0 : 0 ≤ n) (h : ¬ n < 10) (hb : n ≤ 4611686018427387904) (W : World) :
    (Op.stringOp .add ⟨(Lib.decDigits (n / 10).toNat).toArray⟩ ((ByteArray.mk #[48, 49, 50, 51, 52, 53, 54, 55, 56, 57]).extract (n % 10).toNat (n % 10 + 1).toNat)).run Tryd.prog W
      = .ok (.string ⟨(Lib.decDigits n.toNat).toArray⟩) W := by
  have hl : Lib.nDigits (n / 10).toNat ≤ 20 := Lib.nDigits_le20 _ (by omega)
  rw [digits10 (n % 10) (by omega) (by omega)]
  rw [run_string_add_sum]
  · rw [decDigits_step n h0 h]
    congr 2
  · have e1 : (ByteArray.mk (Lib.decDigits (n / 10).toNat).toArray).size = Lib.nDigits (n / 10).toNat := by
      rw [← Lib.decDigits_length]; rfl
    rw [e1]
    show Lib.nDigits (n / 10).toNat + 1 ≤ _
    omega

set_option maxHeartbeats 800000 in
theorem l1Num_pos (k : Nat) : ∀ (n : Int) (w : World), n < k → 0 ≤ n → n ≤ 4611686018427387904 →
    Calls Tryd.prog 49 #[.int .i64 n] w fun e w' => e = .returned (.string ⟨(Lib.decDigits n.toNat).toArray⟩) ∧ ∃ m, w' = w.drewN m := by
  induction k with
  | zero => intro n w hk h0 _; omega
  | succ k ih =>
    intro n w hk h0 hb
    by_cases h10 : n < 10
    · have HD := Lib.hid (digits10 n h0 h10)
      go_enter Tryd.func49, Tryd.ntmps49
      go_wp2_with fail
      go_ret
      refine ⟨?_, 0, rfl⟩
      rw [Lib.decDigits_one (by omega)]
      simp only [HD.out]
      rfl
    · have hadd := add_digit n h0 h10 hb
      go_enter Tryd.func49, Tryd.ntmps49
      go_wp2_with fail
      have q1 : IntKind.i64.wrap (n.tdiv 10) = n / 10 := by rw [Int.tdiv_eq_ediv_of_nonneg h0]; exact IntWalk.i64_in _ (by omega)
      have q2 : n.tmod 10 = n % 10 := Int.tmod_eq_emod_of_nonneg h0
      have q3 : IntKind.i64.wrap (n % 10) = n % 10 := IntWalk.i64_in _ (by omega)
      have q4 : IntKind.i64.wrap (n % 10 + 1) = n % 10 + 1 := IntWalk.i64_in _ (by omega)
      have b1 : 0 ≤ n % 10 := by omega
      have b2 : n % 10 ≤ n % 10 + 1 := by omega
      have b3 : n % 10 + 1 ≤ 10 := by omega
      have b4 : 0 ≤ n % 10 + 1 := by omega
      have L1 : n / 10 < (k : Int) := by omega
      have L2 : 0 ≤ n / 10 := by omega
      have L3 : n / 10 ≤ 4611686018427387904 := by omega
      go_quiet ((go_at_call 49; exact Calls.quiet_of (ih (n / 10) _ L1 L2 L3)))
      go_wp2_with fail
      go_ret
      exact ⟨rfl, _, rfl⟩

theorem add_minus (n : Int) (h : n < 0) (hb : -4611686018427387904 ≤ n) (W : World) :
    (Op.stringOp .add ⟨#[45]⟩ ⟨(Lib.decDigits (-n).toNat).toArray⟩).run Tryd.prog W = .ok (.string ⟨(Lib.itoa n).toArray⟩) W := by
  have hl : Lib.nDigits (-n).toNat ≤ 20 := Lib.nDigits_le20 _ (by omega)
  have e1 : (ByteArray.mk (Lib.decDigits (-n).toNat).toArray).size = Lib.nDigits (-n).toNat := by
    rw [← Lib.decDigits_length]; rfl
  have e2 : (-n).toNat = n.natAbs := by omega
  rw [run_string_add_sum]
  · unfold Lib.itoa
    rw [if_pos h, e2]
    congr 2
  · rw [e1]
    show 1 + _ ≤ _
    omega

/-- spec.l1Num, for every number that is not too far out -/
theorem l1Num_any (n : Int) (w : World) (h1 : -4611686018427387904 ≤ n) (h2 : n ≤ 4611686018427387904) :
    Calls Tryd.prog 49 #[.int .i64 n] w fun e w' => e = .returned (.string ⟨(Lib.itoa n).toArray⟩) ∧ ∃ m, w' = w.drewN m := by
  by_cases h : n < 0
  · have hadd := add_minus n h h1
    have L1 : -n < ((-n).toNat + 1 : Nat) := by omega
    go_enter Tryd.func49, Tryd.ntmps49
    go_wp2_with (go_at_call 49; refine (l1Num_pos ((-n).toNat + 1) (-n) _ L1 (by omega) (by omega)).mono ?_; rintro e w' ⟨rfl, m, rfl⟩)
    go_ret
    exact ⟨rfl, _, rfl⟩
  · refine (l1Num_pos (n.toNat + 1) n w (by omega) (by omega) h2).mono ?_
    rintro e w' ⟨rfl, m, rfl⟩
    refine ⟨?_, m, rfl⟩
    unfold Lib.itoa
    rw [if_neg h]

end Go.Proofs.YtdgbigkcophjoaaDoor.Num

/- spec.l1Num as a plain function, for numbers that are not too far out; the contract of the program's. No condition. -/
namespace Go.Proofs.YtdgbigkcophjoaaDoor.GsL1Num
set_option linter.unusedVariables false
open Go.RowKit
open Go.Proofs.YtdgbigkcophjoaaDoor.Turn
def P (n : Int) : Option ByteArray := if -4611686018427387904 ≤ n ∧ n ≤ 4611686018427387904 then some ⟨(Lib.itoa n).toArray⟩ else none
theorem C (n : Int) (w : World) {r : ByteArray} (H : Hid (P n = some r)) : Calls Tryd.prog 49 #[.int .i64 n] w (Gives (.string r) w) := by
  have h : P n = some r := H
  unfold P at h
  by_cases hk : -4611686018427387904 ≤ n ∧ n ≤ 4611686018427387904
  · rw [if_pos hk] at h
    obtain rfl := Option.some.inj h
    refine (Go.Proofs.YtdgbigkcophjoaaDoor.Num.l1Num_any n w hk.1 hk.2).mono ?_
    rintro e w' ⟨rfl, m, rfl⟩
    exact ⟨rfl, Go.below_drewN (Below.refl _ _) m⟩
  · rw [if_neg hk] at h; simp at h
end Go.Proofs.YtdgbigkcophjoaaDoor.GsL1Num

/- loop.example/g01062/spec.l5Text as a plain function, and the contract of the program's: where the plain one has an answer, the program has it. Conditions: slices read as lists. -/
namespace Go.Proofs.YtdgbigkcophjoaaDoor.GsL5Text
set_option linter.unusedVariables false
set_option linter.unusedSimpArgs false
open Go.RowKit
open Go.Proofs.YtdgbigkcophjoaaDoor.Rowed Go.Proofs.YtdgbigkcophjoaaDoor.Turn Go.Proofs.YtdgbigkcophjoaaDoor.Aid Go.Proofs.YtdgbigkcophjoaaDoor.GoP Go.Proofs.YtdgbigkcophjoaaDoor.GoM

def j1  (s : ByteArray) : Option (ByteArray) :=
  some s

def j0 (gauge : Int) (s : ByteArray) : Option (ByteArray) :=
  letK (Int.tmod gauge 10) fun (t_17 : Int) =>
  letK (decide (0 < t_17)) fun (t_18 : Bool) =>
  iteK t_18
  (letK (Int.tmod gauge 10) fun (t_21 : Int) =>
  Option.bind (Go.Proofs.YtdgbigkcophjoaaDoor.GsL1Num.P t_21) fun (t_22 : ByteArray) =>
  guardK (s.size + t_22.size ≤ maxLen) <|
  letK (s ++ t_22) fun (t_23 : ByteArray) =>
  j1  (t_23))
  (j1  (s))

def P (gauge : Int) : Option (ByteArray) :=
  letK (IntKind.i64.wrap (Int.tdiv gauge 100)) fun (t_2 : Int) =>
  Option.bind (Go.Proofs.YtdgbigkcophjoaaDoor.GsL1Num.P t_2) fun (t_3 : ByteArray) =>
  letK (Int.tmod gauge 100) fun (t_6 : Int) =>
  letK (decide (0 < t_6)) fun (t_7 : Bool) =>
  iteK t_7
  (guardK (t_3.size + (⟨#[46]⟩ : ByteArray).size ≤ maxLen) <|
  letK (t_3 ++ (⟨#[46]⟩ : ByteArray)) fun (t_9 : ByteArray) =>
  letK (IntKind.i64.wrap (Int.tdiv gauge 10)) fun (t_11 : Int) =>
  letK (Int.tmod t_11 10) fun (t_12 : Int) =>
  Option.bind (Go.Proofs.YtdgbigkcophjoaaDoor.GsL1Num.P t_12) fun (t_13 : ByteArray) =>
  guardK (t_9.size + t_13.size ≤ maxLen) <|
  letK (t_9 ++ t_13) fun (t_14 : ByteArray) =>
  j0 gauge (t_14))
  (j0 gauge (t_3))

set_option maxRecDepth 100000 in
set_option maxHeartbeats 2000000 in
theorem C (gauge : Int)   (w : World)   {r : ByteArray} (H : Hid (P gauge = some r)) :
    Calls Tryd.prog 44 #[.int .i64 gauge] w (Gives (.string r) w) := by
  have HB := Lib.hid (Below.refl w.heap.size w)
  unfold P at H
  go_enter Tryd.func44, Tryd.ntmps44
  replace H := let_hid H
  obtain ⟨t_2, ht_2, H⟩ := H
  replace H := bind_hid H
  obtain ⟨t_3, qt_3, H⟩ := H
  go_wp2_with fail
  go_at_call 49
  refine (Go.Proofs.YtdgbigkcophjoaaDoor.GsL1Num.C (t_2)  _    qt_3).mono ?_
  rintro e_t_3 wt_3 ⟨rfl, bt_3⟩
  have HBwt_3 := Lib.hid (Below.step HB.out bt_3)
  clear bt_3
  replace H := let_hid H
  obtain ⟨t_6, ht_6, H⟩ := H
  replace H := let_hid H
  obtain ⟨t_7, ht_7, H⟩ := H
  cases t_7 with
  | false =>
    replace H := ite_f H
    unfold j0 at H
    replace H := let_hid H
    obtain ⟨t_17, ht_17, H⟩ := H
    replace H := let_hid H
    obtain ⟨t_18, ht_18, H⟩ := H
    cases t_18 with
    | false =>
      replace H := ite_f H
      unfold j1 at H
      obtain rfl := ret_hid H
      go_wp2_with fail
      go_ret
      exact ⟨rfl, HBwt_3.out⟩
    | true =>
      replace H := ite_t H
      replace H := let_hid H
      obtain ⟨t_21, ht_21, H⟩ := H
      obtain rfl := ht_17.symm.trans ht_21
      replace H := bind_hid H
      obtain ⟨t_22, qt_22, H⟩ := H
      go_wp2_with fail
      go_at_call 49
      refine (Go.Proofs.YtdgbigkcophjoaaDoor.GsL1Num.C (t_17)  _    qt_22).mono ?_
      rintro e_t_22 wt_22 ⟨rfl, bt_22⟩
      have HBwt_22 := Lib.hid (Below.step HBwt_3.out bt_22)
      clear bt_22
      replace H := guard_hid H
      obtain ⟨hl_t_23, H⟩ := H
      replace H := let_hid H
      obtain ⟨t_23, ht_23, H⟩ := H
      have ct_23 := cat_rule (P := Tryd.prog) ht_23 hl_t_23
      clear hl_t_23
      have hht_23 := Lib.hid ht_23
      clear ht_23
      unfold j1 at H
      obtain rfl := ret_hid H
      go_wp2_with fail
      go_ret
      exact ⟨rfl, HBwt_22.out⟩
  | true =>
    replace H := ite_t H
    replace H := guard_hid H
    obtain ⟨hl_t_9, H⟩ := H
    replace H := let_hid H
    obtain ⟨t_9, ht_9, H⟩ := H
    have ct_9 := cat_rule (P := Tryd.prog) ht_9 hl_t_9
    clear hl_t_9
    have hht_9 := Lib.hid ht_9
    clear ht_9
    replace H := let_hid H
    obtain ⟨t_11, ht_11, H⟩ := H
    replace H := let_hid H
    obtain ⟨t_12, ht_12, H⟩ := H
    replace H := bind_hid H
    obtain ⟨t_13, qt_13, H⟩ := H
    go_wp2_with fail
    go_at_call 49
    refine (Go.Proofs.YtdgbigkcophjoaaDoor.GsL1Num.C (t_12)  _    qt_13).mono ?_
    rintro e_t_13 wt_13 ⟨rfl, bt_13⟩
    have HBwt_13 := Lib.hid (Below.step HBwt_3.out bt_13)
    clear bt_13
    replace H := guard_hid H
    obtain ⟨hl_t_14, H⟩ := H
    replace H := let_hid H
    obtain ⟨t_14, ht_14, H⟩ := H
    have ct_14 := cat_rule (P := Tryd.prog) ht_14 hl_t_14
    clear hl_t_14
    have hht_14 := Lib.hid ht_14
    clear ht_14
    unfold j0 at H
    replace H := let_hid H
    obtain ⟨t_17, ht_17, H⟩ := H
    replace H := let_hid H
    obtain ⟨t_18, ht_18, H⟩ := H
    cases t_18 with
    | false =>
      replace H := ite_f H
      unfold j1 at H
      obtain rfl := ret_hid H
      go_wp2_with fail
      go_ret
      exact ⟨rfl, HBwt_13.out⟩
    | true =>
      replace H := ite_t H
      replace H := let_hid H
      obtain ⟨t_21, ht_21, H⟩ := H
      obtain rfl := ht_17.symm.trans ht_21
      replace H := bind_hid H
      obtain ⟨t_22, qt_22, H⟩ := H
      go_wp2_with fail
      go_at_call 49
      refine (Go.Proofs.YtdgbigkcophjoaaDoor.GsL1Num.C (t_17)  _    qt_22).mono ?_
      rintro e_t_22 wt_22 ⟨rfl, bt_22⟩
      have HBwt_22 := Lib.hid (Below.step HBwt_13.out bt_22)
      clear bt_22
      replace H := guard_hid H
      obtain ⟨hl_t_23, H⟩ := H
      replace H := let_hid H
      obtain ⟨t_23, ht_23, H⟩ := H
      have ct_23 := cat_rule (P := Tryd.prog) ht_23 hl_t_23
      clear hl_t_23
      have hht_23 := Lib.hid ht_23
      clear ht_23
      unfold j1 at H
      obtain rfl := ret_hid H
      go_wp2_with fail
      go_ret
      exact ⟨rfl, HBwt_22.out⟩
end Go.Proofs.YtdgbigkcophjoaaDoor.GsL5Text

/- loop.example/g01062/spec.GaugeText as a plain function, and the contract of the program's: where the plain one has an answer, the program has it. Conditions: slices read as lists. -/
namespace Go.Proofs.YtdgbigkcophjoaaDoor.GsGaugeText
set_option linter.unusedVariables false
set_option linter.unusedSimpArgs false
open Go.RowKit
open Go.Proofs.YtdgbigkcophjoaaDoor.Rowed Go.Proofs.YtdgbigkcophjoaaDoor.Turn Go.Proofs.YtdgbigkcophjoaaDoor.Aid Go.Proofs.YtdgbigkcophjoaaDoor.GoP Go.Proofs.YtdgbigkcophjoaaDoor.GoM

def P (gauge : Int) : Option (ByteArray × Bool) :=
  Option.bind (Go.Proofs.YtdgbigkcophjoaaDoor.GsL5Gauge.P gauge) fun (t_3 : Bool) =>
  letK (!t_3) fun (t_4 : Bool) =>
  iteK t_4
  (some ((⟨#[]⟩ : ByteArray), false))
  (Option.bind (Go.Proofs.YtdgbigkcophjoaaDoor.GsL5Text.P gauge) fun (t_8 : ByteArray) =>
  some (t_8, true))

set_option maxRecDepth 100000 in
set_option maxHeartbeats 2000000 in
theorem C (gauge : Int)   (w : World)   {r0 : ByteArray} {r1 : Bool} (H : Hid (P gauge = some (r0, r1))) :
    Calls Tryd.prog 17 #[.int .i64 gauge] w (Gives (.tuple #[.string r0, .bool r1]) w) := by
  have HB := Lib.hid (Below.refl w.heap.size w)
  unfold P at H
  go_enter Tryd.func17, Tryd.ntmps17
  replace H := bind_hid H
  obtain ⟨t_3, qt_3, H⟩ := H
  go_wp2_with fail
  go_at_call 43
  refine (Go.Proofs.YtdgbigkcophjoaaDoor.GsL5Gauge.C (gauge)  _    qt_3).mono ?_
  rintro e_t_3 wt_3 ⟨rfl, bt_3⟩
  have HBwt_3 := Lib.hid (Below.step HB.out bt_3)
  clear bt_3
  cases t_3 with
  | false =>
    replace H := let_hid H
    obtain ⟨t_4, ht_4, H⟩ := H
    obtain rfl : t_4 = true := ht_4.symm
    replace H := ite_t H
    cases ret_hid H
    go_wp2_with fail
    go_ret2
    exact ⟨rfl, HBwt_3.out⟩
  | true =>
    replace H := let_hid H
    obtain ⟨t_4, ht_4, H⟩ := H
    obtain rfl : t_4 = false := ht_4.symm
    replace H := ite_f H
    replace H := bind_hid H
    obtain ⟨t_8, qt_8, H⟩ := H
    go_wp2_with fail
    go_at_call 44
    refine (Go.Proofs.YtdgbigkcophjoaaDoor.GsL5Text.C (gauge)  _    qt_8).mono ?_
    rintro e_t_8 wt_8 ⟨rfl, bt_8⟩
    have HBwt_8 := Lib.hid (Below.step HBwt_3.out bt_8)
    clear bt_8
    cases ret_hid H
    go_wp2_with fail
    go_ret2
    exact ⟨rfl, HBwt_8.out⟩
end Go.Proofs.YtdgbigkcophjoaaDoor.GsGaugeText

/- loop.example/g01062/spec.DrawCombText as a plain function, and the contract of the program's: where the plain one has an answer, the program has it. Conditions: slices read as lists. -/
namespace Go.Proofs.YtdgbigkcophjoaaDoor.GsDrawCombText
set_option linter.unusedVariables false
set_option linter.unusedSimpArgs false
open Go.RowKit
open Go.Proofs.YtdgbigkcophjoaaDoor.Rowed Go.Proofs.YtdgbigkcophjoaaDoor.Turn Go.Proofs.YtdgbigkcophjoaaDoor.Aid Go.Proofs.YtdgbigkcophjoaaDoor.GoP Go.Proofs.YtdgbigkcophjoaaDoor.GoM

def P (tapes : List Int → Go.Proofs.YtdgbigkcophjoaaDoor.GoC.Tape) (code : (List Int)) : Option (Go.Proofs.YtdgbigkcophjoaaDoor.PComb.Comb) :=
  letK (tapes code) fun (t_3 : Go.Proofs.YtdgbigkcophjoaaDoor.GoC.Tape) =>
  letK ([1, 42, 99]) fun (t_7 : (List Int)) =>
  bind2 (Go.Proofs.YtdgbigkcophjoaaDoor.GsL1CurAmong.P t_3 t_7) fun (t_8 : Int) (t_8_tp : Go.Proofs.YtdgbigkcophjoaaDoor.GoC.Tape) =>
  bind2 (Go.Proofs.YtdgbigkcophjoaaDoor.GsL1CurComb5.P t_8_tp t_8) fun (t_9 : Go.Proofs.YtdgbigkcophjoaaDoor.PComb.Comb) (t_9_tp : Go.Proofs.YtdgbigkcophjoaaDoor.GoC.Tape) =>
  unComb t_9 fun (t_9_id : Int) (t_9_wide : Int) (t_9_high : Int) (t_9_line : Bool) =>
  some (Go.Proofs.YtdgbigkcophjoaaDoor.PComb.Comb.mk t_9_id t_9_wide t_9_high t_9_line)

set_option maxRecDepth 100000 in
set_option maxHeartbeats 2000000 in
theorem C (tapes : List Int → Go.Proofs.YtdgbigkcophjoaaDoor.GoC.Tape) (code : (List Int)) (A0 : Option Addr) (c0 : Nat)  (w : World) (HE : Hid (Go.Proofs.YtdgbigkcophjoaaDoor.GoC.Tells tapes)) (M0 : Hid (Cells w 1 A0 code.length (Go.Proofs.YtdgbigkcophjoaaDoor.GoC.u8s code))) (N0 : Hid (code.length ≤ 9223372036854775807)) (V0 : Hid (∀ z ∈ code, 0 ≤ z ∧ z ≤ 255))  {r : Go.Proofs.YtdgbigkcophjoaaDoor.PComb.Comb} (H : Hid (P tapes code = some r)) :
    Calls Tryd.prog 18 #[.slice A0 code.length c0] w (Gives ((Go.Proofs.YtdgbigkcophjoaaDoor.PComb.Comb.val r)) w) := by
  have HB := Lib.hid (Below.refl w.heap.size w)
  unfold P at H
  have N0o := N0.out
  go_enter Tryd.func18, Tryd.ntmps18
  obtain ⟨w_t_0, hw_t_0⟩ : ∃ x, w.alloc (.cells #[.int .i64 0, .int .i64 0, .int .i64 0, .bool false] 32) = x := ⟨_, rfl⟩
  have bw_t_0 : Below w.heap.size w w_t_0 := by rw [← hw_t_0]; exact (Below.refl _ _).alloc (Nat.le_refl _) _
  have HBw_t_0 := Lib.hid (Below.step HB.out bw_t_0)
  clear bw_t_0
  have kt_0_0 : w_t_0.cell? ⟨w.heap.size, 0, none⟩ = some (.int .i64 0) := by rw [← hw_t_0]; exact box_new _ _ _ 0 _ rfl
  have kt_0_1 : w_t_0.cell? ⟨w.heap.size, 1, none⟩ = some (.int .i64 0) := by rw [← hw_t_0]; exact box_new _ _ _ 1 _ rfl
  have kt_0_2 : w_t_0.cell? ⟨w.heap.size, 2, none⟩ = some (.int .i64 0) := by rw [← hw_t_0]; exact box_new _ _ _ 2 _ rfl
  have kt_0_3 : w_t_0.cell? ⟨w.heap.size, 3, none⟩ = some (.bool false) := by rw [← hw_t_0]; exact box_new _ _ _ 3 _ rfl
  have Ot_0 : Hid (w_t_0.ownsRow w.heap.size 32 4 (.slice (some ⟨w.heap.size, 0, none⟩) 1 1) 1 [.int .i64 0, .int .i64 0, .int .i64 0, .bool false]) := Lib.hid (by rw [← hw_t_0]; exact own_laid (n := 1) HB.out.size rfl rfl (by unfold maxLen; omega))
  replace H := let_hid H
  obtain ⟨t_3, ht_3, H⟩ := H
  obtain ⟨w_t_3, hw_t_3⟩ : ∃ x, w_t_0.alloc (.cells #[.slice A0 code.length c0, .int .i64 0, .int .u64 0] 47) = x := ⟨_, rfl⟩
  have bw_t_3 : Below w_t_0.heap.size w_t_0 w_t_3 := by rw [← hw_t_3]; exact (Below.refl _ _).alloc (Nat.le_refl _) _
  have Kt_3 : Hid (Go.Proofs.YtdgbigkcophjoaaDoor.GoC.CurIs w_t_3 w.heap.size w_t_0.heap.size A0 c0 t_3) := Lib.hid (by rw [← hw_t_3, ← ht_3]; exact Go.Proofs.YtdgbigkcophjoaaDoor.GoC.cur_new HBw_t_0.out.size (Cells.below M0.out HBw_t_0.out) (fun a_ ha_ h0_ => by subst ha_; exact Go.Proofs.YtdgbigkcophjoaaDoor.GoC.cells_lt M0.out (by unfold Go.Proofs.YtdgbigkcophjoaaDoor.GoC.u8s; rw [List.length_map]; exact h0_)) (HE.out.2.2 code V0.out N0.out))
  have hht_3 := Lib.hid ht_3
  clear ht_3
  have Dt_3_t_0 := Lib.hid (apart_box kt_0_0)
  have HBw_t_3 := Lib.hid (Below.step HBw_t_0.out bw_t_3)
  have kt_0_0__297 := cell_below bw_t_3 kt_0_0
  have kt_0_1__298 := cell_below bw_t_3 kt_0_1
  have kt_0_2__299 := cell_below bw_t_3 kt_0_2
  have kt_0_3__300 := cell_below bw_t_3 kt_0_3
  replace Ot_0 := Lib.hid (own_below Ot_0.out bw_t_3)
  clear bw_t_3
  replace H := let_hid H
  obtain ⟨t_7, ht_7, H⟩ := H
  obtain ⟨w_t_7, hw_t_7⟩ : ∃ x, w_t_3.alloc (.cells #[.int .i64 1, .int .i64 42, .int .i64 99] 3) = x := ⟨_, rfl⟩
  have bw_t_7 : Below w_t_3.heap.size w_t_3 w_t_7 := by rw [← hw_t_7]; exact (Below.refl _ _).alloc (Nat.le_refl _) _
  have hs_t_7 := HBw_t_3.out.size
  have nt_7 : t_7.length = 3 := by rw [← ht_7]; rfl
  have Ot_7 : Hid (w_t_7.ownsRow w.heap.size 3 1 (.slice (some ⟨w_t_3.heap.size, 0, none⟩) 3 3) 3 (Go.Proofs.YtdgbigkcophjoaaDoor.HelpInt.iv t_7)) := by
    rw [← hw_t_7, ← ht_7]
    have e_ : ([.int .i64 1, .int .i64 42, .int .i64 99] : List Value) = (Go.Proofs.YtdgbigkcophjoaaDoor.HelpInt.iv ([1, 42, 99] : List Int)) := rfl
    exact Lib.hid (own_laid (n := 3) hs_t_7 e_ rfl (by unfold maxLen; omega))
  clear hs_t_7
  have hht_7 := Lib.hid ht_7
  clear ht_7
  replace nt_7 := Lib.hid nt_7
  have Dt_7_t_3 := Lib.hid (Go.Proofs.YtdgbigkcophjoaaDoor.GoC.apart_cur Kt_3.out)
  have Dt_7_t_0 := Lib.hid (apart_box kt_0_0__297)
  have HBw_t_7 := Lib.hid (Below.step HBw_t_3.out bw_t_7)
  have kt_0_0__301 := cell_below bw_t_7 kt_0_0__297
  have kt_0_1__302 := cell_below bw_t_7 kt_0_1__298
  have kt_0_2__303 := cell_below bw_t_7 kt_0_2__299
  have kt_0_3__304 := cell_below bw_t_7 kt_0_3__300
  replace Kt_3 := Lib.hid (Go.Proofs.YtdgbigkcophjoaaDoor.GoC.cur_below Kt_3.out bw_t_7)
  replace Ot_0 := Lib.hid (own_below Ot_0.out bw_t_7)
  clear bw_t_7
  replace H := bind2_hid H
  obtain ⟨t_8, t_8_tp, qt_8, H⟩ := H
  go_wp2_with fail
  clear kt_0_0 kt_0_1 kt_0_2 kt_0_3 kt_0_0__297 kt_0_1__298 kt_0_2__299 kt_0_3__300
  have hc_ := nt_7.out
  have hv_ : (Value.slice (some ⟨w_t_3.heap.size, 0, none⟩) 3 3 : Value) = Value.slice (some ⟨w_t_3.heap.size, 0, none⟩) t_7.length 3 := by rw [hc_]
  try rw [hv_]
  replace Ot_7 := Lib.hid (own_len hc_ Ot_7.out)
  clear hc_ hv_
  go_wp2_with fail
  go_at_call 24
  refine (Go.Proofs.YtdgbigkcophjoaaDoor.GsL1CurAmong.C (t_3) (t_7) (some ⟨w_t_3.heap.size, 0, none⟩) 3 (w_t_0.heap.size) (A0) (c0) (w.heap.size) _   (Lib.hid (own_cells Ot_7.out)) (Lib.hid (own_max Ot_7.out)) Kt_3 (Lib.hid (fun _ => Dt_7_t_3.out)) qt_8).mono ?_
  rintro e_t_8 wt_8 ⟨rfl, kt_8, gt_8⟩
  have Kt_8 := Lib.hid kt_8
  have Gt_8 : Hid (w_t_7.grownBy wt_8 (Value.slice (some ⟨w_t_0.heap.size, 0, none⟩) 1 1).ownBlock) := Lib.hid gt_8
  clear kt_8 gt_8
  have HBwt_8 := Lib.hid (Go.Proofs.YtdgbigkcophjoaaDoor.GoC.below_cur HBw_t_7.out Gt_8.out HBw_t_7.out.size (Go.Proofs.YtdgbigkcophjoaaDoor.GoC.cur_lt Kt_3.out).1)
  replace kt_0_0__301 := cell_other kt_0_0__301 Gt_8.out Dt_3_t_0.out
  replace kt_0_1__302 := cell_other kt_0_1__302 Gt_8.out Dt_3_t_0.out
  replace kt_0_2__303 := cell_other kt_0_2__303 Gt_8.out Dt_3_t_0.out
  replace kt_0_3__304 := cell_other kt_0_3__304 Gt_8.out Dt_3_t_0.out
  replace Ot_0 := Lib.hid (own_other Ot_0.out Gt_8.out Dt_3_t_0.out)
  replace Ot_7 := Lib.hid (own_other Ot_7.out Gt_8.out (Apart.symm Dt_7_t_3.out))
  clear Kt_3 Gt_8
  replace H := bind2_hid H
  obtain ⟨t_9, t_9_tp, qt_9, H⟩ := H
  obtain ⟨t_9_id, t_9_wide, t_9_high, t_9_line⟩ := t_9
  replace H := unComb_hid H
  go_wp2_with fail
  go_at_call 45
  refine (Go.Proofs.YtdgbigkcophjoaaDoor.GsL1CurComb5.C (t_8_tp) (t_8) (w_t_0.heap.size) (A0) (c0) (w.heap.size) _   Kt_8 qt_9).mono ?_
  rintro e_t_9 wt_9 ⟨rfl, kt_9, gt_9⟩
  unfold Go.Proofs.YtdgbigkcophjoaaDoor.PComb.Comb.val
  have Kt_9 := Lib.hid kt_9
  have Gt_9 : Hid (wt_8.grownBy wt_9 (Value.slice (some ⟨w_t_0.heap.size, 0, none⟩) 1 1).ownBlock) := Lib.hid gt_9
  clear kt_9 gt_9
  have HBwt_9 := Lib.hid (Go.Proofs.YtdgbigkcophjoaaDoor.GoC.below_cur HBwt_8.out Gt_9.out HBwt_8.out.size (Go.Proofs.YtdgbigkcophjoaaDoor.GoC.cur_lt Kt_8.out).1)
  replace kt_0_0__301 := cell_other kt_0_0__301 Gt_9.out Dt_3_t_0.out
  replace kt_0_1__302 := cell_other kt_0_1__302 Gt_9.out Dt_3_t_0.out
  replace kt_0_2__303 := cell_other kt_0_2__303 Gt_9.out Dt_3_t_0.out
  replace kt_0_3__304 := cell_other kt_0_3__304 Gt_9.out Dt_3_t_0.out
  replace Ot_0 := Lib.hid (own_other Ot_0.out Gt_9.out Dt_3_t_0.out)
  replace Ot_7 := Lib.hid (own_other Ot_7.out Gt_9.out (Apart.symm Dt_7_t_3.out))
  clear Kt_8 Gt_9
  obtain ⟨wb10_10, hwb10_10⟩ : ∃ x, ((((wt_9).setCell ⟨w.heap.size, 0, none⟩ (.int .i64 t_9_id)).setCell ⟨w.heap.size, 1, none⟩ (.int .i64 t_9_wide)).setCell ⟨w.heap.size, 2, none⟩ (.int .i64 t_9_high)).setCell ⟨w.heap.size, 3, none⟩ (.bool t_9_line) = x := ⟨_, rfl⟩
  have z0b10_10 := Ot_0.out.frozenAt 0
  have z1b10_10 := Ot_0.out.frozenAt 1
  have z2b10_10 := Ot_0.out.frozenAt 2
  have z3b10_10 := Ot_0.out.frozenAt 3
  have Sb10_10 := Lib.hid (own_stores [(0, .int .i64 t_9_id), (1, .int .i64 t_9_wide), (2, .int .i64 t_9_high), (3, .bool t_9_line)] Ot_0.out)
  have Pb10_10 : Hid (wb10_10.ownsRow w.heap.size 32 4 (.slice (some ⟨w.heap.size, 0, none⟩) 1 1) 1 [.int .i64 t_9_id, .int .i64 t_9_wide, .int .i64 t_9_high, .bool t_9_line]) := Lib.hid (by rw [← hwb10_10]; exact Sb10_10.out.1)
  have Gb10_10 : Hid (wt_9.grownBy wb10_10 (Value.slice (some ⟨w.heap.size, 0, none⟩) 1 1).ownBlock) := Lib.hid (by rw [← hwb10_10]; exact Sb10_10.out.2)
  have HBwb10_10 := Lib.hid (HBwt_9.out.grown Gb10_10.out HBwt_9.out.size (fun q hq => (Ot_0.out.lt q hq).1))
  clear Sb10_10
  replace Ot_7 := Lib.hid (own_other Ot_7.out Gb10_10.out (Apart.symm Dt_7_t_0.out))
  replace Kt_9 := Lib.hid (Go.Proofs.YtdgbigkcophjoaaDoor.GoC.cur_other Kt_9.out Gb10_10.out (Apart.symm Dt_3_t_0.out) (Go.Proofs.YtdgbigkcophjoaaDoor.GoC.own_ge Ot_0.out))
  clear Ot_0 Gb10_10
  have kt_0_0__305 : wb10_10.cell? ⟨w.heap.size, 0, none⟩ = some (.int .i64 t_9_id) := Pb10_10.out.cells rfl 0 _ rfl
  have kt_0_1__306 : wb10_10.cell? ⟨w.heap.size, 1, none⟩ = some (.int .i64 t_9_wide) := Pb10_10.out.cells rfl 1 _ rfl
  have kt_0_2__307 : wb10_10.cell? ⟨w.heap.size, 2, none⟩ = some (.int .i64 t_9_high) := Pb10_10.out.cells rfl 2 _ rfl
  have kt_0_3__308 : wb10_10.cell? ⟨w.heap.size, 3, none⟩ = some (.bool t_9_line) := Pb10_10.out.cells rfl 3 _ rfl
  cases ret_hid H
  go_wp2_with fail
  (try simp only [Exit.inBlock, Exit.then])
  refine bodyPost_ret (v := .agg #[.int .i64 t_9_id, .int .i64 t_9_wide, .int .i64 t_9_high, .bool t_9_line]) ?hr_ ?hd_ ?_
  case hd_ => rfl
  case hr_ => simp [results, Tryd.results18, kt_0_0__305, kt_0_1__306, kt_0_2__307, kt_0_3__308, go_sem]
  exact ⟨rfl, HBwb10_10.out⟩
end Go.Proofs.YtdgbigkcophjoaaDoor.GsDrawCombText

/- loop.example/g01062/impl.CombText as a plain function, and the contract of the program's: where the plain one has an answer, the program has it. Conditions: slices read as lists. -/
namespace Go.Proofs.YtdgbigkcophjoaaDoor.GiCombText
set_option linter.unusedVariables false
set_option linter.unusedSimpArgs false
open Go.RowKit
open Go.Proofs.YtdgbigkcophjoaaDoor.Rowed Go.Proofs.YtdgbigkcophjoaaDoor.Turn Go.Proofs.YtdgbigkcophjoaaDoor.Aid Go.Proofs.YtdgbigkcophjoaaDoor.GoP Go.Proofs.YtdgbigkcophjoaaDoor.GoM Go.Proofs.YtdgbigkcophjoaaDoor.Tab

def j1  (s : ByteArray) : Option (ByteArray × Bool) :=
  some (s, true)

def j0 (x_line : Bool) (s : ByteArray) : Option (ByteArray × Bool) :=
  iteK x_line
  (guardK (s.size + (⟨#[32, 108, 105, 110, 101]⟩ : ByteArray).size ≤ maxLen) <|
  letK (s ++ (⟨#[32, 108, 105, 110, 101]⟩ : ByteArray)) fun (t_45 : ByteArray) =>
  j1  (t_45))
  (j1  (s))

def P (x : Go.Proofs.YtdgbigkcophjoaaDoor.PComb.Comb) : Option (ByteArray × Bool) :=
  unComb x fun (x_id : Int) (x_wide : Int) (x_high : Int) (x_line : Bool) =>
  Option.bind (Go.Proofs.YtdgbigkcophjoaaDoor.GiIsComb.P (Go.Proofs.YtdgbigkcophjoaaDoor.PComb.Comb.mk x_id x_wide x_high x_line)) fun (t_4 : Bool) =>
  letK (!t_4) fun (t_5 : Bool) =>
  iteK t_5
  (some ((⟨#[]⟩ : ByteArray), false))
  (bind2 (Go.Proofs.YtdgbigkcophjoaaDoor.GiGaugeText.P x_wide) fun (t_10a : ByteArray) (t_10b : Bool) =>
  bind2 (Go.Proofs.YtdgbigkcophjoaaDoor.GiGaugeText.P x_high) fun (t_18a : ByteArray) (t_18b : Bool) =>
  Option.bind (Go.Proofs.YtdgbigkcophjoaaDoor.GxStrconvItoa.P x_id) fun (t_26 : ByteArray) =>
  guardK ((⟨#[99]⟩ : ByteArray).size + t_26.size ≤ maxLen) <|
  letK ((⟨#[99]⟩ : ByteArray) ++ t_26) fun (t_27 : ByteArray) =>
  guardK (t_27.size + (⟨#[32]⟩ : ByteArray).size ≤ maxLen) <|
  letK (t_27 ++ (⟨#[32]⟩ : ByteArray)) fun (t_28 : ByteArray) =>
  guardK (t_28.size + t_10a.size ≤ maxLen) <|
  letK (t_28 ++ t_10a) fun (t_30 : ByteArray) =>
  letK (x_high != x_wide) fun (t_36 : Bool) =>
  iteK t_36
  (guardK ((⟨#[32, 120, 32]⟩ : ByteArray).size + t_18a.size ≤ maxLen) <|
  letK ((⟨#[32, 120, 32]⟩ : ByteArray) ++ t_18a) fun (t_39 : ByteArray) =>
  guardK (t_30.size + t_39.size ≤ maxLen) <|
  letK (t_30 ++ t_39) fun (t_40 : ByteArray) =>
  j0 x_line (t_40))
  (j0 x_line (t_30)))

set_option maxRecDepth 100000 in
set_option maxHeartbeats 2000000 in
theorem C (x : Go.Proofs.YtdgbigkcophjoaaDoor.PComb.Comb)   (w : World) (HT : Hid (Tab w))   {r0 : ByteArray} {r1 : Bool} (H : Hid (P x = some (r0, r1))) :
    Calls Tryd.prog 19 #[x.val] w (Gives (.tuple #[.string r0, .bool r1]) w) := by
  have HB := Lib.hid (Below.refl w.heap.size w)
  unfold P at H
  obtain ⟨x_id, x_wide, x_high, x_line⟩ := x
  replace H := unComb_hid H
  unfold Go.Proofs.YtdgbigkcophjoaaDoor.PComb.Comb.val
  go_enter Tryd.func19, Tryd.ntmps19
  obtain ⟨w_x_0, hw_x_0⟩ : ∃ x, w.alloc (.cells #[.int .i64 x_id, .int .i64 x_wide, .int .i64 x_high, .bool x_line] 32) = x := ⟨_, rfl⟩
  have bw_x_0 : Below w.heap.size w w_x_0 := by rw [← hw_x_0]; exact (Below.refl _ _).alloc (Nat.le_refl _) _
  have HBw_x_0 := Lib.hid (Below.step HB.out bw_x_0)
  clear bw_x_0
  have kx_0_0 : w_x_0.cell? ⟨w.heap.size, 0, none⟩ = some (.int .i64 x_id) := by rw [← hw_x_0]; exact box_new _ _ _ 0 _ rfl
  have kx_0_1 : w_x_0.cell? ⟨w.heap.size, 1, none⟩ = some (.int .i64 x_wide) := by rw [← hw_x_0]; exact box_new _ _ _ 1 _ rfl
  have kx_0_2 : w_x_0.cell? ⟨w.heap.size, 2, none⟩ = some (.int .i64 x_high) := by rw [← hw_x_0]; exact box_new _ _ _ 2 _ rfl
  have kx_0_3 : w_x_0.cell? ⟨w.heap.size, 3, none⟩ = some (.bool x_line) := by rw [← hw_x_0]; exact box_new _ _ _ 3 _ rfl
  replace H := bind_hid H
  obtain ⟨t_4, qt_4, H⟩ := H
  go_wp2_with fail
  go_at_call 46
  refine (Go.Proofs.YtdgbigkcophjoaaDoor.GiIsComb.C ((Go.Proofs.YtdgbigkcophjoaaDoor.PComb.Comb.mk x_id x_wide x_high x_line))  _    qt_4).mono ?_
  rintro e_t_4 wt_4 ⟨rfl, bt_4⟩
  have HBwt_4 := Lib.hid (Below.step HBw_x_0.out bt_4)
  replace kx_0_0 := cell_below bt_4 kx_0_0
  replace kx_0_1 := cell_below bt_4 kx_0_1
  replace kx_0_2 := cell_below bt_4 kx_0_2
  replace kx_0_3 := cell_below bt_4 kx_0_3
  clear bt_4
  cases t_4 with
  | false =>
    replace H := let_hid H
    obtain ⟨t_5, ht_5, H⟩ := H
    obtain rfl : t_5 = true := ht_5.symm
    replace H := ite_t H
    cases ret_hid H
    go_wp2_with fail
    go_ret2
    exact ⟨rfl, HBwt_4.out⟩
  | true =>
    replace H := let_hid H
    obtain ⟨t_5, ht_5, H⟩ := H
    obtain rfl : t_5 = false := ht_5.symm
    replace H := ite_f H
    replace H := bind2_hid H
    obtain ⟨t_10a, t_10b, qt_10, H⟩ := H
    go_wp2_with fail
    go_at_call 16
    refine (Go.Proofs.YtdgbigkcophjoaaDoor.GiGaugeText.C (x_wide)  _ (tab_below HBwt_4.out HT)   qt_10).mono ?_
    rintro e_t_10 wt_10 ⟨rfl, bt_10⟩
    have HBwt_10 := Lib.hid (Below.step HBwt_4.out bt_10)
    replace kx_0_0 := cell_below bt_10 kx_0_0
    replace kx_0_1 := cell_below bt_10 kx_0_1
    replace kx_0_2 := cell_below bt_10 kx_0_2
    replace kx_0_3 := cell_below bt_10 kx_0_3
    clear bt_10
    replace H := bind2_hid H
    obtain ⟨t_18a, t_18b, qt_18, H⟩ := H
    go_wp2_with fail
    go_at_call 16
    refine (Go.Proofs.YtdgbigkcophjoaaDoor.GiGaugeText.C (x_high)  _ (tab_below HBwt_10.out HT)   qt_18).mono ?_
    rintro e_t_18 wt_18 ⟨rfl, bt_18⟩
    have HBwt_18 := Lib.hid (Below.step HBwt_10.out bt_18)
    replace kx_0_0 := cell_below bt_18 kx_0_0
    replace kx_0_1 := cell_below bt_18 kx_0_1
    replace kx_0_2 := cell_below bt_18 kx_0_2
    replace kx_0_3 := cell_below bt_18 kx_0_3
    clear bt_18
    replace H := bind_hid H
    obtain ⟨t_26, qt_26, H⟩ := H
    go_wp2_with fail
    go_at_call 47
    refine (Go.Proofs.YtdgbigkcophjoaaDoor.GxStrconvItoa.C (x_id)  _ (tab_below HBwt_18.out HT)   qt_26).mono ?_
    rintro e_t_26 wt_26 ⟨rfl, bt_26⟩
    have HBwt_26 := Lib.hid (Below.step HBwt_18.out bt_26)
    replace kx_0_0 := cell_below bt_26 kx_0_0
    replace kx_0_1 := cell_below bt_26 kx_0_1
    replace kx_0_2 := cell_below bt_26 kx_0_2
    replace kx_0_3 := cell_below bt_26 kx_0_3
    clear bt_26
    replace H := guard_hid H
    obtain ⟨hl_t_27, H⟩ := H
    replace H := let_hid H
    obtain ⟨t_27, ht_27, H⟩ := H
    have ct_27 := cat_rule (P := Tryd.prog) ht_27 hl_t_27
    clear hl_t_27
    have hht_27 := Lib.hid ht_27
    clear ht_27
    replace H := guard_hid H
    obtain ⟨hl_t_28, H⟩ := H
    replace H := let_hid H
    obtain ⟨t_28, ht_28, H⟩ := H
    have ct_28 := cat_rule (P := Tryd.prog) ht_28 hl_t_28
    clear hl_t_28
    have hht_28 := Lib.hid ht_28
    clear ht_28
    replace H := guard_hid H
    obtain ⟨hl_t_30, H⟩ := H
    replace H := let_hid H
    obtain ⟨t_30, ht_30, H⟩ := H
    have ct_30 := cat_rule (P := Tryd.prog) ht_30 hl_t_30
    clear hl_t_30
    have hht_30 := Lib.hid ht_30
    clear ht_30
    replace H := let_hid H
    obtain ⟨t_36, ht_36, H⟩ := H
    cases t_36 with
    | false =>
      replace H := ite_f H
      unfold j0 at H
      cases x_line with
      | false =>
        replace H := ite_f H
        unfold j1 at H
        cases ret_hid H
        go_wp2_with fail
        go_ret2
        exact ⟨rfl, HBwt_26.out⟩
      | true =>
        replace H := ite_t H
        replace H := guard_hid H
        obtain ⟨hl_t_45, H⟩ := H
        replace H := let_hid H
        obtain ⟨t_45, ht_45, H⟩ := H
        have ct_45 := cat_rule (P := Tryd.prog) ht_45 hl_t_45
        clear hl_t_45
        have hht_45 := Lib.hid ht_45
        clear ht_45
        unfold j1 at H
        cases ret_hid H
        go_wp2_with fail
        go_ret2
        exact ⟨rfl, HBwt_26.out⟩
    | true =>
      replace H := ite_t H
      replace H := guard_hid H
      obtain ⟨hl_t_39, H⟩ := H
      replace H := let_hid H
      obtain ⟨t_39, ht_39, H⟩ := H
      have ct_39 := cat_rule (P := Tryd.prog) ht_39 hl_t_39
      clear hl_t_39
      have hht_39 := Lib.hid ht_39
      clear ht_39
      replace H := guard_hid H
      obtain ⟨hl_t_40, H⟩ := H
      replace H := let_hid H
      obtain ⟨t_40, ht_40, H⟩ := H
      have ct_40 := cat_rule (P := Tryd.prog) ht_40 hl_t_40
      clear hl_t_40
      have hht_40 := Lib.hid ht_40
      clear ht_40
      unfold j0 at H
      cases x_line with
      | false =>
        replace H := ite_f H
        unfold j1 at H
        cases ret_hid H
        go_wp2_with fail
        go_ret2
        exact ⟨rfl, HBwt_26.out⟩
      | true =>
        replace H := ite_t H
        replace H := guard_hid H
        obtain ⟨hl_t_45, H⟩ := H
        replace H := let_hid H
        obtain ⟨t_45, ht_45, H⟩ := H
        have ct_45 := cat_rule (P := Tryd.prog) ht_45 hl_t_45
        clear hl_t_45
        have hht_45 := Lib.hid ht_45
        clear ht_45
        unfold j1 at H
        cases ret_hid H
        go_wp2_with fail
        go_ret2
        exact ⟨rfl, HBwt_26.out⟩
end Go.Proofs.YtdgbigkcophjoaaDoor.GiCombText

/- loop.example/g01062/spec.CombText as a plain function, and the contract of the program's: where the plain one has an answer, the program has it. Conditions: slices read as lists. -/
namespace Go.Proofs.YtdgbigkcophjoaaDoor.GsCombText
set_option linter.unusedVariables false
set_option linter.unusedSimpArgs false
open Go.RowKit
open Go.Proofs.YtdgbigkcophjoaaDoor.Rowed Go.Proofs.YtdgbigkcophjoaaDoor.Turn Go.Proofs.YtdgbigkcophjoaaDoor.Aid Go.Proofs.YtdgbigkcophjoaaDoor.GoP Go.Proofs.YtdgbigkcophjoaaDoor.GoM

def j1  (s : ByteArray) : Option (ByteArray × Bool) :=
  some (s, true)

def j0 (x_line : Bool) (s : ByteArray) : Option (ByteArray × Bool) :=
  iteK x_line
  (guardK (s.size + (⟨#[32, 108, 105, 110, 101]⟩ : ByteArray).size ≤ maxLen) <|
  letK (s ++ (⟨#[32, 108, 105, 110, 101]⟩ : ByteArray)) fun (t_33 : ByteArray) =>
  j1  (t_33))
  (j1  (s))

def P (x : Go.Proofs.YtdgbigkcophjoaaDoor.PComb.Comb) : Option (ByteArray × Bool) :=
  unComb x fun (x_id : Int) (x_wide : Int) (x_high : Int) (x_line : Bool) =>
  Option.bind (Go.Proofs.YtdgbigkcophjoaaDoor.GsL5One.P (Go.Proofs.YtdgbigkcophjoaaDoor.PComb.Comb.mk x_id x_wide x_high x_line)) fun (t_4 : Bool) =>
  letK (!t_4) fun (t_5 : Bool) =>
  iteK t_5
  (some ((⟨#[]⟩ : ByteArray), false))
  (Option.bind (Go.Proofs.YtdgbigkcophjoaaDoor.GsL1Num.P x_id) fun (t_10 : ByteArray) =>
  guardK ((⟨#[99]⟩ : ByteArray).size + t_10.size ≤ maxLen) <|
  letK ((⟨#[99]⟩ : ByteArray) ++ t_10) fun (t_11 : ByteArray) =>
  guardK (t_11.size + (⟨#[32]⟩ : ByteArray).size ≤ maxLen) <|
  letK (t_11 ++ (⟨#[32]⟩ : ByteArray)) fun (t_12 : ByteArray) =>
  Option.bind (Go.Proofs.YtdgbigkcophjoaaDoor.GsL5Text.P x_wide) fun (t_15 : ByteArray) =>
  guardK (t_12.size + t_15.size ≤ maxLen) <|
  letK (t_12 ++ t_15) fun (t_16 : ByteArray) =>
  letK (x_high != x_wide) fun (t_22 : Bool) =>
  iteK t_22
  (guardK (t_16.size + (⟨#[32, 120, 32]⟩ : ByteArray).size ≤ maxLen) <|
  letK (t_16 ++ (⟨#[32, 120, 32]⟩ : ByteArray)) fun (t_24 : ByteArray) =>
  Option.bind (Go.Proofs.YtdgbigkcophjoaaDoor.GsL5Text.P x_high) fun (t_27 : ByteArray) =>
  guardK (t_24.size + t_27.size ≤ maxLen) <|
  letK (t_24 ++ t_27) fun (t_28 : ByteArray) =>
  j0 x_line (t_28))
  (j0 x_line (t_16)))

set_option maxRecDepth 100000 in
set_option maxHeartbeats 2000000 in
theorem C (x : Go.Proofs.YtdgbigkcophjoaaDoor.PComb.Comb)   (w : World)   {r0 : ByteArray} {r1 : Bool} (H : Hid (P x = some (r0, r1))) :
    Calls Tryd.prog 20 #[x.val] w (Gives (.tuple #[.string r0, .bool r1]) w) := by
  have HB := Lib.hid (Below.refl w.heap.size w)
  unfold P at H
  obtain ⟨x_id, x_wide, x_high, x_line⟩ := x
  replace H := unComb_hid H
  unfold Go.Proofs.YtdgbigkcophjoaaDoor.PComb.Comb.val
  go_enter Tryd.func20, Tryd.ntmps20
  obtain ⟨w_x_0, hw_x_0⟩ : ∃ x, w.alloc (.cells #[.int .i64 x_id, .int .i64 x_wide, .int .i64 x_high, .bool x_line] 32) = x := ⟨_, rfl⟩
  have bw_x_0 : Below w.heap.size w w_x_0 := by rw [← hw_x_0]; exact (Below.refl _ _).alloc (Nat.le_refl _) _
  have HBw_x_0 := Lib.hid (Below.step HB.out bw_x_0)
  clear bw_x_0
  have kx_0_0 : w_x_0.cell? ⟨w.heap.size, 0, none⟩ = some (.int .i64 x_id) := by rw [← hw_x_0]; exact box_new _ _ _ 0 _ rfl
  have kx_0_1 : w_x_0.cell? ⟨w.heap.size, 1, none⟩ = some (.int .i64 x_wide) := by rw [← hw_x_0]; exact box_new _ _ _ 1 _ rfl
  have kx_0_2 : w_x_0.cell? ⟨w.heap.size, 2, none⟩ = some (.int .i64 x_high) := by rw [← hw_x_0]; exact box_new _ _ _ 2 _ rfl
  have kx_0_3 : w_x_0.cell? ⟨w.heap.size, 3, none⟩ = some (.bool x_line) := by rw [← hw_x_0]; exact box_new _ _ _ 3 _ rfl
  replace H := bind_hid H
  obtain ⟨t_4, qt_4, H⟩ := H
  go_wp2_with fail
  go_at_call 48
  refine (Go.Proofs.YtdgbigkcophjoaaDoor.GsL5One.C ((Go.Proofs.YtdgbigkcophjoaaDoor.PComb.Comb.mk x_id x_wide x_high x_line))  _    qt_4).mono ?_
  rintro e_t_4 wt_4 ⟨rfl, bt_4⟩
  have HBwt_4 := Lib.hid (Below.step HBw_x_0.out bt_4)
  replace kx_0_0 := cell_below bt_4 kx_0_0
  replace kx_0_1 := cell_below bt_4 kx_0_1
  replace kx_0_2 := cell_below bt_4 kx_0_2
  replace kx_0_3 := cell_below bt_4 kx_0_3
  clear bt_4
  cases t_4 with
  | false =>
    replace H := let_hid H
    obtain ⟨t_5, ht_5, H⟩ := H
    obtain rfl : t_5 = true := ht_5.symm
    replace H := ite_t H
    cases ret_hid H
    go_wp2_with fail
    go_ret2
    exact ⟨rfl, HBwt_4.out⟩
  | true =>
    replace H := let_hid H
    obtain ⟨t_5, ht_5, H⟩ := H
    obtain rfl : t_5 = false := ht_5.symm
    replace H := ite_f H
    go_wp2_with fail
    have Hkx_0_0 := Lib.hid kx_0_0
    replace kx_0_0 := cell_regrown kx_0_0
    have Hkx_0_1 := Lib.hid kx_0_1
    replace kx_0_1 := cell_regrown kx_0_1
    have Hkx_0_2 := Lib.hid kx_0_2
    replace kx_0_2 := cell_regrown kx_0_2
    have Hkx_0_3 := Lib.hid kx_0_3
    replace kx_0_3 := cell_regrown kx_0_3
    replace H := bind_hid H
    obtain ⟨t_10, qt_10, H⟩ := H
    have nt_10 : ∀ d os, Calls Tryd.prog 49 #[.int .i64 x_id] (Go.Sort.grow (redrawn wt_4 d) os) fun e w'' => e = .returned (.string t_10) ∧ ∃ p : Regrown, w'' = Go.Sort.grow (redrawn wt_4 p.d) p.os := fun d os => Calls.regrown_of (Go.Proofs.YtdgbigkcophjoaaDoor.GsL1Num.C (x_id)  _    qt_10)
    replace H := guard_hid H
    obtain ⟨hl_t_11, H⟩ := H
    replace H := let_hid H
    obtain ⟨t_11, ht_11, H⟩ := H
    have ct_11 := cat_rule (P := Tryd.prog) ht_11 hl_t_11
    clear hl_t_11
    have hht_11 := Lib.hid ht_11
    clear ht_11
    replace H := guard_hid H
    obtain ⟨hl_t_12, H⟩ := H
    replace H := let_hid H
    obtain ⟨t_12, ht_12, H⟩ := H
    have ct_12 := cat_rule (P := Tryd.prog) ht_12 hl_t_12
    clear hl_t_12
    have hht_12 := Lib.hid ht_12
    clear ht_12
    replace H := bind_hid H
    obtain ⟨t_15, qt_15, H⟩ := H
    have nt_15 : ∀ d os, Calls Tryd.prog 44 #[.int .i64 x_wide] (Go.Sort.grow (redrawn wt_4 d) os) fun e w'' => e = .returned (.string t_15) ∧ ∃ p : Regrown, w'' = Go.Sort.grow (redrawn wt_4 p.d) p.os := fun d os => Calls.regrown_of (Go.Proofs.YtdgbigkcophjoaaDoor.GsL5Text.C (x_wide)  _    qt_15)
    replace H := guard_hid H
    obtain ⟨hl_t_16, H⟩ := H
    replace H := let_hid H
    obtain ⟨t_16, ht_16, H⟩ := H
    have ct_16 := cat_rule (P := Tryd.prog) ht_16 hl_t_16
    clear hl_t_16
    have hht_16 := Lib.hid ht_16
    clear ht_16
    refine wp_region_quiet_below (by kernel_rfl) (by kernel_rfl) ?_
    repeat (go_big_quiet_step (first | (go_at_call 49; exact nt_10 _ _) | (go_at_call 44; exact nt_15 _ _)))
    refine wpQuiet_nil ?_
    intro Y3 hY3
    replace hY3 := below_class hY3
    clear nt_10 nt_15
    replace kx_0_0 := Hkx_0_0.out
    clear Hkx_0_0
    replace kx_0_1 := Hkx_0_1.out
    clear Hkx_0_1
    replace kx_0_2 := Hkx_0_2.out
    clear Hkx_0_2
    replace kx_0_3 := Hkx_0_3.out
    clear Hkx_0_3
    have HBY3 := Lib.hid (Below.step HBwt_4.out hY3)
    replace kx_0_0 := cell_below hY3 kx_0_0
    replace kx_0_1 := cell_below hY3 kx_0_1
    replace kx_0_2 := cell_below hY3 kx_0_2
    replace kx_0_3 := cell_below hY3 kx_0_3
    clear hY3
    replace H := let_hid H
    obtain ⟨t_22, ht_22, H⟩ := H
    cases t_22 with
    | false =>
      replace H := ite_f H
      unfold j0 at H
      cases x_line with
      | false =>
        replace H := ite_f H
        unfold j1 at H
        cases ret_hid H
        go_wp2_with fail
        go_ret2
        exact ⟨rfl, HBY3.out⟩
      | true =>
        replace H := ite_t H
        replace H := guard_hid H
        obtain ⟨hl_t_33, H⟩ := H
        replace H := let_hid H
        obtain ⟨t_33, ht_33, H⟩ := H
        have ct_33 := cat_rule (P := Tryd.prog) ht_33 hl_t_33
        clear hl_t_33
        have hht_33 := Lib.hid ht_33
        clear ht_33
        unfold j1 at H
        cases ret_hid H
        go_wp2_with fail
        go_ret2
        exact ⟨rfl, HBY3.out⟩
    | true =>
      replace H := ite_t H
      replace H := guard_hid H
      obtain ⟨hl_t_24, H⟩ := H
      replace H := let_hid H
      obtain ⟨t_24, ht_24, H⟩ := H
      have ct_24 := cat_rule (P := Tryd.prog) ht_24 hl_t_24
      clear hl_t_24
      have hht_24 := Lib.hid ht_24
      clear ht_24
      replace H := bind_hid H
      obtain ⟨t_27, qt_27, H⟩ := H
      go_wp2_with fail
      go_at_call 44
      refine (Go.Proofs.YtdgbigkcophjoaaDoor.GsL5Text.C (x_high)  _    qt_27).mono ?_
      rintro e_t_27 wt_27 ⟨rfl, bt_27⟩
      have HBwt_27 := Lib.hid (Below.step HBY3.out bt_27)
      replace kx_0_0 := cell_below bt_27 kx_0_0
      replace kx_0_1 := cell_below bt_27 kx_0_1
      replace kx_0_2 := cell_below bt_27 kx_0_2
      replace kx_0_3 := cell_below bt_27 kx_0_3
      clear bt_27
      replace H := guard_hid H
      obtain ⟨hl_t_28, H⟩ := H
      replace H := let_hid H
      obtain ⟨t_28, ht_28, H⟩ := H
      have ct_28 := cat_rule (P := Tryd.prog) ht_28 hl_t_28
      clear hl_t_28
      have hht_28 := Lib.hid ht_28
      clear ht_28
      unfold j0 at H
      cases x_line with
      | false =>
        replace H := ite_f H
        unfold j1 at H
        cases ret_hid H
        go_wp2_with fail
        go_ret2
        exact ⟨rfl, HBwt_27.out⟩
      | true =>
        replace H := ite_t H
        replace H := guard_hid H
        obtain ⟨hl_t_33, H⟩ := H
        replace H := let_hid H
        obtain ⟨t_33, ht_33, H⟩ := H
        have ct_33 := cat_rule (P := Tryd.prog) ht_33 hl_t_33
        clear hl_t_33
        have hht_33 := Lib.hid ht_33
        clear ht_33
        unfold j1 at H
        cases ret_hid H
        go_wp2_with fail
        go_ret2
        exact ⟨rfl, HBwt_27.out⟩
end Go.Proofs.YtdgbigkcophjoaaDoor.GsCombText

/- loop.example/g01062/spec.AreCombs as a plain function, and the contract of the program's: where the plain one has an answer, the program has it. Conditions: slices read as lists. -/
namespace Go.Proofs.YtdgbigkcophjoaaDoor.GsAreCombs
set_option linter.unusedVariables false
set_option linter.unusedSimpArgs false
open Go.RowKit
open Go.Proofs.YtdgbigkcophjoaaDoor.Rowed Go.Proofs.YtdgbigkcophjoaaDoor.Turn Go.Proofs.YtdgbigkcophjoaaDoor.Aid Go.Proofs.YtdgbigkcophjoaaDoor.GoP Go.Proofs.YtdgbigkcophjoaaDoor.GoM

def P (list : (List Go.Proofs.YtdgbigkcophjoaaDoor.PComb.Comb)) : Option (Bool) :=
  Option.bind (Go.Proofs.YtdgbigkcophjoaaDoor.GsL5Good.P list) fun (t_2 : Bool) =>
  some t_2

set_option maxRecDepth 100000 in
set_option maxHeartbeats 2000000 in
theorem C (list : (List Go.Proofs.YtdgbigkcophjoaaDoor.PComb.Comb)) (A0 : Option Addr) (c0 : Nat)  (w : World) (M0 : Hid (Cells w 4 A0 list.length (Go.Proofs.YtdgbigkcophjoaaDoor.PComb.flat list))) (N0 : Hid (list.length ≤ 9223372036854775807))  {r : Bool} (H : Hid (P list = some r)) :
    Calls Tryd.prog 22 #[.slice A0 list.length c0] w (Gives (.bool r) w) := by
  have HB := Lib.hid (Below.refl w.heap.size w)
  unfold P at H
  have N0o := N0.out
  go_enter Tryd.func22, Tryd.ntmps22
  replace H := bind_hid H
  obtain ⟨t_2, qt_2, H⟩ := H
  go_wp2_with fail
  go_at_call 38
  refine (Go.Proofs.YtdgbigkcophjoaaDoor.GsL5Good.C (list) A0 c0 _   (Lib.hid (Cells.below M0.out HB.out)) N0 qt_2).mono ?_
  rintro e_t_2 wt_2 ⟨rfl, bt_2⟩
  have HBwt_2 := Lib.hid (Below.step HB.out bt_2)
  clear bt_2
  obtain rfl := ret_hid H
  go_wp2_with fail
  go_ret
  exact ⟨rfl, HBwt_2.out⟩
end Go.Proofs.YtdgbigkcophjoaaDoor.GsAreCombs

