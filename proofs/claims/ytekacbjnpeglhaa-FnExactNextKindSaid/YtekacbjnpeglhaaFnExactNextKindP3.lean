/- The texts on which the proof of FnExactNextKind stands, one behind the other (3 of 3). No condition of their own. -/
import Derived.Test.YtekacbjnpeglhaaChecked
import Derived.Test.YtekacbjnpeglhaaFnExactNextKindP1
import Derived.Test.YtekacbjnpeglhaaFnExactNextKindP2
import Derived.WalkKit
import Derived.WalkSpells
import Derived.WalkLawsBesides
import Derived.BigQuiet
import Derived.OwnWalk
import Derived.Deep.LoopGhost
import Derived.Deep.QuietTactic
import Derived.IntWalk
import Derived.Lib.QuietBelow
import Derived.Deep.RegionHeld3
import Derived.Laws.OwnMore
import Derived.SliceStrings
import Derived.ChangeSlices
/- loop.example/g01062/laws.FnExactNextKind as a plain function, and the contract of the program's: where the plain one has an answer, the program has it. Conditions: slices read as lists. -/
namespace Go.Proofs.Ytekacbjnpeglhaa.GlFnExactNextKind
set_option linter.unusedVariables false
set_option linter.unusedSimpArgs false
open Go.RowKit
open Go.Proofs.Ytekacbjnpeglhaa.Rowed Go.Proofs.Ytekacbjnpeglhaa.Turn Go.Proofs.Ytekacbjnpeglhaa.Aid Go.Proofs.Ytekacbjnpeglhaa.GoP Go.Proofs.Ytekacbjnpeglhaa.GoM

def P (fuel : Nat) (aT_sizes : (List Int)) (aT_bans : (List Go.Proofs.Ytekacbjnpeglhaa.PBan.Ban)) (aKind : (List Int)) : Option (Bool) :=
  letK (decide (1048576 < (aKind.length : Int))) fun (t_4 : Bool) =>
  iteK t_4
  (some true)
  (Option.bind (Go.Proofs.Ytekacbjnpeglhaa.GlSzKindTable.P aT_sizes aT_bans 1048576) fun (t_9 : Int) =>
  letK (decide (t_9 < 0)) fun (t_12 : Bool) =>
  iteK t_12
  (some true)
  (Option.bind (Go.Proofs.Ytekacbjnpeglhaa.GlToKindTable.P aT_sizes aT_bans) fun (t_15 : Go.Proofs.Ytekacbjnpeglhaa.PKindTable.KindTable) =>
  unKindTable t_15 fun (t_15_sizes : (List Int)) (t_15_bans : (List Go.Proofs.Ytekacbjnpeglhaa.PBan.Ban)) =>
  Option.bind (Go.Proofs.Ytekacbjnpeglhaa.GlToIntS.P aKind) fun (t_17 : (List Int)) =>
  bind2 (Go.Proofs.Ytekacbjnpeglhaa.GsNextKind.P fuel t_15_sizes t_15_bans t_17) fun (t_18a : (List Int)) (t_18b : Bool) =>
  Option.bind (Go.Proofs.Ytekacbjnpeglhaa.GlToKindTable.P aT_sizes aT_bans) fun (t_25 : Go.Proofs.Ytekacbjnpeglhaa.PKindTable.KindTable) =>
  unKindTable t_25 fun (t_25_sizes : (List Int)) (t_25_bans : (List Go.Proofs.Ytekacbjnpeglhaa.PBan.Ban)) =>
  Option.bind (Go.Proofs.Ytekacbjnpeglhaa.GlToIntS.P aKind) fun (t_29 : (List Int)) =>
  bind2 (Go.Proofs.Ytekacbjnpeglhaa.GiNextKind.P fuel t_25_sizes t_25_bans t_29) fun (t_33a : (List Int)) (t_33b : Bool) =>
  Option.bind (Go.Proofs.Ytekacbjnpeglhaa.GlEqIntS.P t_33a t_18a) fun (t_41 : Bool) =>
  letK (!t_41) fun (t_42 : Bool) =>
  joinK (fun (t_47 : Bool) =>
  iteK t_47
  (some false)
  (Option.bind (Go.Proofs.Ytekacbjnpeglhaa.GlToKindTable.P aT_sizes aT_bans) fun (t_51 : Go.Proofs.Ytekacbjnpeglhaa.PKindTable.KindTable) =>
  unKindTable t_51 fun (t_51_sizes : (List Int)) (t_51_bans : (List Go.Proofs.Ytekacbjnpeglhaa.PBan.Ban)) =>
  Option.bind (Go.Proofs.Ytekacbjnpeglhaa.GlEqKindTable.P t_25_sizes t_25_bans t_51_sizes t_51_bans) fun (t_52 : Bool) =>
  letK (!t_52) fun (t_53 : Bool) =>
  iteK t_53
  (some false)
  (Option.bind (Go.Proofs.Ytekacbjnpeglhaa.GlToIntS.P aKind) fun (t_57 : (List Int)) =>
  Option.bind (Go.Proofs.Ytekacbjnpeglhaa.GlEqIntS.P t_29 t_57) fun (t_58 : Bool) =>
  letK (!t_58) fun (t_59 : Bool) =>
  iteK t_59
  (some false)
  (bind3 (Go.Proofs.Ytekacbjnpeglhaa.GlMarkKindTable.P t_25_sizes t_25_bans 1) fun (t_64 : Int) (lt_64 : (List Int)) (mt_64 : (List Go.Proofs.Ytekacbjnpeglhaa.PBan.Ban)) =>
  bind2 (Go.Proofs.Ytekacbjnpeglhaa.GlMarkIntS.P t_29 t_64) fun (t_68 : Int) (lt_68 : (List Int)) =>
  letK (decide (t_68 < 0)) fun (t_71 : Bool) =>
  joinK (fun (t_77 : Bool) =>
  joinK (fun (t_82 : Bool) =>
  iteK t_82
  (some false)
  (bind2 (Go.Proofs.Ytekacbjnpeglhaa.GlMarkIntS.P t_33a 1) fun (t_87 : Int) (lt_87 : (List Int)) =>
  Option.bind (Go.Proofs.Ytekacbjnpeglhaa.GlHeldIntS.P lt_87 1) fun (t_92 : Int) =>
  letK (decide (t_92 < 0)) fun (t_95 : Bool) =>
  iteK t_95
  (some false)
  (letK (t_92 != t_87) fun (t_99 : Bool) =>
  iteK t_99
  (some false)
  (Option.bind (Go.Proofs.Ytekacbjnpeglhaa.GlToKindTable.P aT_sizes aT_bans) fun (t_102 : Go.Proofs.Ytekacbjnpeglhaa.PKindTable.KindTable) =>
  unKindTable t_102 fun (t_102_sizes : (List Int)) (t_102_bans : (List Go.Proofs.Ytekacbjnpeglhaa.PBan.Ban)) =>
  Option.bind (Go.Proofs.Ytekacbjnpeglhaa.GlToIntS.P aKind) fun (t_104 : (List Int)) =>
  bind2 (Go.Proofs.Ytekacbjnpeglhaa.GiNextKind.P fuel t_102_sizes t_102_bans t_104) fun (t_105a : (List Int)) (t_105b : Bool) =>
  Option.bind (Go.Proofs.Ytekacbjnpeglhaa.GlEqIntS.P t_105a t_18a) fun (t_113 : Bool) =>
  letK (!t_113) fun (t_114 : Bool) =>
  joinK (fun (t_119 : Bool) =>
  iteK t_119
  (some false)
  (Option.bind (Go.Proofs.Ytekacbjnpeglhaa.GlHeldIntS.P lt_87 1) fun (t_124 : Int) =>
  letK (decide (t_124 < 0)) fun (t_127 : Bool) =>
  iteK t_127
  (some false)
  (letK (t_124 != t_87) fun (t_131 : Bool) =>
  iteK t_131
  (some false)
  (some true)))) fun jt_119 => iteK t_114 (appK jt_119 true) (letK (!(t_105b == t_18b)) fun (t_118 : Bool) =>
  appK jt_119 t_118))))) fun jt_82 => iteK t_77 (appK jt_82 true) (letK (!(t_33b == t_18b)) fun (t_81 : Bool) =>
  appK jt_82 t_81)) fun jt_77 => iteK t_71 (appK jt_77 true) (Option.bind (Go.Proofs.Ytekacbjnpeglhaa.GlEqIntS.P t_33a t_18a) fun (t_75 : Bool) =>
  letK (!t_75) fun (t_76 : Bool) =>
  appK jt_77 t_76))))) fun jt_47 => iteK t_42 (appK jt_47 true) (letK (!(t_33b == t_18b)) fun (t_46 : Bool) =>
  appK jt_47 t_46)))

set_option maxRecDepth 100000 in
set_option maxHeartbeats 2000000 in
theorem C (fuel : Nat) (aT_sizes : (List Int)) (aT_bans : (List Go.Proofs.Ytekacbjnpeglhaa.PBan.Ban)) (aKind : (List Int)) (A0_0 : Option Addr) (c0_0 : Nat) (A0_1 : Option Addr) (c0_1 : Nat) (A1 : Option Addr) (c1 : Nat)  (w : World) (M0_0 : Hid (Cells w 1 A0_0 aT_sizes.length (Go.Proofs.Ytekacbjnpeglhaa.HelpInt.iv aT_sizes))) (N0_0 : Hid (aT_sizes.length ≤ 9223372036854775807)) (M0_1 : Hid (Cells w 4 A0_1 aT_bans.length (Go.Proofs.Ytekacbjnpeglhaa.PBan.flat aT_bans))) (N0_1 : Hid (aT_bans.length ≤ 9223372036854775807)) (M1 : Hid (Cells w 1 A1 aKind.length (Go.Proofs.Ytekacbjnpeglhaa.HelpInt.iv aKind))) (N1 : Hid (aKind.length ≤ 9223372036854775807))  {r : Bool} (H : Hid (P fuel aT_sizes aT_bans aKind = some r)) :
    Calls Try.prog 7 #[.agg #[.slice A0_0 aT_sizes.length c0_0, .slice A0_1 aT_bans.length c0_1], .slice A1 aKind.length c1] w (Gives (.bool r) w) := by
  have HB := Lib.hid (Below.refl w.heap.size w)
  unfold P at H
  have N0_0o := N0_0.out
  have N0_1o := N0_1.out
  have N1o := N1.out
  go_enter Try.func7, Try.ntmps7
  obtain ⟨w_aT_0, hw_aT_0⟩ : ∃ x, w.alloc (.cells #[.slice A0_0 aT_sizes.length c0_0, .slice A0_1 aT_bans.length c0_1] 25) = x := ⟨_, rfl⟩
  have bw_aT_0 : Below w.heap.size w w_aT_0 := by rw [← hw_aT_0]; exact (Below.refl _ _).alloc (Nat.le_refl _) _
  have HBw_aT_0 := Lib.hid (Below.step HB.out bw_aT_0)
  clear bw_aT_0
  have kaT_0_0 : w_aT_0.cell? ⟨w.heap.size, 0, none⟩ = some (.slice A0_0 aT_sizes.length c0_0) := by rw [← hw_aT_0]; exact box_new _ _ _ 0 _ rfl
  have kaT_0_1 : w_aT_0.cell? ⟨w.heap.size, 1, none⟩ = some (.slice A0_1 aT_bans.length c0_1) := by rw [← hw_aT_0]; exact box_new _ _ _ 1 _ rfl
  replace H := let_hid H
  obtain ⟨t_4, ht_4, H⟩ := H
  cases t_4 with
  | false =>
    have nht_4 : ¬ (1048576 < aKind.length) := by have := of_decide_eq_false ht_4; omega
    replace H := ite_f H
    replace H := bind_hid H
    obtain ⟨t_9, qt_9, H⟩ := H
    go_wp2_with fail
    go_at_call 13
    refine (Go.Proofs.Ytekacbjnpeglhaa.GlSzKindTable.C (aT_sizes) (aT_bans) (1048576) A0_0 c0_0 A0_1 c0_1 _   (Lib.hid (Cells.below M0_0.out HBw_aT_0.out)) N0_0 (Lib.hid (Cells.below M0_1.out HBw_aT_0.out)) N0_1 qt_9).mono ?_
    rintro e_t_9 wt_9 ⟨rfl, bt_9⟩
    have HBwt_9 := Lib.hid (Below.step HBw_aT_0.out bt_9)
    replace kaT_0_0 := cell_below bt_9 kaT_0_0
    replace kaT_0_1 := cell_below bt_9 kaT_0_1
    clear bt_9
    replace H := let_hid H
    obtain ⟨t_12, ht_12, H⟩ := H
    cases t_12 with
    | false =>
      replace H := ite_f H
      replace H := bind_hid H
      obtain ⟨t_15, qt_15, H⟩ := H
      obtain ⟨t_15_sizes, t_15_bans⟩ := t_15
      replace H := unKindTable_hid H
      go_wp2_with fail
      go_at_call 15
      refine (Go.Proofs.Ytekacbjnpeglhaa.GlToKindTable.C (aT_sizes) (aT_bans) A0_0 c0_0 A0_1 c0_1 _   (Lib.hid (Cells.below M0_0.out HBwt_9.out)) N0_0 (Lib.hid (Cells.below M0_1.out HBwt_9.out)) N0_1 qt_15).mono ?_
      rintro e_t_15 wt_15 ⟨At_15_sizes, ct_15_sizes, At_15_bans, ct_15_bans, rfl, ot_15_sizes, ot_15_bans, d0_1, bt_15⟩
      have Dt_15_sizes_aT_0 := Lib.hid (apart_callbox ot_15_sizes kaT_0_0)
      have Dt_15_bans_aT_0 := Lib.hid (apart_callbox ot_15_bans kaT_0_0)
      have Dt_15_sizes_t_15_bans := Lib.hid d0_1
      have Ot_15_sizes := Lib.hid (own_lower ot_15_sizes HBwt_9.out.size)
      clear ot_15_sizes
      have Ot_15_bans := Lib.hid (own_lower ot_15_bans HBwt_9.out.size)
      clear ot_15_bans
      have HBwt_15 := Lib.hid (Below.step HBwt_9.out bt_15)
      replace kaT_0_0 := cell_below bt_15 kaT_0_0
      replace kaT_0_1 := cell_below bt_15 kaT_0_1
      clear bt_15
      replace H := bind_hid H
      obtain ⟨t_17, qt_17, H⟩ := H
      go_wp2_with fail
      go_at_call 19
      refine (Go.Proofs.Ytekacbjnpeglhaa.GlToIntS.C (aKind) A1 c1 _   (Lib.hid (Cells.below M1.out HBwt_15.out)) N1 qt_17).mono ?_
      rintro e_t_17 wt_17 ⟨At_17, ct_17, rfl, ot_17, bt_17⟩
      have Dt_17_t_15_sizes := Lib.hid (apart_call ot_17 Ot_15_sizes.out)
      have Dt_17_t_15_bans := Lib.hid (apart_call ot_17 Ot_15_bans.out)
      have Dt_17_aT_0 := Lib.hid (apart_callbox ot_17 kaT_0_0)
      have Ot_17 := Lib.hid (own_lower ot_17 HBwt_15.out.size)
      clear ot_17
      have HBwt_17 := Lib.hid (Below.step HBwt_15.out bt_17)
      replace kaT_0_0 := cell_below bt_17 kaT_0_0
      replace kaT_0_1 := cell_below bt_17 kaT_0_1
      replace Ot_15_sizes := Lib.hid (own_below Ot_15_sizes.out bt_17)
      replace Ot_15_bans := Lib.hid (own_below Ot_15_bans.out bt_17)
      clear bt_17
      replace H := bind2_hid H
      obtain ⟨t_18a, t_18b, qt_18, H⟩ := H
      go_wp2_with fail
      go_at_call 29
      refine (Go.Proofs.Ytekacbjnpeglhaa.GsNextKind.C fuel (t_15_sizes) (t_15_bans) (t_17) At_15_sizes ct_15_sizes At_15_bans ct_15_bans At_17 ct_17 _   (Lib.hid (own_cells Ot_15_sizes.out)) (Lib.hid (own_max Ot_15_sizes.out)) (Lib.hid (own_cells Ot_15_bans.out)) (Lib.hid (own_max Ot_15_bans.out)) (Lib.hid (own_cells Ot_17.out)) (Lib.hid (own_max Ot_17.out)) qt_18).mono ?_
      rintro e_t_18 wt_18 ⟨At_18a, ct_18a, rfl, ot_18a, bt_18⟩
      have Dt_18a_t_15_sizes := Lib.hid (apart_call ot_18a Ot_15_sizes.out)
      have Dt_18a_t_15_bans := Lib.hid (apart_call ot_18a Ot_15_bans.out)
      have Dt_18a_t_17 := Lib.hid (apart_call ot_18a Ot_17.out)
      have Dt_18a_aT_0 := Lib.hid (apart_callbox ot_18a kaT_0_0)
      have Ot_18a := Lib.hid (own_lower ot_18a HBwt_17.out.size)
      clear ot_18a
      have HBwt_18 := Lib.hid (Below.step HBwt_17.out bt_18)
      replace kaT_0_0 := cell_below bt_18 kaT_0_0
      replace kaT_0_1 := cell_below bt_18 kaT_0_1
      replace Ot_15_sizes := Lib.hid (own_below Ot_15_sizes.out bt_18)
      replace Ot_15_bans := Lib.hid (own_below Ot_15_bans.out bt_18)
      replace Ot_17 := Lib.hid (own_below Ot_17.out bt_18)
      clear bt_18
      replace H := bind_hid H
      obtain ⟨t_25, qt_25, H⟩ := H
      obtain ⟨t_25_sizes, t_25_bans⟩ := t_25
      replace H := unKindTable_hid H
      go_wp2_with fail
      go_at_call 15
      refine (Go.Proofs.Ytekacbjnpeglhaa.GlToKindTable.C (aT_sizes) (aT_bans) A0_0 c0_0 A0_1 c0_1 _   (Lib.hid (Cells.below M0_0.out HBwt_18.out)) N0_0 (Lib.hid (Cells.below M0_1.out HBwt_18.out)) N0_1 qt_25).mono ?_
      rintro e_t_25 wt_25 ⟨At_25_sizes, ct_25_sizes, At_25_bans, ct_25_bans, rfl, ot_25_sizes, ot_25_bans, d0_1, bt_25⟩
      have Dt_25_sizes_t_15_sizes := Lib.hid (apart_call ot_25_sizes Ot_15_sizes.out)
      have Dt_25_sizes_t_15_bans := Lib.hid (apart_call ot_25_sizes Ot_15_bans.out)
      have Dt_25_sizes_t_17 := Lib.hid (apart_call ot_25_sizes Ot_17.out)
      have Dt_25_sizes_t_18a := Lib.hid (apart_call ot_25_sizes Ot_18a.out)
      have Dt_25_sizes_aT_0 := Lib.hid (apart_callbox ot_25_sizes kaT_0_0)
      have Dt_25_bans_t_15_sizes := Lib.hid (apart_call ot_25_bans Ot_15_sizes.out)
      have Dt_25_bans_t_15_bans := Lib.hid (apart_call ot_25_bans Ot_15_bans.out)
      have Dt_25_bans_t_17 := Lib.hid (apart_call ot_25_bans Ot_17.out)
      have Dt_25_bans_t_18a := Lib.hid (apart_call ot_25_bans Ot_18a.out)
      have Dt_25_bans_aT_0 := Lib.hid (apart_callbox ot_25_bans kaT_0_0)
      have Dt_25_sizes_t_25_bans := Lib.hid d0_1
      have Ot_25_sizes := Lib.hid (own_lower ot_25_sizes HBwt_18.out.size)
      clear ot_25_sizes
      have Ot_25_bans := Lib.hid (own_lower ot_25_bans HBwt_18.out.size)
      clear ot_25_bans
      have HBwt_25 := Lib.hid (Below.step HBwt_18.out bt_25)
      replace kaT_0_0 := cell_below bt_25 kaT_0_0
      replace kaT_0_1 := cell_below bt_25 kaT_0_1
      replace Ot_15_sizes := Lib.hid (own_below Ot_15_sizes.out bt_25)
      replace Ot_15_bans := Lib.hid (own_below Ot_15_bans.out bt_25)
      replace Ot_17 := Lib.hid (own_below Ot_17.out bt_25)
      replace Ot_18a := Lib.hid (own_below Ot_18a.out bt_25)
      clear bt_25
      obtain ⟨w_x0_26, hw_x0_26⟩ : ∃ x, wt_25.alloc (.cells #[.slice At_25_sizes t_25_sizes.length ct_25_sizes, .slice At_25_bans t_25_bans.length ct_25_bans] 30) = x := ⟨_, rfl⟩
      have bw_x0_26 : Below wt_25.heap.size wt_25 w_x0_26 := by rw [← hw_x0_26]; exact (Below.refl _ _).alloc (Nat.le_refl _) _
      have Dx0_26_t_15_sizes := Lib.hid (apart_fresh Ot_15_sizes.out)
      have Dx0_26_t_15_bans := Lib.hid (apart_fresh Ot_15_bans.out)
      have Dx0_26_t_17 := Lib.hid (apart_fresh Ot_17.out)
      have Dx0_26_t_18a := Lib.hid (apart_fresh Ot_18a.out)
      have Dx0_26_t_25_sizes := Lib.hid (apart_fresh Ot_25_sizes.out)
      have Dx0_26_t_25_bans := Lib.hid (apart_fresh Ot_25_bans.out)
      have HBw_x0_26 := Lib.hid (Below.step HBwt_25.out bw_x0_26)
      have kaT_0_0__198 := cell_below bw_x0_26 kaT_0_0
      have kaT_0_1__199 := cell_below bw_x0_26 kaT_0_1
      replace Ot_15_sizes := Lib.hid (own_below Ot_15_sizes.out bw_x0_26)
      replace Ot_15_bans := Lib.hid (own_below Ot_15_bans.out bw_x0_26)
      replace Ot_17 := Lib.hid (own_below Ot_17.out bw_x0_26)
      replace Ot_18a := Lib.hid (own_below Ot_18a.out bw_x0_26)
      replace Ot_25_sizes := Lib.hid (own_below Ot_25_sizes.out bw_x0_26)
      replace Ot_25_bans := Lib.hid (own_below Ot_25_bans.out bw_x0_26)
      clear bw_x0_26
      have kx0_26_0 : w_x0_26.cell? ⟨wt_25.heap.size, 0, none⟩ = some (.slice At_25_sizes t_25_sizes.length ct_25_sizes) := by rw [← hw_x0_26]; exact box_new _ _ _ 0 _ rfl
      have kx0_26_1 : w_x0_26.cell? ⟨wt_25.heap.size, 1, none⟩ = some (.slice At_25_bans t_25_bans.length ct_25_bans) := by rw [← hw_x0_26]; exact box_new _ _ _ 1 _ rfl
      replace H := bind_hid H
      obtain ⟨t_29, qt_29, H⟩ := H
      go_wp2_with fail
      clear kaT_0_0 kaT_0_1
      go_at_call 19
      refine (Go.Proofs.Ytekacbjnpeglhaa.GlToIntS.C (aKind) A1 c1 _   (Lib.hid (Cells.below M1.out HBw_x0_26.out)) N1 qt_29).mono ?_
      rintro e_t_29 wt_29 ⟨At_29, ct_29, rfl, ot_29, bt_29⟩
      have Dt_29_t_15_sizes := Lib.hid (apart_call ot_29 Ot_15_sizes.out)
      have Dt_29_t_15_bans := Lib.hid (apart_call ot_29 Ot_15_bans.out)
      have Dt_29_t_17 := Lib.hid (apart_call ot_29 Ot_17.out)
      have Dt_29_t_18a := Lib.hid (apart_call ot_29 Ot_18a.out)
      have Dt_29_t_25_sizes := Lib.hid (apart_call ot_29 Ot_25_sizes.out)
      have Dt_29_t_25_bans := Lib.hid (apart_call ot_29 Ot_25_bans.out)
      have Dt_29_aT_0 := Lib.hid (apart_callbox ot_29 kaT_0_0__198)
      have Dt_29_x0_26 := Lib.hid (apart_callbox ot_29 kx0_26_0)
      have Ot_29 := Lib.hid (own_lower ot_29 HBw_x0_26.out.size)
      clear ot_29
      have HBwt_29 := Lib.hid (Below.step HBw_x0_26.out bt_29)
      replace kaT_0_0__198 := cell_below bt_29 kaT_0_0__198
      replace kaT_0_1__199 := cell_below bt_29 kaT_0_1__199
      replace kx0_26_0 := cell_below bt_29 kx0_26_0
      replace kx0_26_1 := cell_below bt_29 kx0_26_1
      replace Ot_15_sizes := Lib.hid (own_below Ot_15_sizes.out bt_29)
      replace Ot_15_bans := Lib.hid (own_below Ot_15_bans.out bt_29)
      replace Ot_17 := Lib.hid (own_below Ot_17.out bt_29)
      replace Ot_18a := Lib.hid (own_below Ot_18a.out bt_29)
      replace Ot_25_sizes := Lib.hid (own_below Ot_25_sizes.out bt_29)
      replace Ot_25_bans := Lib.hid (own_below Ot_25_bans.out bt_29)
      clear bt_29
      replace H := bind2_hid H
      obtain ⟨t_33a, t_33b, qt_33, H⟩ := H
      go_wp2_with fail
      go_at_call 30
      refine (Go.Proofs.Ytekacbjnpeglhaa.GiNextKind.C fuel (t_25_sizes) (t_25_bans) (t_29) At_25_sizes ct_25_sizes At_25_bans ct_25_bans At_29 ct_29 _   (Lib.hid (own_cells Ot_25_sizes.out)) (Lib.hid (own_max Ot_25_sizes.out)) (Lib.hid (own_room Ot_25_sizes.out)) (Lib.hid (own_cells Ot_25_bans.out)) (Lib.hid (own_max Ot_25_bans.out)) (Lib.hid (own_room Ot_25_bans.out)) (Lib.hid (own_cells Ot_29.out)) (Lib.hid (own_max Ot_29.out)) (Lib.hid (own_room Ot_29.out)) qt_33).mono ?_
      rintro e_t_33 wt_33 ⟨At_33a, ct_33a, rfl, ot_33a, bt_33⟩
      have Dt_33a_t_15_sizes := Lib.hid (apart_call ot_33a Ot_15_sizes.out)
      have Dt_33a_t_15_bans := Lib.hid (apart_call ot_33a Ot_15_bans.out)
      have Dt_33a_t_17 := Lib.hid (apart_call ot_33a Ot_17.out)
      have Dt_33a_t_18a := Lib.hid (apart_call ot_33a Ot_18a.out)
      have Dt_33a_t_25_sizes := Lib.hid (apart_call ot_33a Ot_25_sizes.out)
      have Dt_33a_t_25_bans := Lib.hid (apart_call ot_33a Ot_25_bans.out)
      have Dt_33a_t_29 := Lib.hid (apart_call ot_33a Ot_29.out)
      have Dt_33a_aT_0 := Lib.hid (apart_callbox ot_33a kaT_0_0__198)
      have Dt_33a_x0_26 := Lib.hid (apart_callbox ot_33a kx0_26_0)
      have Ot_33a := Lib.hid (own_lower ot_33a HBwt_29.out.size)
      clear ot_33a
      have HBwt_33 := Lib.hid (Below.step HBwt_29.out bt_33)
      replace kaT_0_0__198 := cell_below bt_33 kaT_0_0__198
      replace kaT_0_1__199 := cell_below bt_33 kaT_0_1__199
      replace kx0_26_0 := cell_below bt_33 kx0_26_0
      replace kx0_26_1 := cell_below bt_33 kx0_26_1
      replace Ot_15_sizes := Lib.hid (own_below Ot_15_sizes.out bt_33)
      replace Ot_15_bans := Lib.hid (own_below Ot_15_bans.out bt_33)
      replace Ot_17 := Lib.hid (own_below Ot_17.out bt_33)
      replace Ot_18a := Lib.hid (own_below Ot_18a.out bt_33)
      replace Ot_25_sizes := Lib.hid (own_below Ot_25_sizes.out bt_33)
      replace Ot_25_bans := Lib.hid (own_below Ot_25_bans.out bt_33)
      replace Ot_29 := Lib.hid (own_below Ot_29.out bt_33)
      clear bt_33
      replace H := bind_hid H
      obtain ⟨t_41, qt_41, H⟩ := H
      go_wp2_with fail
      go_at_call 21
      refine (Go.Proofs.Ytekacbjnpeglhaa.GlEqIntS.C (t_33a) (t_18a) At_33a ct_33a At_18a ct_18a _   (Lib.hid (own_cells Ot_33a.out)) (Lib.hid (own_max Ot_33a.out)) (Lib.hid (own_cells Ot_18a.out)) (Lib.hid (own_max Ot_18a.out)) qt_41).mono ?_
      rintro e_t_41 wt_41 ⟨rfl, bt_41⟩
      have HBwt_41 := Lib.hid (Below.step HBwt_33.out bt_41)
      replace kaT_0_0__198 := cell_below bt_41 kaT_0_0__198
      replace kaT_0_1__199 := cell_below bt_41 kaT_0_1__199
      replace kx0_26_0 := cell_below bt_41 kx0_26_0
      replace kx0_26_1 := cell_below bt_41 kx0_26_1
      replace Ot_15_sizes := Lib.hid (own_below Ot_15_sizes.out bt_41)
      replace Ot_15_bans := Lib.hid (own_below Ot_15_bans.out bt_41)
      replace Ot_17 := Lib.hid (own_below Ot_17.out bt_41)
      replace Ot_18a := Lib.hid (own_below Ot_18a.out bt_41)
      replace Ot_25_sizes := Lib.hid (own_below Ot_25_sizes.out bt_41)
      replace Ot_25_bans := Lib.hid (own_below Ot_25_bans.out bt_41)
      replace Ot_29 := Lib.hid (own_below Ot_29.out bt_41)
      replace Ot_33a := Lib.hid (own_below Ot_33a.out bt_41)
      clear bt_41
      cases t_41 with
      | false =>
        replace H := let_hid H
        obtain ⟨t_42, ht_42, H⟩ := H
        obtain rfl : t_42 = true := ht_42.symm
        replace H := join_hid H
        replace H := ite_t H
        replace H := app_hid H
        replace H := ite_t H
        obtain rfl := ret_hid H
        go_wp2_with fail
        go_ret
        exact ⟨rfl, HBwt_41.out⟩
      | true =>
        replace H := let_hid H
        obtain ⟨t_42, ht_42, H⟩ := H
        obtain rfl : t_42 = false := ht_42.symm
        replace H := join_hid H
        replace H := ite_f H
        replace H := let_hid H
        obtain ⟨t_46, ht_46, H⟩ := H
        replace H := app_hid H
        cases t_46 with
        | false =>
          replace H := ite_f H
          go_wp2_with fail
          have bd13 : Below wt_41.heap.size wt_41 wt_41.drew := (Below.refl _ _).drew
          have HBwt_41.drew := Lib.hid (Below.step HBwt_41.out bd13)
          replace kaT_0_0__198 := cell_below bd13 kaT_0_0__198
          replace kaT_0_1__199 := cell_below bd13 kaT_0_1__199
          replace kx0_26_0 := cell_below bd13 kx0_26_0
          replace kx0_26_1 := cell_below bd13 kx0_26_1
          replace Ot_15_sizes := Lib.hid (own_below Ot_15_sizes.out bd13)
          replace Ot_15_bans := Lib.hid (own_below Ot_15_bans.out bd13)
          replace Ot_17 := Lib.hid (own_below Ot_17.out bd13)
          replace Ot_18a := Lib.hid (own_below Ot_18a.out bd13)
          replace Ot_25_sizes := Lib.hid (own_below Ot_25_sizes.out bd13)
          replace Ot_25_bans := Lib.hid (own_below Ot_25_bans.out bd13)
          replace Ot_29 := Lib.hid (own_below Ot_29.out bd13)
          replace Ot_33a := Lib.hid (own_below Ot_33a.out bd13)
          clear bd13
          replace H := bind_hid H
          obtain ⟨t_51, qt_51, H⟩ := H
          obtain ⟨t_51_sizes, t_51_bans⟩ := t_51
          replace H := unKindTable_hid H
          replace H := bind_hid H
          obtain ⟨t_52, qt_52, H⟩ := H
          cases t_52 with
          | false =>
            replace H := let_hid H
            obtain ⟨t_53, ht_53, H⟩ := H
            obtain rfl : t_53 = true := ht_53.symm
            go_region_held3 (fun w' => w'.cell? ⟨w.heap.size, 0, none⟩ = some (.slice A0_0 aT_sizes.length c0_0) ∧ w'.cell? ⟨w.heap.size, 1, none⟩ = some (.slice A0_1 aT_bans.length c0_1) ∧ w'.cell? ⟨wt_25.heap.size, 0, none⟩ = some (.slice At_25_sizes t_25_sizes.length ct_25_sizes) ∧ w'.cell? ⟨wt_25.heap.size, 1, none⟩ = some (.slice At_25_bans t_25_bans.length ct_25_bans)) (first | exact ⟨kaT_0_0__198, kaT_0_1__199, kx0_26_0, kx0_26_1⟩)
                (first
                  | (go_at_call 15
                     refine (Go.Proofs.Ytekacbjnpeglhaa.GlToKindTable.C (aT_sizes) (aT_bans) A0_0 c0_0 A0_1 c0_1 _   (Lib.hid (Cells.below M0_0.out HBwt_41.drew.out)) N0_0 (Lib.hid (Cells.below M0_1.out HBwt_41.drew.out)) N0_1 qt_51).mono ?_
                     rintro e_t_51 wt_51 ⟨At_51_sizes, ct_51_sizes, At_51_bans, ct_51_bans, rfl, ot_51_sizes, ot_51_bans, d0_1, bt_51⟩
                     have Dt_51_sizes_t_15_sizes := Lib.hid (apart_call ot_51_sizes Ot_15_sizes.out)
                     have Dt_51_sizes_t_15_bans := Lib.hid (apart_call ot_51_sizes Ot_15_bans.out)
                     have Dt_51_sizes_t_17 := Lib.hid (apart_call ot_51_sizes Ot_17.out)
                     have Dt_51_sizes_t_18a := Lib.hid (apart_call ot_51_sizes Ot_18a.out)
                     have Dt_51_sizes_t_25_sizes := Lib.hid (apart_call ot_51_sizes Ot_25_sizes.out)
                     have Dt_51_sizes_t_25_bans := Lib.hid (apart_call ot_51_sizes Ot_25_bans.out)
                     have Dt_51_sizes_t_29 := Lib.hid (apart_call ot_51_sizes Ot_29.out)
                     have Dt_51_sizes_t_33a := Lib.hid (apart_call ot_51_sizes Ot_33a.out)
                     have Dt_51_sizes_aT_0 := Lib.hid (apart_callbox ot_51_sizes kaT_0_0__198)
                     have Dt_51_sizes_x0_26 := Lib.hid (apart_callbox ot_51_sizes kx0_26_0)
                     have Dt_51_bans_t_15_sizes := Lib.hid (apart_call ot_51_bans Ot_15_sizes.out)
                     have Dt_51_bans_t_15_bans := Lib.hid (apart_call ot_51_bans Ot_15_bans.out)
                     have Dt_51_bans_t_17 := Lib.hid (apart_call ot_51_bans Ot_17.out)
                     have Dt_51_bans_t_18a := Lib.hid (apart_call ot_51_bans Ot_18a.out)
                     have Dt_51_bans_t_25_sizes := Lib.hid (apart_call ot_51_bans Ot_25_sizes.out)
                     have Dt_51_bans_t_25_bans := Lib.hid (apart_call ot_51_bans Ot_25_bans.out)
                     have Dt_51_bans_t_29 := Lib.hid (apart_call ot_51_bans Ot_29.out)
                     have Dt_51_bans_t_33a := Lib.hid (apart_call ot_51_bans Ot_33a.out)
                     have Dt_51_bans_aT_0 := Lib.hid (apart_callbox ot_51_bans kaT_0_0__198)
                     have Dt_51_bans_x0_26 := Lib.hid (apart_callbox ot_51_bans kx0_26_0)
                     have Dt_51_sizes_t_51_bans := Lib.hid d0_1
                     have Ot_51_sizes := Lib.hid (own_lower ot_51_sizes HBwt_41.drew.out.size)
                     clear ot_51_sizes
                     have Ot_51_bans := Lib.hid (own_lower ot_51_bans HBwt_41.drew.out.size)
                     clear ot_51_bans
                     have HBwt_51 := Lib.hid (Below.step HBwt_41.drew.out bt_51)
                     replace kaT_0_0__198 := cell_below bt_51 kaT_0_0__198
                     replace kaT_0_1__199 := cell_below bt_51 kaT_0_1__199
                     replace kx0_26_0 := cell_below bt_51 kx0_26_0
                     replace kx0_26_1 := cell_below bt_51 kx0_26_1
                     replace Ot_15_sizes := Lib.hid (own_below Ot_15_sizes.out bt_51)
                     replace Ot_15_bans := Lib.hid (own_below Ot_15_bans.out bt_51)
                     replace Ot_17 := Lib.hid (own_below Ot_17.out bt_51)
                     replace Ot_18a := Lib.hid (own_below Ot_18a.out bt_51)
                     replace Ot_25_sizes := Lib.hid (own_below Ot_25_sizes.out bt_51)
                     replace Ot_25_bans := Lib.hid (own_below Ot_25_bans.out bt_51)
                     replace Ot_29 := Lib.hid (own_below Ot_29.out bt_51)
                     replace Ot_33a := Lib.hid (own_below Ot_33a.out bt_51)
                     clear bt_51
                     clear qt_51)
                  | (go_at_call 17
                     refine (Go.Proofs.Ytekacbjnpeglhaa.GlEqKindTable.C (t_25_sizes) (t_25_bans) (t_51_sizes) (t_51_bans) At_25_sizes ct_25_sizes At_25_bans ct_25_bans At_51_sizes ct_51_sizes At_51_bans ct_51_bans _   (Lib.hid (own_cells Ot_25_sizes.out)) (Lib.hid (own_max Ot_25_sizes.out)) (Lib.hid (own_cells Ot_25_bans.out)) (Lib.hid (own_max Ot_25_bans.out)) (Lib.hid (own_cells Ot_51_sizes.out)) (Lib.hid (own_max Ot_51_sizes.out)) (Lib.hid (own_cells Ot_51_bans.out)) (Lib.hid (own_max Ot_51_bans.out)) qt_52).mono ?_
                     rintro e_t_52 wt_52 ⟨rfl, bt_52⟩
                     have HBwt_52 := Lib.hid (Below.step HBwt_51.out bt_52)
                     replace kaT_0_0__198 := cell_below bt_52 kaT_0_0__198
                     replace kaT_0_1__199 := cell_below bt_52 kaT_0_1__199
                     replace kx0_26_0 := cell_below bt_52 kx0_26_0
                     replace kx0_26_1 := cell_below bt_52 kx0_26_1
                     replace Ot_15_sizes := Lib.hid (own_below Ot_15_sizes.out bt_52)
                     replace Ot_15_bans := Lib.hid (own_below Ot_15_bans.out bt_52)
                     replace Ot_17 := Lib.hid (own_below Ot_17.out bt_52)
                     replace Ot_18a := Lib.hid (own_below Ot_18a.out bt_52)
                     replace Ot_25_sizes := Lib.hid (own_below Ot_25_sizes.out bt_52)
                     replace Ot_25_bans := Lib.hid (own_below Ot_25_bans.out bt_52)
                     replace Ot_29 := Lib.hid (own_below Ot_29.out bt_52)
                     replace Ot_33a := Lib.hid (own_below Ot_33a.out bt_52)
                     replace Ot_51_sizes := Lib.hid (own_below Ot_51_sizes.out bt_52)
                     replace Ot_51_bans := Lib.hid (own_below Ot_51_bans.out bt_52)
                     clear bt_52
                     clear qt_52))
            replace H := ite_t H
            obtain rfl := ret_hid H
            go_wp2_with fail
            go_ret
            exact ⟨rfl, HBwt_52.out⟩
          | true =>
            replace H := let_hid H
            obtain ⟨t_53, ht_53, H⟩ := H
            obtain rfl : t_53 = false := ht_53.symm
            go_region_held3 (fun w' => w'.cell? ⟨w.heap.size, 0, none⟩ = some (.slice A0_0 aT_sizes.length c0_0) ∧ w'.cell? ⟨w.heap.size, 1, none⟩ = some (.slice A0_1 aT_bans.length c0_1) ∧ w'.cell? ⟨wt_25.heap.size, 0, none⟩ = some (.slice At_25_sizes t_25_sizes.length ct_25_sizes) ∧ w'.cell? ⟨wt_25.heap.size, 1, none⟩ = some (.slice At_25_bans t_25_bans.length ct_25_bans)) (first | exact ⟨kaT_0_0__198, kaT_0_1__199, kx0_26_0, kx0_26_1⟩)
                (first
                  | (go_at_call 15
                     refine (Go.Proofs.Ytekacbjnpeglhaa.GlToKindTable.C (aT_sizes) (aT_bans) A0_0 c0_0 A0_1 c0_1 _   (Lib.hid (Cells.below M0_0.out HBwt_41.drew.out)) N0_0 (Lib.hid (Cells.below M0_1.out HBwt_41.drew.out)) N0_1 qt_51).mono ?_
                     rintro e_t_51 wt_51 ⟨At_51_sizes, ct_51_sizes, At_51_bans, ct_51_bans, rfl, ot_51_sizes, ot_51_bans, d0_1, bt_51⟩
                     have Dt_51_sizes_t_15_sizes := Lib.hid (apart_call ot_51_sizes Ot_15_sizes.out)
                     have Dt_51_sizes_t_15_bans := Lib.hid (apart_call ot_51_sizes Ot_15_bans.out)
                     have Dt_51_sizes_t_17 := Lib.hid (apart_call ot_51_sizes Ot_17.out)
                     have Dt_51_sizes_t_18a := Lib.hid (apart_call ot_51_sizes Ot_18a.out)
                     have Dt_51_sizes_t_25_sizes := Lib.hid (apart_call ot_51_sizes Ot_25_sizes.out)
                     have Dt_51_sizes_t_25_bans := Lib.hid (apart_call ot_51_sizes Ot_25_bans.out)
                     have Dt_51_sizes_t_29 := Lib.hid (apart_call ot_51_sizes Ot_29.out)
                     have Dt_51_sizes_t_33a := Lib.hid (apart_call ot_51_sizes Ot_33a.out)
                     have Dt_51_sizes_aT_0 := Lib.hid (apart_callbox ot_51_sizes kaT_0_0__198)
                     have Dt_51_sizes_x0_26 := Lib.hid (apart_callbox ot_51_sizes kx0_26_0)
                     have Dt_51_bans_t_15_sizes := Lib.hid (apart_call ot_51_bans Ot_15_sizes.out)
                     have Dt_51_bans_t_15_bans := Lib.hid (apart_call ot_51_bans Ot_15_bans.out)
                     have Dt_51_bans_t_17 := Lib.hid (apart_call ot_51_bans Ot_17.out)
                     have Dt_51_bans_t_18a := Lib.hid (apart_call ot_51_bans Ot_18a.out)
                     have Dt_51_bans_t_25_sizes := Lib.hid (apart_call ot_51_bans Ot_25_sizes.out)
                     have Dt_51_bans_t_25_bans := Lib.hid (apart_call ot_51_bans Ot_25_bans.out)
                     have Dt_51_bans_t_29 := Lib.hid (apart_call ot_51_bans Ot_29.out)
                     have Dt_51_bans_t_33a := Lib.hid (apart_call ot_51_bans Ot_33a.out)
                     have Dt_51_bans_aT_0 := Lib.hid (apart_callbox ot_51_bans kaT_0_0__198)
                     have Dt_51_bans_x0_26 := Lib.hid (apart_callbox ot_51_bans kx0_26_0)
                     have Dt_51_sizes_t_51_bans := Lib.hid d0_1
                     have Ot_51_sizes := Lib.hid (own_lower ot_51_sizes HBwt_41.drew.out.size)
                     clear ot_51_sizes
                     have Ot_51_bans := Lib.hid (own_lower ot_51_bans HBwt_41.drew.out.size)
                     clear ot_51_bans
                     have HBwt_51 := Lib.hid (Below.step HBwt_41.drew.out bt_51)
                     replace kaT_0_0__198 := cell_below bt_51 kaT_0_0__198
                     replace kaT_0_1__199 := cell_below bt_51 kaT_0_1__199
                     replace kx0_26_0 := cell_below bt_51 kx0_26_0
                     replace kx0_26_1 := cell_below bt_51 kx0_26_1
                     replace Ot_15_sizes := Lib.hid (own_below Ot_15_sizes.out bt_51)
                     replace Ot_15_bans := Lib.hid (own_below Ot_15_bans.out bt_51)
                     replace Ot_17 := Lib.hid (own_below Ot_17.out bt_51)
                     replace Ot_18a := Lib.hid (own_below Ot_18a.out bt_51)
                     replace Ot_25_sizes := Lib.hid (own_below Ot_25_sizes.out bt_51)
                     replace Ot_25_bans := Lib.hid (own_below Ot_25_bans.out bt_51)
                     replace Ot_29 := Lib.hid (own_below Ot_29.out bt_51)
                     replace Ot_33a := Lib.hid (own_below Ot_33a.out bt_51)
                     clear bt_51
                     clear qt_51)
                  | (go_at_call 17
                     refine (Go.Proofs.Ytekacbjnpeglhaa.GlEqKindTable.C (t_25_sizes) (t_25_bans) (t_51_sizes) (t_51_bans) At_25_sizes ct_25_sizes At_25_bans ct_25_bans At_51_sizes ct_51_sizes At_51_bans ct_51_bans _   (Lib.hid (own_cells Ot_25_sizes.out)) (Lib.hid (own_max Ot_25_sizes.out)) (Lib.hid (own_cells Ot_25_bans.out)) (Lib.hid (own_max Ot_25_bans.out)) (Lib.hid (own_cells Ot_51_sizes.out)) (Lib.hid (own_max Ot_51_sizes.out)) (Lib.hid (own_cells Ot_51_bans.out)) (Lib.hid (own_max Ot_51_bans.out)) qt_52).mono ?_
                     rintro e_t_52 wt_52 ⟨rfl, bt_52⟩
                     have HBwt_52 := Lib.hid (Below.step HBwt_51.out bt_52)
                     replace kaT_0_0__198 := cell_below bt_52 kaT_0_0__198
                     replace kaT_0_1__199 := cell_below bt_52 kaT_0_1__199
                     replace kx0_26_0 := cell_below bt_52 kx0_26_0
                     replace kx0_26_1 := cell_below bt_52 kx0_26_1
                     replace Ot_15_sizes := Lib.hid (own_below Ot_15_sizes.out bt_52)
                     replace Ot_15_bans := Lib.hid (own_below Ot_15_bans.out bt_52)
                     replace Ot_17 := Lib.hid (own_below Ot_17.out bt_52)
                     replace Ot_18a := Lib.hid (own_below Ot_18a.out bt_52)
                     replace Ot_25_sizes := Lib.hid (own_below Ot_25_sizes.out bt_52)
                     replace Ot_25_bans := Lib.hid (own_below Ot_25_bans.out bt_52)
                     replace Ot_29 := Lib.hid (own_below Ot_29.out bt_52)
                     replace Ot_33a := Lib.hid (own_below Ot_33a.out bt_52)
                     replace Ot_51_sizes := Lib.hid (own_below Ot_51_sizes.out bt_52)
                     replace Ot_51_bans := Lib.hid (own_below Ot_51_bans.out bt_52)
                     clear bt_52
                     clear qt_52))
            replace H := ite_f H
            replace H := bind_hid H
            obtain ⟨t_57, qt_57, H⟩ := H
            go_wp2_with fail
            go_at_call 19
            refine (Go.Proofs.Ytekacbjnpeglhaa.GlToIntS.C (aKind) A1 c1 _   (Lib.hid (Cells.below M1.out HBwt_52.out)) N1 qt_57).mono ?_
            rintro e_t_57 wt_57 ⟨At_57, ct_57, rfl, ot_57, bt_57⟩
            have Dt_57_t_15_sizes := Lib.hid (apart_call ot_57 Ot_15_sizes.out)
            have Dt_57_t_15_bans := Lib.hid (apart_call ot_57 Ot_15_bans.out)
            have Dt_57_t_17 := Lib.hid (apart_call ot_57 Ot_17.out)
            have Dt_57_t_18a := Lib.hid (apart_call ot_57 Ot_18a.out)
            have Dt_57_t_25_sizes := Lib.hid (apart_call ot_57 Ot_25_sizes.out)
            have Dt_57_t_25_bans := Lib.hid (apart_call ot_57 Ot_25_bans.out)
            have Dt_57_t_29 := Lib.hid (apart_call ot_57 Ot_29.out)
            have Dt_57_t_33a := Lib.hid (apart_call ot_57 Ot_33a.out)
            have Dt_57_t_51_sizes := Lib.hid (apart_call ot_57 Ot_51_sizes.out)
            have Dt_57_t_51_bans := Lib.hid (apart_call ot_57 Ot_51_bans.out)
            have Dt_57_aT_0 := Lib.hid (apart_callbox ot_57 kaT_0_0__198)
            have Dt_57_x0_26 := Lib.hid (apart_callbox ot_57 kx0_26_0)
            have Ot_57 := Lib.hid (own_lower ot_57 HBwt_52.out.size)
            clear ot_57
            have HBwt_57 := Lib.hid (Below.step HBwt_52.out bt_57)
            replace kaT_0_0__198 := cell_below bt_57 kaT_0_0__198
            replace kaT_0_1__199 := cell_below bt_57 kaT_0_1__199
            replace kx0_26_0 := cell_below bt_57 kx0_26_0
            replace kx0_26_1 := cell_below bt_57 kx0_26_1
            replace Ot_15_sizes := Lib.hid (own_below Ot_15_sizes.out bt_57)
            replace Ot_15_bans := Lib.hid (own_below Ot_15_bans.out bt_57)
            replace Ot_17 := Lib.hid (own_below Ot_17.out bt_57)
            replace Ot_18a := Lib.hid (own_below Ot_18a.out bt_57)
            replace Ot_25_sizes := Lib.hid (own_below Ot_25_sizes.out bt_57)
            replace Ot_25_bans := Lib.hid (own_below Ot_25_bans.out bt_57)
            replace Ot_29 := Lib.hid (own_below Ot_29.out bt_57)
            replace Ot_33a := Lib.hid (own_below Ot_33a.out bt_57)
            replace Ot_51_sizes := Lib.hid (own_below Ot_51_sizes.out bt_57)
            replace Ot_51_bans := Lib.hid (own_below Ot_51_bans.out bt_57)
            clear bt_57
            replace H := bind_hid H
            obtain ⟨t_58, qt_58, H⟩ := H
            go_wp2_with fail
            go_at_call 21
            refine (Go.Proofs.Ytekacbjnpeglhaa.GlEqIntS.C (t_29) (t_57) At_29 ct_29 At_57 ct_57 _   (Lib.hid (own_cells Ot_29.out)) (Lib.hid (own_max Ot_29.out)) (Lib.hid (own_cells Ot_57.out)) (Lib.hid (own_max Ot_57.out)) qt_58).mono ?_
            rintro e_t_58 wt_58 ⟨rfl, bt_58⟩
            have HBwt_58 := Lib.hid (Below.step HBwt_57.out bt_58)
            replace kaT_0_0__198 := cell_below bt_58 kaT_0_0__198
            replace kaT_0_1__199 := cell_below bt_58 kaT_0_1__199
            replace kx0_26_0 := cell_below bt_58 kx0_26_0
            replace kx0_26_1 := cell_below bt_58 kx0_26_1
            replace Ot_15_sizes := Lib.hid (own_below Ot_15_sizes.out bt_58)
            replace Ot_15_bans := Lib.hid (own_below Ot_15_bans.out bt_58)
            replace Ot_17 := Lib.hid (own_below Ot_17.out bt_58)
            replace Ot_18a := Lib.hid (own_below Ot_18a.out bt_58)
            replace Ot_25_sizes := Lib.hid (own_below Ot_25_sizes.out bt_58)
            replace Ot_25_bans := Lib.hid (own_below Ot_25_bans.out bt_58)
            replace Ot_29 := Lib.hid (own_below Ot_29.out bt_58)
            replace Ot_33a := Lib.hid (own_below Ot_33a.out bt_58)
            replace Ot_51_sizes := Lib.hid (own_below Ot_51_sizes.out bt_58)
            replace Ot_51_bans := Lib.hid (own_below Ot_51_bans.out bt_58)
            replace Ot_57 := Lib.hid (own_below Ot_57.out bt_58)
            clear bt_58
            cases t_58 with
            | false =>
              replace H := let_hid H
              obtain ⟨t_59, ht_59, H⟩ := H
              obtain rfl : t_59 = true := ht_59.symm
              replace H := ite_t H
              obtain rfl := ret_hid H
              go_wp2_with fail
              go_ret
              exact ⟨rfl, HBwt_58.out⟩
            | true =>
              replace H := let_hid H
              obtain ⟨t_59, ht_59, H⟩ := H
              obtain rfl : t_59 = false := ht_59.symm
              replace H := ite_f H
              replace H := bind3_hid H
              obtain ⟨t_64, lt_64, mt_64, qt_64, H⟩ := H
              go_wp2_with fail
              go_at_call 26
              refine (Go.Proofs.Ytekacbjnpeglhaa.GlMarkKindTable.C (t_25_sizes) (t_25_bans) (1) At_25_sizes ct_25_sizes At_25_bans ct_25_bans w.heap.size _ Ot_25_sizes (Lib.hid (own_max Ot_25_sizes.out)) Ot_25_bans (Lib.hid (own_max Ot_25_bans.out)) (Lib.hid Dt_25_sizes_t_25_bans.out) qt_64).mono ?_
              rintro e_t_64 wt_64 ⟨rfl, ot_64, nt_64, pt_64, rt_64, gt_64⟩
              have Pt_64 := Lib.hid ot_64
              have Rt_64 := Lib.hid pt_64
              have Gt_64 := Lib.hid gt_64
              replace nt_64 := Lib.hid nt_64
              replace rt_64 := Lib.hid rt_64
              clear ot_64 pt_64 gt_64
              have HBwt_64 := Lib.hid (below2 HBwt_58.out Gt_64.out HBwt_58.out.size (own_ge2 Ot_25_sizes.out) (own_ge2 Ot_25_bans.out))
              replace kaT_0_0__198 := cell_other2 kaT_0_0__198 Gt_64.out Dt_25_sizes_aT_0.out Dt_25_bans_aT_0.out
              replace kaT_0_1__199 := cell_other2 kaT_0_1__199 Gt_64.out Dt_25_sizes_aT_0.out Dt_25_bans_aT_0.out
              replace kx0_26_0 := cell_other2 kx0_26_0 Gt_64.out (Apart.symm Dx0_26_t_25_sizes.out) (Apart.symm Dx0_26_t_25_bans.out)
              replace kx0_26_1 := cell_other2 kx0_26_1 Gt_64.out (Apart.symm Dx0_26_t_25_sizes.out) (Apart.symm Dx0_26_t_25_bans.out)
              replace Ot_15_sizes := Lib.hid (own_other2 Ot_15_sizes.out Gt_64.out Dt_25_sizes_t_15_sizes.out Dt_25_bans_t_15_sizes.out)
              replace Ot_15_bans := Lib.hid (own_other2 Ot_15_bans.out Gt_64.out Dt_25_sizes_t_15_bans.out Dt_25_bans_t_15_bans.out)
              replace Ot_17 := Lib.hid (own_other2 Ot_17.out Gt_64.out Dt_25_sizes_t_17.out Dt_25_bans_t_17.out)
              replace Ot_18a := Lib.hid (own_other2 Ot_18a.out Gt_64.out Dt_25_sizes_t_18a.out Dt_25_bans_t_18a.out)
              replace Ot_29 := Lib.hid (own_other2 Ot_29.out Gt_64.out (Apart.symm Dt_29_t_25_sizes.out) (Apart.symm Dt_29_t_25_bans.out))
              replace Ot_33a := Lib.hid (own_other2 Ot_33a.out Gt_64.out (Apart.symm Dt_33a_t_25_sizes.out) (Apart.symm Dt_33a_t_25_bans.out))
              replace Ot_51_sizes := Lib.hid (own_other2 Ot_51_sizes.out Gt_64.out (Apart.symm Dt_51_sizes_t_25_sizes.out) (Apart.symm Dt_51_sizes_t_25_bans.out))
              replace Ot_51_bans := Lib.hid (own_other2 Ot_51_bans.out Gt_64.out (Apart.symm Dt_51_bans_t_25_sizes.out) (Apart.symm Dt_51_bans_t_25_bans.out))
              replace Ot_57 := Lib.hid (own_other2 Ot_57.out Gt_64.out (Apart.symm Dt_57_t_25_sizes.out) (Apart.symm Dt_57_t_25_bans.out))
              clear Ot_25_sizes Ot_25_bans Gt_64
              replace H := bind2_hid H
              obtain ⟨t_68, lt_68, qt_68, H⟩ := H
              go_wp2_with fail
              go_at_call 27
              refine (Go.Proofs.Ytekacbjnpeglhaa.GlMarkIntS.C (t_29) (t_64) At_29 ct_29 w.heap.size _   Ot_29 (Lib.hid (own_max Ot_29.out))   qt_68).mono ?_
              rintro e_t_68 wt_68 ⟨rfl, ot_68, nt_68, gt_68⟩
              have Pt_68 := Lib.hid ot_68
              have Gt_68 := Lib.hid gt_68
              replace nt_68 := Lib.hid nt_68
              clear ot_68 gt_68
              have HBwt_68 := Lib.hid (HBwt_64.out.grown Gt_68.out HBwt_64.out.size (fun q hq => (Ot_29.out.lt q hq).1))
              replace kaT_0_0__198 := cell_other kaT_0_0__198 Gt_68.out Dt_29_aT_0.out
              replace kaT_0_1__199 := cell_other kaT_0_1__199 Gt_68.out Dt_29_aT_0.out
              replace kx0_26_0 := cell_other kx0_26_0 Gt_68.out Dt_29_x0_26.out
              replace kx0_26_1 := cell_other kx0_26_1 Gt_68.out Dt_29_x0_26.out
              replace Ot_15_sizes := Lib.hid (own_other Ot_15_sizes.out Gt_68.out Dt_29_t_15_sizes.out)
              replace Ot_15_bans := Lib.hid (own_other Ot_15_bans.out Gt_68.out Dt_29_t_15_bans.out)
              replace Ot_17 := Lib.hid (own_other Ot_17.out Gt_68.out Dt_29_t_17.out)
              replace Ot_18a := Lib.hid (own_other Ot_18a.out Gt_68.out Dt_29_t_18a.out)
              replace Pt_64 := Lib.hid (own_other Pt_64.out Gt_68.out Dt_29_t_25_sizes.out)
              replace Rt_64 := Lib.hid (own_other Rt_64.out Gt_68.out Dt_29_t_25_bans.out)
              replace Ot_33a := Lib.hid (own_other Ot_33a.out Gt_68.out (Apart.symm Dt_33a_t_29.out))
              replace Ot_51_sizes := Lib.hid (own_other Ot_51_sizes.out Gt_68.out (Apart.symm Dt_51_sizes_t_29.out))
              replace Ot_51_bans := Lib.hid (own_other Ot_51_bans.out Gt_68.out (Apart.symm Dt_51_bans_t_29.out))
              replace Ot_57 := Lib.hid (own_other Ot_57.out Gt_68.out (Apart.symm Dt_57_t_29.out))
              clear Ot_29 Gt_68
              replace H := let_hid H
              obtain ⟨t_71, ht_71, H⟩ := H
              replace H := join_hid H
              cases t_71 with
              | false =>
                replace H := ite_f H
                replace H := bind_hid H
                obtain ⟨t_75, qt_75, H⟩ := H
                go_wp2_with fail
                go_at_call 21
                refine (Go.Proofs.Ytekacbjnpeglhaa.GlEqIntS.C (t_33a) (t_18a) At_33a ct_33a At_18a ct_18a _   (Lib.hid (own_cells Ot_33a.out)) (Lib.hid (own_max Ot_33a.out)) (Lib.hid (own_cells Ot_18a.out)) (Lib.hid (own_max Ot_18a.out)) qt_75).mono ?_
                rintro e_t_75 wt_75 ⟨rfl, bt_75⟩
                have HBwt_75 := Lib.hid (Below.step HBwt_68.out bt_75)
                replace kaT_0_0__198 := cell_below bt_75 kaT_0_0__198
                replace kaT_0_1__199 := cell_below bt_75 kaT_0_1__199
                replace kx0_26_0 := cell_below bt_75 kx0_26_0
                replace kx0_26_1 := cell_below bt_75 kx0_26_1
                replace Ot_15_sizes := Lib.hid (own_below Ot_15_sizes.out bt_75)
                replace Ot_15_bans := Lib.hid (own_below Ot_15_bans.out bt_75)
                replace Ot_17 := Lib.hid (own_below Ot_17.out bt_75)
                replace Ot_18a := Lib.hid (own_below Ot_18a.out bt_75)
                replace Pt_64 := Lib.hid (own_below Pt_64.out bt_75)
                replace Rt_64 := Lib.hid (own_below Rt_64.out bt_75)
                replace Pt_68 := Lib.hid (own_below Pt_68.out bt_75)
                replace Ot_33a := Lib.hid (own_below Ot_33a.out bt_75)
                replace Ot_51_sizes := Lib.hid (own_below Ot_51_sizes.out bt_75)
                replace Ot_51_bans := Lib.hid (own_below Ot_51_bans.out bt_75)
                replace Ot_57 := Lib.hid (own_below Ot_57.out bt_75)
                clear bt_75
                cases t_75 with
                | false =>
                  replace H := let_hid H
                  obtain ⟨t_76, ht_76, H⟩ := H
                  obtain rfl : t_76 = true := ht_76.symm
                  replace H := app_hid H
                  replace H := join_hid H
                  replace H := ite_t H
                  replace H := app_hid H
                  replace H := ite_t H
                  obtain rfl := ret_hid H
                  go_wp2_with fail
                  go_ret
                  exact ⟨rfl, HBwt_75.out⟩
                | true =>
                  replace H := let_hid H
                  obtain ⟨t_76, ht_76, H⟩ := H
                  obtain rfl : t_76 = false := ht_76.symm
                  replace H := app_hid H
                  replace H := join_hid H
                  replace H := ite_f H
                  replace H := let_hid H
                  obtain ⟨t_81, ht_81, H⟩ := H
                  obtain rfl := ht_46.symm.trans ht_81
                  replace H := app_hid H
                  replace H := ite_f H
                  replace H := bind2_hid H
                  obtain ⟨t_87, lt_87, qt_87, H⟩ := H
                  go_wp2_with fail
                  go_at_call 27
                  refine (Go.Proofs.Ytekacbjnpeglhaa.GlMarkIntS.C (t_33a) (1) At_33a ct_33a w.heap.size _   Ot_33a (Lib.hid (own_max Ot_33a.out))   qt_87).mono ?_
                  rintro e_t_87 wt_87 ⟨rfl, ot_87, nt_87, gt_87⟩
                  have Pt_87 := Lib.hid ot_87
                  have Gt_87 := Lib.hid gt_87
                  replace nt_87 := Lib.hid nt_87
                  clear ot_87 gt_87
                  have HBwt_87 := Lib.hid (HBwt_75.out.grown Gt_87.out HBwt_75.out.size (fun q hq => (Ot_33a.out.lt q hq).1))
                  replace kaT_0_0__198 := cell_other kaT_0_0__198 Gt_87.out Dt_33a_aT_0.out
                  replace kaT_0_1__199 := cell_other kaT_0_1__199 Gt_87.out Dt_33a_aT_0.out
                  replace kx0_26_0 := cell_other kx0_26_0 Gt_87.out Dt_33a_x0_26.out
                  replace kx0_26_1 := cell_other kx0_26_1 Gt_87.out Dt_33a_x0_26.out
                  replace Ot_15_sizes := Lib.hid (own_other Ot_15_sizes.out Gt_87.out Dt_33a_t_15_sizes.out)
                  replace Ot_15_bans := Lib.hid (own_other Ot_15_bans.out Gt_87.out Dt_33a_t_15_bans.out)
                  replace Ot_17 := Lib.hid (own_other Ot_17.out Gt_87.out Dt_33a_t_17.out)
                  replace Ot_18a := Lib.hid (own_other Ot_18a.out Gt_87.out Dt_33a_t_18a.out)
                  replace Pt_64 := Lib.hid (own_other Pt_64.out Gt_87.out Dt_33a_t_25_sizes.out)
                  replace Rt_64 := Lib.hid (own_other Rt_64.out Gt_87.out Dt_33a_t_25_bans.out)
                  replace Pt_68 := Lib.hid (own_other Pt_68.out Gt_87.out Dt_33a_t_29.out)
                  replace Ot_51_sizes := Lib.hid (own_other Ot_51_sizes.out Gt_87.out (Apart.symm Dt_51_sizes_t_33a.out))
                  replace Ot_51_bans := Lib.hid (own_other Ot_51_bans.out Gt_87.out (Apart.symm Dt_51_bans_t_33a.out))
                  replace Ot_57 := Lib.hid (own_other Ot_57.out Gt_87.out (Apart.symm Dt_57_t_33a.out))
                  clear Ot_33a Gt_87
                  replace H := bind_hid H
                  obtain ⟨t_92, qt_92, H⟩ := H
                  go_wp2_with fail
                  have hc_ := nt_87.out
                  have hv_ : (Value.slice At_33a t_33a.length ct_33a : Value) = Value.slice At_33a lt_87.length ct_33a := by rw [hc_]
                  try rw [hv_]
                  replace Pt_87 := Lib.hid (own_len hc_ Pt_87.out)
                  clear hc_ hv_
                  go_wp2_with fail
                  go_at_call 28
                  refine (Go.Proofs.Ytekacbjnpeglhaa.GlHeldIntS.C (lt_87) (1) At_33a ct_33a _   (Lib.hid (own_cells Pt_87.out)) (Lib.hid (own_max Pt_87.out)) qt_92).mono ?_
                  rintro e_t_92 wt_92 ⟨rfl, bt_92⟩
                  have HBwt_92 := Lib.hid (Below.step HBwt_87.out bt_92)
                  replace kaT_0_0__198 := cell_below bt_92 kaT_0_0__198
                  replace kaT_0_1__199 := cell_below bt_92 kaT_0_1__199
                  replace kx0_26_0 := cell_below bt_92 kx0_26_0
                  replace kx0_26_1 := cell_below bt_92 kx0_26_1
                  replace Ot_15_sizes := Lib.hid (own_below Ot_15_sizes.out bt_92)
                  replace Ot_15_bans := Lib.hid (own_below Ot_15_bans.out bt_92)
                  replace Ot_17 := Lib.hid (own_below Ot_17.out bt_92)
                  replace Ot_18a := Lib.hid (own_below Ot_18a.out bt_92)
                  replace Pt_64 := Lib.hid (own_below Pt_64.out bt_92)
                  replace Rt_64 := Lib.hid (own_below Rt_64.out bt_92)
                  replace Pt_68 := Lib.hid (own_below Pt_68.out bt_92)
                  replace Pt_87 := Lib.hid (own_below Pt_87.out bt_92)
                  replace Ot_51_sizes := Lib.hid (own_below Ot_51_sizes.out bt_92)
                  replace Ot_51_bans := Lib.hid (own_below Ot_51_bans.out bt_92)
                  replace Ot_57 := Lib.hid (own_below Ot_57.out bt_92)
                  clear bt_92
                  replace H := let_hid H
                  obtain ⟨t_95, ht_95, H⟩ := H
                  cases t_95 with
                  | false =>
                    replace H := ite_f H
                    replace H := let_hid H
                    obtain ⟨t_99, ht_99, H⟩ := H
                    cases t_99 with
                    | false =>
                      replace H := ite_f H
                      replace H := bind_hid H
                      obtain ⟨t_102, qt_102, H⟩ := H
                      obtain ⟨t_102_sizes, t_102_bans⟩ := t_102
                      replace H := unKindTable_hid H
                      go_wp2_with fail
                      go_at_call 15
                      refine (Go.Proofs.Ytekacbjnpeglhaa.GlToKindTable.C (aT_sizes) (aT_bans) A0_0 c0_0 A0_1 c0_1 _   (Lib.hid (Cells.below M0_0.out HBwt_92.out)) N0_0 (Lib.hid (Cells.below M0_1.out HBwt_92.out)) N0_1 qt_102).mono ?_
                      rintro e_t_102 wt_102 ⟨At_102_sizes, ct_102_sizes, At_102_bans, ct_102_bans, rfl, ot_102_sizes, ot_102_bans, d0_1, bt_102⟩
                      have Dt_102_sizes_t_15_sizes := Lib.hid (apart_call ot_102_sizes Ot_15_sizes.out)
                      have Dt_102_sizes_t_15_bans := Lib.hid (apart_call ot_102_sizes Ot_15_bans.out)
                      have Dt_102_sizes_t_17 := Lib.hid (apart_call ot_102_sizes Ot_17.out)
                      have Dt_102_sizes_t_18a := Lib.hid (apart_call ot_102_sizes Ot_18a.out)
                      have Dt_102_sizes_t_25_sizes := Lib.hid (apart_call ot_102_sizes Pt_64.out)
                      have Dt_102_sizes_t_25_bans := Lib.hid (apart_call ot_102_sizes Rt_64.out)
                      have Dt_102_sizes_t_29 := Lib.hid (apart_call ot_102_sizes Pt_68.out)
                      have Dt_102_sizes_t_33a := Lib.hid (apart_call ot_102_sizes Pt_87.out)
                      have Dt_102_sizes_t_51_sizes := Lib.hid (apart_call ot_102_sizes Ot_51_sizes.out)
                      have Dt_102_sizes_t_51_bans := Lib.hid (apart_call ot_102_sizes Ot_51_bans.out)
                      have Dt_102_sizes_t_57 := Lib.hid (apart_call ot_102_sizes Ot_57.out)
                      have Dt_102_sizes_aT_0 := Lib.hid (apart_callbox ot_102_sizes kaT_0_0__198)
                      have Dt_102_sizes_x0_26 := Lib.hid (apart_callbox ot_102_sizes kx0_26_0)
                      have Dt_102_bans_t_15_sizes := Lib.hid (apart_call ot_102_bans Ot_15_sizes.out)
                      have Dt_102_bans_t_15_bans := Lib.hid (apart_call ot_102_bans Ot_15_bans.out)
                      have Dt_102_bans_t_17 := Lib.hid (apart_call ot_102_bans Ot_17.out)
                      have Dt_102_bans_t_18a := Lib.hid (apart_call ot_102_bans Ot_18a.out)
                      have Dt_102_bans_t_25_sizes := Lib.hid (apart_call ot_102_bans Pt_64.out)
                      have Dt_102_bans_t_25_bans := Lib.hid (apart_call ot_102_bans Rt_64.out)
                      have Dt_102_bans_t_29 := Lib.hid (apart_call ot_102_bans Pt_68.out)
                      have Dt_102_bans_t_33a := Lib.hid (apart_call ot_102_bans Pt_87.out)
                      have Dt_102_bans_t_51_sizes := Lib.hid (apart_call ot_102_bans Ot_51_sizes.out)
                      have Dt_102_bans_t_51_bans := Lib.hid (apart_call ot_102_bans Ot_51_bans.out)
                      have Dt_102_bans_t_57 := Lib.hid (apart_call ot_102_bans Ot_57.out)
                      have Dt_102_bans_aT_0 := Lib.hid (apart_callbox ot_102_bans kaT_0_0__198)
                      have Dt_102_bans_x0_26 := Lib.hid (apart_callbox ot_102_bans kx0_26_0)
                      have Dt_102_sizes_t_102_bans := Lib.hid d0_1
                      have Ot_102_sizes := Lib.hid (own_lower ot_102_sizes HBwt_92.out.size)
                      clear ot_102_sizes
                      have Ot_102_bans := Lib.hid (own_lower ot_102_bans HBwt_92.out.size)
                      clear ot_102_bans
                      have HBwt_102 := Lib.hid (Below.step HBwt_92.out bt_102)
                      replace kaT_0_0__198 := cell_below bt_102 kaT_0_0__198
                      replace kaT_0_1__199 := cell_below bt_102 kaT_0_1__199
                      replace kx0_26_0 := cell_below bt_102 kx0_26_0
                      replace kx0_26_1 := cell_below bt_102 kx0_26_1
                      replace Ot_15_sizes := Lib.hid (own_below Ot_15_sizes.out bt_102)
                      replace Ot_15_bans := Lib.hid (own_below Ot_15_bans.out bt_102)
                      replace Ot_17 := Lib.hid (own_below Ot_17.out bt_102)
                      replace Ot_18a := Lib.hid (own_below Ot_18a.out bt_102)
                      replace Pt_64 := Lib.hid (own_below Pt_64.out bt_102)
                      replace Rt_64 := Lib.hid (own_below Rt_64.out bt_102)
                      replace Pt_68 := Lib.hid (own_below Pt_68.out bt_102)
                      replace Pt_87 := Lib.hid (own_below Pt_87.out bt_102)
                      replace Ot_51_sizes := Lib.hid (own_below Ot_51_sizes.out bt_102)
                      replace Ot_51_bans := Lib.hid (own_below Ot_51_bans.out bt_102)
                      replace Ot_57 := Lib.hid (own_below Ot_57.out bt_102)
                      clear bt_102
                      replace H := bind_hid H
                      obtain ⟨t_104, qt_104, H⟩ := H
                      go_wp2_with fail
                      go_at_call 19
                      refine (Go.Proofs.Ytekacbjnpeglhaa.GlToIntS.C (aKind) A1 c1 _   (Lib.hid (Cells.below M1.out HBwt_102.out)) N1 qt_104).mono ?_
                      rintro e_t_104 wt_104 ⟨At_104, ct_104, rfl, ot_104, bt_104⟩
                      have Dt_104_t_15_sizes := Lib.hid (apart_call ot_104 Ot_15_sizes.out)
                      have Dt_104_t_15_bans := Lib.hid (apart_call ot_104 Ot_15_bans.out)
                      have Dt_104_t_17 := Lib.hid (apart_call ot_104 Ot_17.out)
                      have Dt_104_t_18a := Lib.hid (apart_call ot_104 Ot_18a.out)
                      have Dt_104_t_25_sizes := Lib.hid (apart_call ot_104 Pt_64.out)
                      have Dt_104_t_25_bans := Lib.hid (apart_call ot_104 Rt_64.out)
                      have Dt_104_t_29 := Lib.hid (apart_call ot_104 Pt_68.out)
                      have Dt_104_t_33a := Lib.hid (apart_call ot_104 Pt_87.out)
                      have Dt_104_t_51_sizes := Lib.hid (apart_call ot_104 Ot_51_sizes.out)
                      have Dt_104_t_51_bans := Lib.hid (apart_call ot_104 Ot_51_bans.out)
                      have Dt_104_t_57 := Lib.hid (apart_call ot_104 Ot_57.out)
                      have Dt_104_t_102_sizes := Lib.hid (apart_call ot_104 Ot_102_sizes.out)
                      have Dt_104_t_102_bans := Lib.hid (apart_call ot_104 Ot_102_bans.out)
                      have Dt_104_aT_0 := Lib.hid (apart_callbox ot_104 kaT_0_0__198)
                      have Dt_104_x0_26 := Lib.hid (apart_callbox ot_104 kx0_26_0)
                      have Ot_104 := Lib.hid (own_lower ot_104 HBwt_102.out.size)
                      clear ot_104
                      have HBwt_104 := Lib.hid (Below.step HBwt_102.out bt_104)
                      replace kaT_0_0__198 := cell_below bt_104 kaT_0_0__198
                      replace kaT_0_1__199 := cell_below bt_104 kaT_0_1__199
                      replace kx0_26_0 := cell_below bt_104 kx0_26_0
                      replace kx0_26_1 := cell_below bt_104 kx0_26_1
                      replace Ot_15_sizes := Lib.hid (own_below Ot_15_sizes.out bt_104)
                      replace Ot_15_bans := Lib.hid (own_below Ot_15_bans.out bt_104)
                      replace Ot_17 := Lib.hid (own_below Ot_17.out bt_104)
                      replace Ot_18a := Lib.hid (own_below Ot_18a.out bt_104)
                      replace Pt_64 := Lib.hid (own_below Pt_64.out bt_104)
                      replace Rt_64 := Lib.hid (own_below Rt_64.out bt_104)
                      replace Pt_68 := Lib.hid (own_below Pt_68.out bt_104)
                      replace Pt_87 := Lib.hid (own_below Pt_87.out bt_104)
                      replace Ot_51_sizes := Lib.hid (own_below Ot_51_sizes.out bt_104)
                      replace Ot_51_bans := Lib.hid (own_below Ot_51_bans.out bt_104)
                      replace Ot_57 := Lib.hid (own_below Ot_57.out bt_104)
                      replace Ot_102_sizes := Lib.hid (own_below Ot_102_sizes.out bt_104)
                      replace Ot_102_bans := Lib.hid (own_below Ot_102_bans.out bt_104)
                      clear bt_104
                      replace H := bind2_hid H
                      obtain ⟨t_105a, t_105b, qt_105, H⟩ := H
                      go_wp2_with fail
                      go_at_call 30
                      refine (Go.Proofs.Ytekacbjnpeglhaa.GiNextKind.C fuel (t_102_sizes) (t_102_bans) (t_104) At_102_sizes ct_102_sizes At_102_bans ct_102_bans At_104 ct_104 _   (Lib.hid (own_cells Ot_102_sizes.out)) (Lib.hid (own_max Ot_102_sizes.out)) (Lib.hid (own_room Ot_102_sizes.out)) (Lib.hid (own_cells Ot_102_bans.out)) (Lib.hid (own_max Ot_102_bans.out)) (Lib.hid (own_room Ot_102_bans.out)) (Lib.hid (own_cells Ot_104.out)) (Lib.hid (own_max Ot_104.out)) (Lib.hid (own_room Ot_104.out)) qt_105).mono ?_
                      rintro e_t_105 wt_105 ⟨At_105a, ct_105a, rfl, ot_105a, bt_105⟩
                      have Dt_105a_t_15_sizes := Lib.hid (apart_call ot_105a Ot_15_sizes.out)
                      have Dt_105a_t_15_bans := Lib.hid (apart_call ot_105a Ot_15_bans.out)
                      have Dt_105a_t_17 := Lib.hid (apart_call ot_105a Ot_17.out)
                      have Dt_105a_t_18a := Lib.hid (apart_call ot_105a Ot_18a.out)
                      have Dt_105a_t_25_sizes := Lib.hid (apart_call ot_105a Pt_64.out)
                      have Dt_105a_t_25_bans := Lib.hid (apart_call ot_105a Rt_64.out)
                      have Dt_105a_t_29 := Lib.hid (apart_call ot_105a Pt_68.out)
                      have Dt_105a_t_33a := Lib.hid (apart_call ot_105a Pt_87.out)
                      have Dt_105a_t_51_sizes := Lib.hid (apart_call ot_105a Ot_51_sizes.out)
                      have Dt_105a_t_51_bans := Lib.hid (apart_call ot_105a Ot_51_bans.out)
                      have Dt_105a_t_57 := Lib.hid (apart_call ot_105a Ot_57.out)
                      have Dt_105a_t_102_sizes := Lib.hid (apart_call ot_105a Ot_102_sizes.out)
                      have Dt_105a_t_102_bans := Lib.hid (apart_call ot_105a Ot_102_bans.out)
                      have Dt_105a_t_104 := Lib.hid (apart_call ot_105a Ot_104.out)
                      have Dt_105a_aT_0 := Lib.hid (apart_callbox ot_105a kaT_0_0__198)
                      have Dt_105a_x0_26 := Lib.hid (apart_callbox ot_105a kx0_26_0)
                      have Ot_105a := Lib.hid (own_lower ot_105a HBwt_104.out.size)
                      clear ot_105a
                      have HBwt_105 := Lib.hid (Below.step HBwt_104.out bt_105)
                      replace kaT_0_0__198 := cell_below bt_105 kaT_0_0__198
                      replace kaT_0_1__199 := cell_below bt_105 kaT_0_1__199
                      replace kx0_26_0 := cell_below bt_105 kx0_26_0
                      replace kx0_26_1 := cell_below bt_105 kx0_26_1
                      replace Ot_15_sizes := Lib.hid (own_below Ot_15_sizes.out bt_105)
                      replace Ot_15_bans := Lib.hid (own_below Ot_15_bans.out bt_105)
                      replace Ot_17 := Lib.hid (own_below Ot_17.out bt_105)
                      replace Ot_18a := Lib.hid (own_below Ot_18a.out bt_105)
                      replace Pt_64 := Lib.hid (own_below Pt_64.out bt_105)
                      replace Rt_64 := Lib.hid (own_below Rt_64.out bt_105)
                      replace Pt_68 := Lib.hid (own_below Pt_68.out bt_105)
                      replace Pt_87 := Lib.hid (own_below Pt_87.out bt_105)
                      replace Ot_51_sizes := Lib.hid (own_below Ot_51_sizes.out bt_105)
                      replace Ot_51_bans := Lib.hid (own_below Ot_51_bans.out bt_105)
                      replace Ot_57 := Lib.hid (own_below Ot_57.out bt_105)
                      replace Ot_102_sizes := Lib.hid (own_below Ot_102_sizes.out bt_105)
                      replace Ot_102_bans := Lib.hid (own_below Ot_102_bans.out bt_105)
                      replace Ot_104 := Lib.hid (own_below Ot_104.out bt_105)
                      clear bt_105
                      replace H := bind_hid H
                      obtain ⟨t_113, qt_113, H⟩ := H
                      go_wp2_with fail
                      go_at_call 21
                      refine (Go.Proofs.Ytekacbjnpeglhaa.GlEqIntS.C (t_105a) (t_18a) At_105a ct_105a At_18a ct_18a _   (Lib.hid (own_cells Ot_105a.out)) (Lib.hid (own_max Ot_105a.out)) (Lib.hid (own_cells Ot_18a.out)) (Lib.hid (own_max Ot_18a.out)) qt_113).mono ?_
                      rintro e_t_113 wt_113 ⟨rfl, bt_113⟩
                      have HBwt_113 := Lib.hid (Below.step HBwt_105.out bt_113)
                      replace kaT_0_0__198 := cell_below bt_113 kaT_0_0__198
                      replace kaT_0_1__199 := cell_below bt_113 kaT_0_1__199
                      replace kx0_26_0 := cell_below bt_113 kx0_26_0
                      replace kx0_26_1 := cell_below bt_113 kx0_26_1
                      replace Ot_15_sizes := Lib.hid (own_below Ot_15_sizes.out bt_113)
                      replace Ot_15_bans := Lib.hid (own_below Ot_15_bans.out bt_113)
                      replace Ot_17 := Lib.hid (own_below Ot_17.out bt_113)
                      replace Ot_18a := Lib.hid (own_below Ot_18a.out bt_113)
                      replace Pt_64 := Lib.hid (own_below Pt_64.out bt_113)
                      replace Rt_64 := Lib.hid (own_below Rt_64.out bt_113)
                      replace Pt_68 := Lib.hid (own_below Pt_68.out bt_113)
                      replace Pt_87 := Lib.hid (own_below Pt_87.out bt_113)
                      replace Ot_51_sizes := Lib.hid (own_below Ot_51_sizes.out bt_113)
                      replace Ot_51_bans := Lib.hid (own_below Ot_51_bans.out bt_113)
                      replace Ot_57 := Lib.hid (own_below Ot_57.out bt_113)
                      replace Ot_102_sizes := Lib.hid (own_below Ot_102_sizes.out bt_113)
                      replace Ot_102_bans := Lib.hid (own_below Ot_102_bans.out bt_113)
                      replace Ot_104 := Lib.hid (own_below Ot_104.out bt_113)
                      replace Ot_105a := Lib.hid (own_below Ot_105a.out bt_113)
                      clear bt_113
                      cases t_113 with
                      | false =>
                        replace H := let_hid H
                        obtain ⟨t_114, ht_114, H⟩ := H
                        obtain rfl : t_114 = true := ht_114.symm
                        replace H := join_hid H
                        replace H := ite_t H
                        replace H := app_hid H
                        replace H := ite_t H
                        obtain rfl := ret_hid H
                        go_wp2_with fail
                        go_ret
                        exact ⟨rfl, HBwt_113.out⟩
                      | true =>
                        replace H := let_hid H
                        obtain ⟨t_114, ht_114, H⟩ := H
                        obtain rfl : t_114 = false := ht_114.symm
                        replace H := join_hid H
                        replace H := ite_f H
                        replace H := let_hid H
                        obtain ⟨t_118, ht_118, H⟩ := H
                        replace H := app_hid H
                        cases t_118 with
                        | false =>
                          replace H := ite_f H
                          replace H := bind_hid H
                          obtain ⟨t_124, qt_124, H⟩ := H
                          go_wp2_with fail
                          go_at_call 28
                          refine (Go.Proofs.Ytekacbjnpeglhaa.GlHeldIntS.C (lt_87) (1) At_33a ct_33a _   (Lib.hid (own_cells Pt_87.out)) (Lib.hid (own_max Pt_87.out)) qt_124).mono ?_
                          rintro e_t_124 wt_124 ⟨rfl, bt_124⟩
                          have HBwt_124 := Lib.hid (Below.step HBwt_113.out bt_124)
                          replace kaT_0_0__198 := cell_below bt_124 kaT_0_0__198
                          replace kaT_0_1__199 := cell_below bt_124 kaT_0_1__199
                          replace kx0_26_0 := cell_below bt_124 kx0_26_0
                          replace kx0_26_1 := cell_below bt_124 kx0_26_1
                          replace Ot_15_sizes := Lib.hid (own_below Ot_15_sizes.out bt_124)
                          replace Ot_15_bans := Lib.hid (own_below Ot_15_bans.out bt_124)
                          replace Ot_17 := Lib.hid (own_below Ot_17.out bt_124)
                          replace Ot_18a := Lib.hid (own_below Ot_18a.out bt_124)
                          replace Pt_64 := Lib.hid (own_below Pt_64.out bt_124)
                          replace Rt_64 := Lib.hid (own_below Rt_64.out bt_124)
                          replace Pt_68 := Lib.hid (own_below Pt_68.out bt_124)
                          replace Pt_87 := Lib.hid (own_below Pt_87.out bt_124)
                          replace Ot_51_sizes := Lib.hid (own_below Ot_51_sizes.out bt_124)
                          replace Ot_51_bans := Lib.hid (own_below Ot_51_bans.out bt_124)
                          replace Ot_57 := Lib.hid (own_below Ot_57.out bt_124)
                          replace Ot_102_sizes := Lib.hid (own_below Ot_102_sizes.out bt_124)
                          replace Ot_102_bans := Lib.hid (own_below Ot_102_bans.out bt_124)
                          replace Ot_104 := Lib.hid (own_below Ot_104.out bt_124)
                          replace Ot_105a := Lib.hid (own_below Ot_105a.out bt_124)
                          clear bt_124
                          replace H := let_hid H
                          obtain ⟨t_127, ht_127, H⟩ := H
                          cases t_127 with
                          | false =>
                            replace H := ite_f H
                            replace H := let_hid H
                            obtain ⟨t_131, ht_131, H⟩ := H
                            cases t_131 with
                            | false =>
                              replace H := ite_f H
                              obtain rfl := ret_hid H
                              go_wp2_with fail
                              go_ret
                              exact ⟨rfl, HBwt_124.out⟩
                            | true =>
                              replace H := ite_t H
                              obtain rfl := ret_hid H
                              go_wp2_with fail
                              go_ret
                              exact ⟨rfl, HBwt_124.out⟩
                          | true =>
                            replace H := ite_t H
                            obtain rfl := ret_hid H
                            go_wp2_with fail
                            go_ret
                            exact ⟨rfl, HBwt_124.out⟩
                        | true =>
                          replace H := ite_t H
                          obtain rfl := ret_hid H
                          go_wp2_with fail
                          go_ret
                          exact ⟨rfl, HBwt_113.out⟩
                    | true =>
                      replace H := ite_t H
                      obtain rfl := ret_hid H
                      go_wp2_with fail
                      go_ret
                      exact ⟨rfl, HBwt_92.out⟩
                  | true =>
                    replace H := ite_t H
                    obtain rfl := ret_hid H
                    go_wp2_with fail
                    go_ret
                    exact ⟨rfl, HBwt_92.out⟩
              | true =>
                replace H := ite_t H
                replace H := app_hid H
                replace H := join_hid H
                replace H := ite_t H
                replace H := app_hid H
                replace H := ite_t H
                obtain rfl := ret_hid H
                go_wp2_with fail
                go_ret
                exact ⟨rfl, HBwt_68.out⟩
        | true =>
          replace H := ite_t H
          obtain rfl := ret_hid H
          go_wp2_with fail
          go_ret
          exact ⟨rfl, HBwt_41.out⟩
    | true =>
      replace H := ite_t H
      obtain rfl := ret_hid H
      go_wp2_with fail
      go_ret
      exact ⟨rfl, HBwt_9.out⟩
  | true =>
    have nht_4 : 1048576 < aKind.length := by have := of_decide_eq_true ht_4; omega
    replace H := ite_t H
    obtain rfl := ret_hid H
    go_wp2_with fail
    go_ret
    exact ⟨rfl, HBw_aT_0.out⟩
end Go.Proofs.Ytekacbjnpeglhaa.GlFnExactNextKind

/- Words for a list of ints that is built by appends into memory of its own, and for the answer '([]int, bool)'. No condition. -/
namespace Go.Proofs.Ytekacbjnpeglhaa.OutInt
set_option linter.unusedVariables false
open Go.RowKit
open Go.Proofs.Ytekacbjnpeglhaa.Rowed Go.Proofs.Ytekacbjnpeglhaa.HelpInt

/-- 'A' holds the list r in memory that was not there in w; nothing that was there has turned -/
structure Keeps (w : World) (A : Option Addr) (c : Nat) (r : List Int) (wr : World) : Prop where
  own : wr.ownsRow w.heap.size 3 1 (.slice A r.length c) r.length (iv r)
  bel : Below w.heap.size w wr
theorem Keeps.start {w wr : World} (hb : Below w.heap.size w wr) : Keeps w (some ⟨wr.heap.size, 0, none⟩) 0 [] (wr.alloc (.cells #[] 3)) :=
  ⟨⟨rfl, .inr ⟨wr.heap.size, 0, #[], rfl, hb.size, heap_alloc_new wr _, Nat.le_refl _, by unfold maxLen; omega, rfl, rfl⟩⟩, hb.alloc hb.size _⟩
theorem Keeps.next {w wr w1 : World} {A : Option Addr} {c : Nat} {r : List Int} (h : Keeps w A c r wr) (hb : Below wr.heap.size wr w1) : Keeps w A c r w1 :=
  ⟨own_below h.own hb, Below.step h.bel hb⟩
theorem Keeps.alloc {w wr : World} {A : Option Addr} {c : Nat} {r : List Int} (h : Keeps w A c r wr) (o : Obj) : Keeps w A c r (wr.alloc o) := h.next ((Below.refl _ _).alloc (Nat.le_refl _) o)
theorem Keeps.push {w wX w3 : World} {A : Option Addr} {c : Nat} {r : List Int} {v' : Value} {x : Int} (h : Keeps w A c r wX)
    (hown : w3.ownsRow w.heap.size 3 1 v' (r.length + 1) (iv r ++ [.int .i64 x])) (hg : wX.grownBy w3 (Value.slice A r.length c).ownBlock) :
    ∃ g cap, v' = .slice (some ⟨g, 0, none⟩) (r ++ [x]).length cap ∧ Keeps w (some ⟨g, 0, none⟩) cap (r ++ [x]) w3 := by
  have el : (r ++ [x]).length = r.length + 1 := by simp
  obtain ⟨g, cap, rfl⟩ : ∃ g cap, v' = .slice (some ⟨g, 0, none⟩) (r.length + 1) cap := by
    rcases hown.2 with ⟨_, h⟩ | ⟨g3, cap3, _, h, _⟩
    · omega
    · exact ⟨g3, cap3, h⟩
  refine ⟨g, cap, by rw [el], ?_, ?_⟩
  · rw [el, iv_snoc]; exact hown
  · exact h.bel.grown hg h.bel.size (fun q hq => (h.own.lt q hq).1)
theorem own_lower {w : World} {b base n size : Nat} {v : Value} {e : TypeId} {xs : List Value} (h : w.ownsRow base e size v n xs) (hb : b ≤ base) : w.ownsRow b e size v n xs :=
  ⟨h.1, by
    rcases h.2 with h0 | ⟨g, cap, cur, hv, hb', rest⟩
    · exact .inl h0
    · exact .inr ⟨g, cap, cur, hv, Nat.le_trans hb hb', rest⟩⟩
theorem Keeps.lower {w w2 wr : World} {A : Option Addr} {c : Nat} {r : List Int} (h : Keeps w2 A c r wr) (hb : Below w.heap.size w w2) : Keeps w A c r wr :=
  ⟨own_lower h.own hb.size, Below.step hb h.bel⟩
theorem infoI : (Try.prog.info? 3).map (fun i => (i.zero, i.size, i.bytes)) = some (some (.int .i64 0), 1, 8) := by kernel_rfl
theorem info_parts {P : Program} {T : TypeId} {z : Value} {s b : Nat} (h : (P.info? T).map (fun i => (i.zero, i.size, i.bytes)) = some (some z, s, b)) : ∃ i, P.info? T = some i ∧ i.zero = some z ∧ i.size = s ∧ i.bytes = b := by
  cases hi : P.info? T with
  | none => rw [hi] at h; simp at h
  | some i => rw [hi] at h; simp at h; exact ⟨i, rfl, h.1, h.2.1, h.2.2⟩
theorem cell_one_at {w : World} {v : Value} {e : TypeId} {g : Nat} (hg : g = w.heap.size) : ∀ j u, [v][j]? = some u → (w.alloc (.cells #[v] e)).cell? ((⟨g, 0, none⟩ : Addr).add j) = some u := fun j u hj => by
  subst hg; exact cell_one_new w v e j u hj

/-- the answer: a list in memory of its own, and whether it is one -/
def OutPost : List Int × Bool → World → Ending → World → Prop
  | (r, b), w, e, w' => ∃ A c, e = .returned (.tuple #[.slice A r.length c, .bool b]) ∧ Keeps w A c r w'
/-- the answer with a number -/
def OutNPost : List Int × Int × Bool → World → Ending → World → Prop
  | (r, n, b), w, e, w' => ∃ A c, e = .returned (.tuple #[.slice A r.length c, .int .i64 n, .bool b]) ∧ Keeps w A c r w'
end Go.Proofs.Ytekacbjnpeglhaa.OutInt

/- The contracts of the laws' helpers toIntS and szIntS. Condition: the slice reads as a list of ints. -/
namespace Go.Proofs.Ytekacbjnpeglhaa.RInt
set_option linter.unusedVariables false
open Go.RowKit
open Go.Proofs.Ytekacbjnpeglhaa.Rowed Go.Proofs.Ytekacbjnpeglhaa.HelpInt

theorem infoI : (Try.prog.info? 3).map (fun i => (i.zero, i.size, i.bytes)) = some (some (.int .i64 0), 1, 8) := by kernel_rfl
theorem info_parts {P : Program} {T : TypeId} {z : Value} {s b : Nat} (h : (P.info? T).map (fun i => (i.zero, i.size, i.bytes)) = some (some z, s, b)) : ∃ i, P.info? T = some i ∧ i.zero = some z ∧ i.size = s ∧ i.bytes = b := Aid.info_parts h
theorem sz_neg (A : Option Addr) (n c left : Nat) (w : World) (h : left < n) (hl : left ≤ 1048576) (hn : n ≤ 9223372036854775807) :
    Calls Try.prog 51 #[.slice A n c, .int .i64 left] w fun e w' => e = .returned (.int .i64 (-1)) ∧ w = w' := by
  go_enter Try.func51, Try.ntmps51
  go_wp2
  go_ret
  exact ⟨rfl, rfl⟩
theorem sz_pos (A : Option Addr) (n c left : Nat) (w : World) (h : n ≤ left) (hl : left ≤ 1048576) :
    Calls Try.prog 51 #[.slice A n c, .int .i64 left] w fun e w' => e = .returned (.int .i64 ((left - n : Nat) : Int)) ∧ w = w' := by
  have e : ((left - n : Nat) : Int) = (left : Int) - (n : Int) := by omega
  rw [e]
  clear e
  go_enter Try.func51, Try.ntmps51
  go_wp2
  go_ret
  exact ⟨rfl, rfl⟩
/-- toIntS: a new row with the same ints -/
def ToPost (l : List Int) (w : World) (e : Ending) (w' : World) : Prop :=
  ∃ g, e = .returned (.slice (some ⟨g, 0, none⟩) l.length l.length) ∧ w'.ownsRow w.heap.size 3 1 (.slice (some ⟨g, 0, none⟩) l.length l.length) l.length (iv l) ∧ Below w.heap.size w w'
def RelTo (l : List Int) (ys : List Value) (w : World) (k : Nat) (wr : World) : Prop :=
  wr.ownsRow w.heap.size 3 1 (.slice (some ⟨w.heap.size, 0, none⟩) l.length l.length) l.length (fill (iv l) ys k) ∧ Below w.heap.size w wr
theorem rel_start {l : List Int} {w w1 : World} {ys : List Value} (h : w1.ownsRow w.heap.size 3 1 (.slice (some ⟨w.heap.size, 0, none⟩) l.length l.length) l.length ys) (hg : w.grownBy w1 none) :
    ∃ zs : List Value, Hid (zs.length = l.length) ∧ RelTo l zs w 0 w1 :=
  ⟨ys, Lib.hid (by have := h.1; omega), by rw [fill_zero]; exact h, (Below.refl _ _).grown hg (Nat.le_refl _) (by simp)⟩
theorem rel_round {l : List Int} {ys : List Value} {w wr : World} {k : Nat} {x : Int} (h : RelTo l ys w k wr) (hy : Hid (ys.length = l.length)) (hx : l[k]? = some x) :
    ∃ y, wr.cell? ⟨w.heap.size, k, none⟩ = some y ∧ wr.frozen? ⟨w.heap.size, k, none⟩ = false ∧ RelTo l ys w (k + 1) (wr.setCell ⟨w.heap.size, k, none⟩ (.int .i64 x)) := by
  have hy' : ys.length = l.length := hy
  have hk := (List.getElem?_eq_some_iff.1 hx).1
  have hlen : (fill (iv l) ys k).length = l.length := by rw [fill_len _ _ _ (by rw [iv_len]; exact hy')]; exact hy'
  have hc := h.1.cellAt k (by omega)
  rw [List.getElem?_eq_getElem (by omega)] at hc
  refine ⟨_, hc, h.1.frozenAt k, ?_, h.2.setCell (Nat.le_refl _) _⟩
  have := (h.1.stored k (.int .i64 x)).1
  rw [fill_set _ _ _ _ (by omega) (by rw [iv_at, hx]; rfl)] at this
  exact this
theorem rel_end {l : List Int} {ys : List Value} {w wr : World} (h : RelTo l ys w l.length wr) (hy : Hid (ys.length = l.length)) :
    wr.ownsRow w.heap.size 3 1 (.slice (some ⟨w.heap.size, 0, none⟩) l.length l.length) l.length (iv l) ∧ Below w.heap.size w wr := by
  have hy' : ys.length = l.length := hy
  have e := fill_all (iv l) ys (by rw [iv_len]; exact hy')
  rw [iv_len] at e
  have h1 := h.1
  rw [e] at h1
  exact ⟨h1, h.2⟩

set_option maxHeartbeats 800000 in
theorem to_any (A : Option Addr) (c : Nat) (l : List Int) (w : World) (h : Ints w A l.length l) (hn : l.length ≤ 1048576) :
    Calls Try.prog 19 #[.slice A l.length c] w (ToPost l w) := by
  obtain ⟨i0, hi, hz0, hz1, hz2⟩ := info_parts infoI
  have HH := Lib.hid h
  clear h
  go_enter Try.func19, Try.ntmps19
  go_wp2_with (at_make; refine wpList_make_full _ rfl _ _ 22 rfl w.heap.size 3 i0 (.int .i64 0) 1 Try.underlying22 hi hz0 hz1 .i64 .i64 _ _ l.length rfl rfl rfl rfl (by rw [hz2]; omega) (by unfold maxLen; omega) (Nat.le_refl _) ?_; intro w1 hO hG; obtain ⟨ys, hys, hR0⟩ := rel_start hO hG; clear hO hG)
  go_loopw [4] (fun i wr => ∃ k : Nat, k ≤ l.length ∧ i = .int .i64 k ∧ RelTo l ys w k wr) (fun i _ => l.length - (intOf i).toNat)
  case atStart => exact ⟨0, Nat.zero_le _, rfl, hR0⟩
  case round =>
    obtain ⟨k, hk, rfl, hR⟩ := hrel
    by_cases hlt : k < l.length
    · obtain ⟨ab, ao, x, rfl, hx, hcell0⟩ := Ints.at_ HH.out hlt
      have hcell := cell_below hR.2 hcell0
      obtain ⟨y, hc, hf, hset⟩ := rel_round hR hys hx
      have HS := Lib.hid hset
      clear hR hx hcell0 hset
      go_wp2
      go_roundw
      case rel => exact ⟨k + 1, by omega, by go_num, HS.out⟩
      case measure => simp [intOf]; omega
    · obtain rfl : k = l.length := by omega
      have HF := Lib.hid (rel_end hR hys)
      clear hR
      go_wp2
      go_ret
      exact ⟨_, rfl, HF.out⟩
end Go.Proofs.Ytekacbjnpeglhaa.RInt

/- Plain words on stamps: what a stamp is, when one is valid, when a list of them is; the cells of a list of records. No condition. -/
namespace Go.Proofs.Ytekacbjnpeglhaa.PlainStamp
set_option linter.unusedVariables false

/-- a number lies in a..b -/
def inB (x a b : Int) : Bool := decide (a ≤ x ∧ x ≤ b)
theorem inB_yes {x a b : Int} (h1 : a ≤ x) (h2 : x ≤ b) : inB x a b = true := by unfold inB; exact decide_eq_true ⟨h1, h2⟩
theorem inB_of {x a b : Int} (h : inB x a b = true) : a ≤ x ∧ x ≤ b := by unfold inB at h; exact of_decide_eq_true h
theorem inB_no {x a b : Int} (h : x < a ∨ b < x) : inB x a b = false := by unfold inB; exact decide_eq_false (by omega)

structure St where
  id : Int
  face : Int
  color : Int
  year : Int
deriving DecidableEq

def St.cells (s : St) : List Value := [.int .i64 s.id, .int .i64 s.face, .int .i64 s.color, .int .i64 s.year]
def St.val (s : St) : Value := .agg #[.int .i64 s.id, .int .i64 s.face, .int .i64 s.color, .int .i64 s.year]
/-- each field fits an int -/
def St.fits (s : St) : Prop := (Lit.int .i64 s.id).wf = true ∧ (Lit.int .i64 s.face).wf = true ∧ (Lit.int .i64 s.color).wf = true ∧ (Lit.int .i64 s.year).wf = true

def okSt (s : St) : Bool := inB s.id 1 999 && inB s.face 0 9999 && inB s.color 0 99 && inB s.year 1840 2100
theorem okSt_yes {s : St} (h : okSt s = true) : (1 ≤ s.id ∧ s.id ≤ 999) ∧ (0 ≤ s.face ∧ s.face ≤ 9999) ∧ (0 ≤ s.color ∧ s.color ≤ 99) ∧ (1840 ≤ s.year ∧ s.year ≤ 2100) := by
  unfold okSt at h
  simp only [Bool.and_eq_true] at h
  exact ⟨inB_of h.1.1.1, inB_of h.1.1.2, inB_of h.1.2, inB_of h.2⟩

/-- the stamp at k is valid, and its id is above the one ahead of it -/
def okAt (l : List St) (k : Nat) : Bool :=
  match l[k]? with
  | none => true
  | some s => okSt s && (decide (k = 0) || (match l[k-1]? with | none => true | some r => decide (r.id < s.id)))
def okUp (l : List St) (k : Nat) : Bool := (List.range k).all (okAt l)
theorem okUp_zero (l : List St) : okUp l 0 = true := by simp [okUp]
theorem okUp_succ (l : List St) (k : Nat) : okUp l (k + 1) = (okUp l k && okAt l k) := by simp [okUp, List.range_succ, List.all_append]
theorem okUp_not {l : List St} {k n : Nat} (h : okAt l k = false) (hk : k < n) : okUp l n = false := by
  unfold okUp
  rw [Bool.eq_false_iff]
  intro hall
  have := List.all_eq_true.1 hall k (List.mem_range.2 hk)
  rw [h] at this; exact absurd this (by simp)
/-- a list of at most twelve valid stamps with rising ids -/
def okSts (l : List St) : Bool := decide (l.length ≤ 12) && okUp l l.length
theorem okAt_of {l : List St} {k : Nat} {s : St} (hs : l[k]? = some s) (h : okAt l k = true) : okSt s = true ∧ ∀ r, 0 < k → l[k-1]? = some r → r.id < s.id := by
  unfold okAt at h
  rw [hs] at h
  simp only [Bool.and_eq_true, Bool.or_eq_true, decide_eq_true_eq] at h
  refine ⟨h.1, fun r hk hr => ?_⟩
  rcases h.2 with h0 | h0
  · omega
  · rw [hr] at h0; simpa using h0
theorem okSts_len {l : List St} (h : okSts l = true) : l.length ≤ 12 := by unfold okSts at h; simp only [Bool.and_eq_true, decide_eq_true_eq] at h; exact h.1
theorem okSts_at {l : List St} (h : okSts l = true) {k : Nat} {s : St} (hs : l[k]? = some s) : okSt s = true ∧ ∀ r, 0 < k → l[k-1]? = some r → r.id < s.id := by
  unfold okSts at h
  simp only [Bool.and_eq_true, decide_eq_true_eq] at h
  exact okAt_of hs (List.all_eq_true.1 h.2 k (List.mem_range.2 (List.getElem?_eq_some_iff.1 hs).1))
theorem okSts_mem {l : List St} (h : okSts l = true) {s : St} (hs : s ∈ l) : okSt s = true := by
  obtain ⟨k, hk⟩ := List.getElem?_of_mem hs
  exact (okSts_at h hk).1

/-- the cells of a list of stamps, one after the other -/
def flat (l : List St) : List Value := l.flatMap St.cells
theorem flat_nil : flat [] = [] := rfl
theorem flat_cons (s : St) (l : List St) : flat (s :: l) = s.cells ++ flat l := by simp [flat]
theorem flat_len (l : List St) : (flat l).length = l.length * 4 := by
  induction l with
  | nil => rfl
  | cons s l ih => rw [flat_cons, List.length_append, ih]; simp [St.cells]; omega
theorem flat_at : ∀ (l : List St) (k : Nat) (s : St), l[k]? = some s → ∀ j, j < 4 → (flat l)[k * 4 + j]? = s.cells[j]?
  | [], k, s, h, _, _ => by simp at h
  | r :: l, 0, s, h, j, hj => by
    obtain rfl : r = s := by simpa using h
    rw [flat_cons, List.getElem?_append_left (by simp [St.cells]; omega)]; simp
  | r :: l, k + 1, s, h, j, hj => by
    rw [flat_cons, List.getElem?_append_right (by simp [St.cells]; omega), show (k + 1) * 4 + j - r.cells.length = k * 4 + j by simp [St.cells]; omega]
    exact flat_at l k s (by simpa using h) j hj
end Go.Proofs.Ytekacbjnpeglhaa.PlainStamp

/- Words for reckoning with plain functions; within and l1In. No condition. -/
namespace Go.Proofs.Ytekacbjnpeglhaa.QBase
set_option linter.unusedVariables false
set_option linter.unusedSimpArgs false
open Go.RowKit
open Go.Proofs.Ytekacbjnpeglhaa.GoP Go.Proofs.Ytekacbjnpeglhaa.PlainStamp

theorem iteK_if {ρ : Type} (c : Bool) (a b : Option ρ) : iteK c a b = if c = true then a else b := by cases c <;> rfl
theorem bind2_some {α β ρ : Type} (a : α) (b : β) (f : α → β → Option ρ) : bind2 (some (a, b)) f = f a b := rfl
theorem bind3_some {α β γ ρ : Type} (a : α) (b : β) (c : γ) (f : α → β → γ → Option ρ) : bind3 (some (a, b, c)) f = f a b c := rfl
theorem unp2_mk {α β ρ : Type} (a : α) (b : β) (f : α → β → Option ρ) : unp2 (a, b) f = f a b := rfl
theorem unp3_mk {α β γ ρ : Type} (a : α) (b : β) (c : γ) (f : α → β → γ → Option ρ) : unp3 (a, b, c) f = f a b c := rfl
theorem guardK_pos {ρ : Type} {p : Prop} [Decidable p] {a : Option ρ} (h : p) : guardK p a = a := if_pos h
theorem cut2 {α β : Type} {x : Option (α × β)} {p : α × β} (h : x = some p) : x = some (p.1, p.2) := h
theorem cut3 {α β γ : Type} {x : Option (α × β × γ)} {p : α × β × γ} (h : x = some p) : x = some (p.1, p.2.1, p.2.2) := h
theorem within_eq (n a b : Int) : GiWithin.P n a b = some (inB n a b) := by
  simp only [GiWithin.P, letK, joinK, appK, iteK_if, inB]
  by_cases h1 : a ≤ n <;> by_cases h2 : n ≤ b <;> simp [h1, h2]
theorem l1In_eq (n a b : Int) : GsL1In.P n a b = some (inB n a b) := by
  simp only [GsL1In.P, letK, joinK, appK, iteK_if, inB]
  by_cases h1 : a ≤ n <;> by_cases h2 : n ≤ b <;> simp [h1, h2]
end Go.Proofs.Ytekacbjnpeglhaa.QBase

/- Reckoning with the loops of plain functions; lists of valid records with rising ids. No condition. -/
namespace Go.Proofs.Ytekacbjnpeglhaa.QLoop
set_option linter.unusedVariables false
open Go.RowKit
open Go.Proofs.Ytekacbjnpeglhaa.GoP Go.Proofs.Ytekacbjnpeglhaa.QBase

theorem cnt_ex {σ ρ : Type} {f : Nat → σ → (σ → Option ρ) → (σ → Option ρ) → Option ρ} {fin : σ → Option ρ} {Q : ρ → Prop} {n : Nat} (I : Nat → σ → Prop)
    (step : ∀ k s nx, k < n → I k s → (∀ s', I (k + 1) s' → ∃ r, nx s' = some r ∧ Q r) → ∃ r, f k s nx fin = some r ∧ Q r) (done : ∀ s, I n s → ∃ r, fin s = some r ∧ Q r) :
    ∀ m k s, k + m = n → I k s → ∃ r, cntK f m k s fin = some r ∧ Q r := by
  intro m
  induction m with
  | zero => intro k s hk hI; obtain rfl : k = n := by omega
            exact done s hI
  | succ m ih => intro k s hk hI; exact step k s _ (by omega) hI (fun s' h' => ih (k + 1) s' (by omega) h')
theorem cnt_is {σ ρ : Type} {f : Nat → σ → (σ → Option ρ) → (σ → Option ρ) → Option ρ} {fin : σ → Option ρ} {n : Nat} (r : ρ) (I : Nat → σ → Prop)
    (step : ∀ k s nx, k < n → I k s → (∀ s', I (k + 1) s' → nx s' = some r) → f k s nx fin = some r) (done : ∀ s, I n s → fin s = some r) (s : σ) (h0 : I 0 s) : cntK f n 0 s fin = some r := by
  obtain ⟨r', h, rfl⟩ := cnt_ex (Q := fun x => x = r) I (fun k s nx hk hI hn => ⟨r, step k s nx hk hI (fun s' h' => by obtain ⟨_, h, rfl⟩ := hn s' h'; exact h), rfl⟩) (fun s h => ⟨r, done s h, rfl⟩) n 0 s (by omega) h0
  exact h
theorem at_lt {α : Type} {l : List α} {k : Nat} (h : k < l.length) : ∃ x, l[k]? = some x ∧ idx l (k : Int) = some x := ⟨l[k], List.getElem?_eq_getElem h, by rw [idx_nat, List.getElem?_eq_getElem h]⟩
theorem idx_pred {α : Type} {l : List α} {k : Nat} {x : α} (hk : 0 < k) (hb : k ≤ 9223372036854775807) (h : l[k - 1]? = some x) : idx l (IntKind.i64.wrap ((k : Int) - 1)) = some x := by
  rw [IntWalk.i64_in _ (by omega), show ((k : Int) - 1) = ((k - 1 : Nat) : Int) by omega, idx_nat, h]
theorem take_next {α : Type} {l : List α} {k : Nat} {x : α} (h : l[k]? = some x) : l.take (k + 1) = l.take k ++ [x] := by
  obtain ⟨hk, e⟩ := List.getElem?_eq_some_iff.1 h
  rw [List.take_succ_eq_append_getElem hk, e]
theorem all_next {α : Type} {p : α → Bool} {l : List α} {k : Nat} {x : α} (h : l[k]? = some x) : (l.take (k + 1)).all p = ((l.take k).all p && p x) := by
  rw [take_next h]; simp
theorem not_all {α : Type} {p : α → Bool} {l : List α} {k : Nat} {x : α} (h : l[k]? = some x) (hp : p x = false) : l.all p = false := by
  rw [Bool.eq_false_iff]
  intro ha
  have := List.all_eq_true.1 ha x (List.mem_of_getElem? h)
  rw [hp] at this; exact absurd this (by simp)
theorem wrap_in {x : Int} (h1 : -9223372036854775808 ≤ x) (h2 : x ≤ 9223372036854775807) : IntKind.i64.wrap x = x := IntWalk.i64_in _ (by omega)

/-- valid, and above the one ahead of it -/
def upAt {α : Type} (ok : α → Bool) (id : α → Int) (l : List α) (k : Nat) : Bool :=
  match l[k]? with
  | none => true
  | some s => ok s && (decide (k = 0) || (match l[k-1]? with | none => true | some r => decide (id r < id s)))
def upTo {α : Type} (ok : α → Bool) (id : α → Int) (l : List α) (k : Nat) : Bool := (List.range k).all (upAt ok id l)
theorem upTo_zero {α : Type} (ok : α → Bool) (id : α → Int) (l : List α) : upTo ok id l 0 = true := rfl
theorem upTo_succ {α : Type} (ok : α → Bool) (id : α → Int) (l : List α) (k : Nat) : upTo ok id l (k + 1) = (upTo ok id l k && upAt ok id l k) := by simp [upTo, List.range_succ, List.all_append]
theorem upTo_not {α : Type} {ok : α → Bool} {id : α → Int} {l : List α} {k n : Nat} (h : upAt ok id l k = false) (hk : k < n) : upTo ok id l n = false := by
  unfold upTo
  rw [Bool.eq_false_iff]
  intro ha
  have := List.all_eq_true.1 ha k (List.mem_range.2 hk)
  rw [h] at this; exact absurd this (by simp)
/-- a list of at most m valid records with rising ids -/
def upL {α : Type} (m : Nat) (ok : α → Bool) (id : α → Int) (l : List α) : Bool := decide (l.length ≤ m) && upTo ok id l l.length
theorem upAt_bad {α : Type} {ok : α → Bool} {id : α → Int} {l : List α} {k : Nat} {s : α} (hs : l[k]? = some s) (h : ok s = false) : upAt ok id l k = false := by unfold upAt; rw [hs]; simp [h]
theorem upAt_first {α : Type} {ok : α → Bool} {id : α → Int} {l : List α} {s : α} (hs : l[0]? = some s) (h : ok s = true) : upAt ok id l 0 = true := by unfold upAt; rw [hs]; simp [h]
theorem upAt_next {α : Type} {ok : α → Bool} {id : α → Int} {l : List α} {k : Nat} {s r : α} (hs : l[k]? = some s) (hr : l[k-1]? = some r) (hk : 0 < k) (h : ok s = true) : upAt ok id l k = decide (id r < id s) := by
  unfold upAt; rw [hs]; simp only [hr, h, Bool.true_and, decide_eq_false (show ¬ k = 0 by omega), Bool.false_or]
theorem upL_len {α : Type} {m : Nat} {ok : α → Bool} {id : α → Int} {l : List α} (h : upL m ok id l = true) : l.length ≤ m := by unfold upL at h; simp only [Bool.and_eq_true, decide_eq_true_eq] at h; exact h.1
theorem upL_ok {α : Type} {m : Nat} {ok : α → Bool} {id : α → Int} {l : List α} (h : upL m ok id l = true) {k : Nat} {s : α} (hs : l[k]? = some s) : ok s = true := by
  unfold upL at h
  simp only [Bool.and_eq_true, decide_eq_true_eq] at h
  have := List.all_eq_true.1 h.2 k (List.mem_range.2 (List.getElem?_eq_some_iff.1 hs).1)
  unfold upAt at this
  rw [hs] at this
  simp only [Bool.and_eq_true] at this
  exact this.1
theorem upL_mem {α : Type} {m : Nat} {ok : α → Bool} {id : α → Int} {l : List α} (h : upL m ok id l = true) {s : α} (hs : s ∈ l) : ok s = true := by
  obtain ⟨k, hk⟩ := List.getElem?_of_mem hs
  exact upL_ok h hk
/-- a loop that goes through a list of records and stops with 'false' at the first that is bad -/
theorem up_loop {α : Type} {ok : α → Bool} {id : α → Int} {l : List α} {R : Type} {no : R} {f : Nat → Unit → (Unit → Option R) → (Unit → Option R) → Option R} {fin : Unit → Option R}
    (step : ∀ k nx s, l[k]? = some s → (ok s = false → f k () nx fin = some no) ∧ (ok s = true → (k = 0 → f k () nx fin = nx ()) ∧ (0 < k → ∀ r, l[k-1]? = some r → (id r < id s → f k () nx fin = nx ()) ∧ (id s ≤ id r → f k () nx fin = some no)))) :
    cntK f l.length 0 () fin = if upTo ok id l l.length then fin () else some no := by
  have key : ∀ m k, k + m = l.length → upTo ok id l k = true → cntK f m k () fin = if upTo ok id l l.length then fin () else some no := by
    intro m
    induction m with
    | zero => intro k hk hu; obtain rfl : k = l.length := by omega
              rw [hu]; rfl
    | succ m ih =>
      intro k hk hu
      have hlt : k < l.length := by omega
      obtain ⟨s, hs, _⟩ := at_lt hlt
      obtain ⟨h1, h2⟩ := step k (fun s' => cntK f m (k + 1) s' fin) s hs
      show f k () _ fin = _
      cases hok : ok s with
      | false => rw [h1 hok, upTo_not (upAt_bad hs hok) hlt]; rfl
      | true =>
        obtain ⟨h3, h4⟩ := h2 hok
        by_cases hk0 : k = 0
        · rw [h3 hk0]
          subst hk0
          exact ih 1 (by omega) (by rw [upTo_succ, hu, upAt_first hs hok]; rfl)
        · obtain ⟨r, hr, _⟩ := at_lt (l := l) (k := k - 1) (by omega)
          obtain ⟨h5, h6⟩ := h4 (by omega) r hr
          by_cases hlt2 : id r < id s
          · rw [h5 hlt2]
            exact ih (k + 1) (by omega) (by rw [upTo_succ, hu, upAt_next hs hr (by omega) hok]; simpa using hlt2)
          · rw [h6 (by omega), upTo_not (by rw [upAt_next hs hr (by omega) hok]; simpa using hlt2) hlt]; rfl
  exact key l.length 0 (by omega) (upTo_zero ok id l)
end Go.Proofs.Ytekacbjnpeglhaa.QLoop

/- Loops that test each place, and loops without a count. No condition. -/
namespace Go.Proofs.Ytekacbjnpeglhaa.QAll
set_option linter.unusedVariables false
set_option linter.unusedSimpArgs false
open Go.RowKit
open Go.Proofs.Ytekacbjnpeglhaa.GoP Go.Proofs.Ytekacbjnpeglhaa.QBase Go.Proofs.Ytekacbjnpeglhaa.QLoop

/-- each number below n is good -/
def allN (n : Nat) (p : Nat → Bool) : Bool := (List.range n).all p
theorem allN_iff {n : Nat} {p : Nat → Bool} : allN n p = true ↔ ∀ i, i < n → p i = true := by unfold allN; simp
theorem allN_no {n k : Nat} {p : Nat → Bool} (hk : k < n) (h : p k = false) : allN n p = false := by
  rw [Bool.eq_false_iff]; intro ha; rw [allN_iff.1 ha k hk] at h; exact absurd h (by simp)
theorem allN_eq {n m : Nat} {p q : Nat → Bool} (h : (∀ i, i < n → p i = true) ↔ (∀ i, i < m → q i = true)) : allN n p = allN m q := by
  rw [Bool.eq_iff_iff, allN_iff, allN_iff]; exact h
theorem all_cnt {ρ : Type} {n : Nat} {p : Nat → Bool} {no : ρ} {f : Nat → Unit → (Unit → Option ρ) → (Unit → Option ρ) → Option ρ} {fin : Unit → Option ρ}
    (step : ∀ k nx, k < n → (p k = false → f k () nx fin = some no) ∧ (p k = true → f k () nx fin = nx ())) : cntK f n 0 () fin = if allN n p = true then fin () else some no := by
  have key : ∀ m k, k + m = n → (∀ i, i < k → p i = true) → cntK f m k () fin = if allN n p = true then fin () else some no := by
    intro m
    induction m with
    | zero => intro k hk hu; obtain rfl : k = n := by omega
              rw [allN_iff.2 hu]; rfl
    | succ m ih =>
      intro k hk hu
      obtain ⟨h1, h2⟩ := step k (fun s' => cntK f m (k + 1) s' fin) (by omega)
      show f k () _ fin = _
      cases hp : p k with
      | false => rw [h1 hp, allN_no (by omega) hp]; rfl
      | true =>
        rw [h2 hp]
        refine ih (k + 1) (by omega) (fun i hi => ?_)
        by_cases he : i = k
        · rw [he]; exact hp
        · exact hu i (by omega)
  exact key n 0 (by omega) (fun i hi => by omega)
theorem lp_ex {σ ρ : Type} {f : σ → (σ → Option ρ) → (σ → Option ρ) → Option ρ} {fin : σ → Option ρ} {Q : ρ → Prop} {n : Nat} (I : Nat → σ → Prop)
    (step : ∀ k s nx, k < n → I k s → (∀ s', I (k + 1) s' → ∃ r, nx s' = some r ∧ Q r) → ∃ r, f s nx fin = some r ∧ Q r) (done : ∀ s nx, I n s → ∃ r, f s nx fin = some r ∧ Q r) :
    ∀ fuel k s, k ≤ n → n - k < fuel → I k s → ∃ r, loopK f fuel s fin = some r ∧ Q r := by
  intro fuel
  induction fuel with
  | zero => intro k s hk hf; omega
  | succ m ih =>
    intro k s hk hf hI
    show ∃ r, f s _ fin = some r ∧ Q r
    by_cases he : k = n
    · subst he; exact done s _ hI
    · exact step k s _ (by omega) hI (fun s' h' => ih (k + 1) s' (by omega) (by omega) h')
theorem all_lp {ρ : Type} {n : Nat} {p : Nat → Bool} {no : ρ} {f : Int → (Int → Option ρ) → (Int → Option ρ) → Option ρ} {fin : Int → Option ρ}
    (step : ∀ (k : Nat) nx, k < n → (p k = false → f (k : Int) nx fin = some no) ∧ (p k = true → f (k : Int) nx fin = nx ((k + 1 : Nat) : Int))) (stop : ∀ nx, f (n : Int) nx fin = fin (n : Int))
    (fuel : Nat) (hf : n < fuel) : loopK f fuel 0 fin = if allN n p = true then fin (n : Int) else some no := by
  have key : ∀ fuel k, k ≤ n → n - k < fuel → (∀ i, i < k → p i = true) → loopK f fuel (k : Int) fin = if allN n p = true then fin (n : Int) else some no := by
    intro fuel
    induction fuel with
    | zero => intro k hk hf; omega
    | succ m ih =>
      intro k hk hf hu
      show f (k : Int) _ fin = _
      by_cases he : k = n
      · subst he; rw [stop, allN_iff.2 hu]; rfl
      · obtain ⟨h1, h2⟩ := step k (fun s' => loopK f m s' fin) (by omega)
        cases hp : p k with
        | false => rw [h1 hp, allN_no (by omega) hp]; rfl
        | true =>
          rw [h2 hp]
          refine ih (k + 1) (by omega) (by omega) (fun i hi => ?_)
          by_cases he : i = k
          · rw [he]; exact hp
          · exact hu i (by omega)
  exact key fuel 0 (by omega) (by omega) (fun i hi => by omega)
theorem next_i {k : Nat} (h : k ≤ 9223372036854775806) : IntKind.i64.wrap ((k : Int) + 1) = ((k + 1 : Nat) : Int) := by rw [wrap_in (by omega) (by omega)]; omega
end Go.Proofs.Ytekacbjnpeglhaa.QAll

/- Chapter 6: tables of kinds: the plain functions of the program and of the reference agree, and the laws answer true. (Q6Hist) No condition but those of each theorem. -/
namespace Go.Proofs.Ytekacbjnpeglhaa.Q6Hist
set_option linter.unusedVariables false
set_option linter.unusedSimpArgs false
open Go.RowKit
open Go.Proofs.Ytekacbjnpeglhaa.GoP Go.Proofs.Ytekacbjnpeglhaa.PlainStamp Go.Proofs.Ytekacbjnpeglhaa.QBase Go.Proofs.Ytekacbjnpeglhaa.QLoop Go.Proofs.Ytekacbjnpeglhaa.QAll

/-- loops that test each place; what stood the test before is known -/
theorem all_cntH {ρ : Type} {n : Nat} {p : Nat → Bool} {no : ρ} {f : Nat → Unit → (Unit → Option ρ) → (Unit → Option ρ) → Option ρ} {fin : Unit → Option ρ}
    (step : ∀ k nx, k < n → (∀ i, i < k → p i = true) → (p k = false → f k () nx fin = some no) ∧ (p k = true → f k () nx fin = nx ())) : cntK f n 0 () fin = if allN n p = true then fin () else some no := by
  have key : ∀ m k, k + m = n → (∀ i, i < k → p i = true) → cntK f m k () fin = if allN n p = true then fin () else some no := by
    intro m
    induction m with
    | zero => intro k hk hu; obtain rfl : k = n := by omega
              rw [allN_iff.2 hu]; rfl
    | succ m ih =>
      intro k hk hu
      obtain ⟨h1, h2⟩ := step k (fun s' => cntK f m (k + 1) s' fin) (by omega) hu
      show f k () _ fin = _
      cases hp : p k with
      | false => rw [h1 hp, allN_no (by omega) hp]; rfl
      | true =>
        rw [h2 hp]
        refine ih (k + 1) (by omega) (fun i hi => ?_)
        by_cases he : i = k
        · rw [he]; exact hp
        · exact hu i (by omega)
  exact key n 0 (by omega) (fun i hi => by omega)
theorem all_lpH {ρ : Type} {n : Nat} {p : Nat → Bool} {no : ρ} {f : Int → (Int → Option ρ) → (Int → Option ρ) → Option ρ} {fin : Int → Option ρ}
    (step : ∀ (k : Nat) nx, k < n → (∀ i, i < k → p i = true) → (p k = false → f (k : Int) nx fin = some no) ∧ (p k = true → f (k : Int) nx fin = nx ((k + 1 : Nat) : Int))) (stop : ∀ nx, f (n : Int) nx fin = fin (n : Int))
    (fuel : Nat) (hf : n < fuel) : loopK f fuel 0 fin = if allN n p = true then fin (n : Int) else some no := by
  have key : ∀ fuel k, k ≤ n → n - k < fuel → (∀ i, i < k → p i = true) → loopK f fuel (k : Int) fin = if allN n p = true then fin (n : Int) else some no := by
    intro fuel
    induction fuel with
    | zero => intro k hk hf; omega
    | succ m ih =>
      intro k hk hf hu
      show f (k : Int) _ fin = _
      by_cases he : k = n
      · subst he; rw [stop, allN_iff.2 hu]; rfl
      · obtain ⟨h1, h2⟩ := step k (fun s' => loopK f m s' fin) (by omega) hu
        cases hp : p k with
        | false => rw [h1 hp, allN_no (by omega) hp]; rfl
        | true =>
          rw [h2 hp]
          refine ih (k + 1) (by omega) (by omega) (fun i hi => ?_)
          by_cases he : i = k
          · rw [he]; exact hp
          · exact hu i (by omega)
  exact key fuel 0 (by omega) (by omega) (fun i hi => by omega)
end Go.Proofs.Ytekacbjnpeglhaa.Q6Hist

/- Chapter 6: tables of kinds: the plain functions of the program and of the reference agree, and the laws answer true. (Q6Ban) No condition but those of each theorem. -/
namespace Go.Proofs.Ytekacbjnpeglhaa.Q6Ban
set_option linter.unusedVariables false
set_option linter.unusedSimpArgs false
open Go.RowKit
open Go.Proofs.Ytekacbjnpeglhaa.GoP Go.Proofs.Ytekacbjnpeglhaa.PlainStamp Go.Proofs.Ytekacbjnpeglhaa.QBase Go.Proofs.Ytekacbjnpeglhaa.Q6Hist Go.Proofs.Ytekacbjnpeglhaa.QLoop Go.Proofs.Ytekacbjnpeglhaa.QAll Go.Proofs.Ytekacbjnpeglhaa.PBan

def okS (s : List Int) : Bool := allN s.length fun i => match s[i]? with | some z => inB z 1 5 | none => true
theorem okS_at {s : List Int} (h : okS s = true) {i : Nat} {z : Int} (hz : s[i]? = some z) : 1 ≤ z ∧ z ≤ 5 := by
  have := allN_iff.1 h i (List.getElem?_eq_some_iff.1 hz).1
  simp only [hz] at this
  exact inB_of this
def hasV (s : List Int) (a v : Int) : Bool := inB a 0 (s.length - 1) && (match s[a.toNat]? with | some z => inB v 0 (z - 1) | none => false)
theorem hasV_of {s : List Int} {a v : Int} (h : hasV s a v = true) : ∃ (k : Nat) (z : Int), a = (k : Int) ∧ k < s.length ∧ s[k]? = some z ∧ 0 ≤ v ∧ v < z := by
  unfold hasV at h
  simp only [Bool.and_eq_true] at h
  have h1 := inB_of h.1
  obtain ⟨k, rfl⟩ : ∃ k : Nat, a = (k : Int) := ⟨a.toNat, by omega⟩
  obtain ⟨z, hz, _⟩ := at_lt (l := s) (k := k) (by omega)
  have h2 := h.2
  rw [Int.toNat_natCast, hz] at h2
  have := inB_of h2
  exact ⟨k, z, rfl, by omega, hz, by omega, by omega⟩
theorem hasValue_eq (s : List Int) (hs : okS s = true) (hl : s.length ≤ 9223372036854775807) (a v : Int) : GiHasValue.P s a v = some (hasV s a v) := by
  simp only [GiHasValue.P, within_eq, Option.bind_some, letK, joinK, appK, iteK_if]
  rw [wrap_in (by omega) (by omega)]
  unfold hasV
  cases h : inB a 0 (s.length - 1) with
  | false => simp
  | true =>
    have h1 := inB_of h
    obtain ⟨k, rfl⟩ : ∃ k : Nat, a = (k : Int) := ⟨a.toNat, by omega⟩
    obtain ⟨z, hz, hi⟩ := at_lt (l := s) (k := k) (by omega)
    have hz2 := okS_at hs hz
    simp only [hi, Option.bind_some, Int.toNat_natCast, hz, if_true, Bool.true_and]
    rw [wrap_in (by omega) (by omega)]
def okB (s : List Int) (b : Ban) : Bool := decide (b.a < b.b) && hasV s b.a b.x && hasV s b.b b.y
theorem isBan_eq (s : List Int) (hs : okS s = true) (hl : s.length ≤ 9223372036854775807) (b : Ban) : GiIsBan.P s b = some (okB s b) := by
  obtain ⟨a, x, c, y⟩ := b
  simp only [GiIsBan.P, unBan, hasValue_eq s hs hl, Option.bind_some, letK, joinK, appK, iteK_if, okB]
  by_cases h : a < c <;> cases hasV s a x <;> cases hasV s c y <;> simp [h]
theorem l6Ban_eq (s : List Int) (hs : okS s = true) (hl : s.length ≤ 9223372036854775807) (b : Ban) : GsL6Ban.P s b = some (okB s b) := by
  obtain ⟨a, x, c, y⟩ := b
  simp only [GsL6Ban.P, unBan, l1In_eq, Option.bind_some, letK, joinK, appK, iteK_if, okB, hasV]
  by_cases h1 : 0 ≤ a
  · by_cases h2 : a < c
    · by_cases h3 : c < (s.length : Int)
      · obtain ⟨i, rfl⟩ : ∃ k : Nat, a = (k : Int) := ⟨a.toNat, by omega⟩
        obtain ⟨j, rfl⟩ : ∃ k : Nat, c = (k : Int) := ⟨c.toNat, by omega⟩
        obtain ⟨z, hz, hi⟩ := at_lt (l := s) (k := i) (by omega)
        obtain ⟨u, hu, hj⟩ := at_lt (l := s) (k := j) (by omega)
        have hz2 := okS_at hs hz
        have hu2 := okS_at hs hu
        have e1 : inB (i : Int) 0 (s.length - 1) = true := by unfold inB; simp; omega
        have e2 : inB (j : Int) 0 (s.length - 1) = true := by unfold inB; simp; omega
        simp only [h1, h2, h3, decide_true, if_true, hi, hj, Option.bind_some, Int.toNat_natCast, hz, hu, e1, e2, Bool.true_and]
        rw [wrap_in (x := z - 1) (by omega) (by omega), wrap_in (x := u - 1) (by omega) (by omega)]
        cases inB x 0 (z - 1) <;> simp
      · have e2 : inB c 0 (s.length - 1) = false := by unfold inB; simp; omega
        simp [h1, h2, h3, e2]
    · simp [h1, h2]
  · have e1 : inB a 0 (s.length - 1) = false := by unfold inB; simp; omega
    simp [h1, e1]
def code (b : Ban) : Int := 1000 * b.a + 100 * b.x + 10 * b.b + b.y
theorem okB_in {s : List Int} (hs : okS s = true) (hl : s.length ≤ 5) {b : Ban} (h : okB s b = true) : 0 ≤ b.a ∧ b.a < b.b ∧ b.b ≤ 4 ∧ b.b < s.length ∧ 0 ≤ b.x ∧ b.x ≤ 4 ∧ 0 ≤ b.y ∧ b.y ≤ 4 := by
  unfold okB at h
  simp only [Bool.and_eq_true, decide_eq_true_eq] at h
  obtain ⟨k, z, e1, k1, hz, v1, v2⟩ := hasV_of h.1.2
  obtain ⟨j, u, e2, k2, hu, v3, v4⟩ := hasV_of h.2
  have := okS_at hs hz
  have := okS_at hs hu
  omega
theorem l6Code_eq {s : List Int} (hs : okS s = true) (hl : s.length ≤ 5) {b : Ban} (h : okB s b = true) : GsL6Code.P b = some (code b) := by
  have := okB_in hs hl h
  obtain ⟨a, x, c, y⟩ := b
  dsimp only at this
  simp only [GsL6Code.P, unBan, letK, code]
  rw [wrap_in (x := 1000 * a) (by omega) (by omega), wrap_in (x := 100 * x) (by omega) (by omega), wrap_in (x := 1000 * a + 100 * x) (by omega) (by omega), wrap_in (x := 10 * c) (by omega) (by omega), wrap_in (x := 1000 * a + 100 * x + 10 * c) (by omega) (by omega), wrap_in (by omega) (by omega)]
def cmpI (x y : Int) : Int := if x < y then -1 else if y < x then 1 else 0
theorem cmp_eq (x y : Int) : GxCmpCompareInt.P x y = some (cmpI x y) := by
  simp only [GxCmpCompareInt.P, GxCmpIsNaNInt.P, Option.bind_some, letK, iteK_if, cmpI]
  by_cases h1 : x < y
  · simp [h1]
  · by_cases h2 : y < x <;> simp [h1, h2]
theorem or_eq (a b c d : Int) : GxCmpOrInt.P [a, b, c, d] = some (if a != 0 then a else if b != 0 then b else if c != 0 then c else d) := by
  have st : ∀ m k fin, cntK (GxCmpOrInt.l0 [a, b, c, d]) (m + 1) k () fin = GxCmpOrInt.l0 [a, b, c, d] k () (fun s' => cntK (GxCmpOrInt.l0 [a, b, c, d]) m (k + 1) s' fin) fin := fun _ _ _ => rfl
  show cntK (GxCmpOrInt.l0 [a, b, c, d]) (3 + 1) 0 () (GxCmpOrInt.e0) = _
  rw [st]
  simp only [GxCmpOrInt.l0, show idx [a, b, c, d] ((0 : Nat) : Int) = some a from rfl, Option.bind_some, letK, appK, iteK_if]
  by_cases ha : (a != 0) = true
  · rw [if_pos ha, if_pos ha]
  · rw [if_neg ha, if_neg ha]
    show cntK (GxCmpOrInt.l0 [a, b, c, d]) (2 + 1) 1 () (GxCmpOrInt.e0) = _
    rw [st]
    simp only [GxCmpOrInt.l0, show idx [a, b, c, d] ((1 : Nat) : Int) = some b from rfl, Option.bind_some, letK, appK, iteK_if]
    by_cases hb : (b != 0) = true
    · rw [if_pos hb, if_pos hb]
    · rw [if_neg hb, if_neg hb]
      show cntK (GxCmpOrInt.l0 [a, b, c, d]) (1 + 1) 2 () (GxCmpOrInt.e0) = _
      rw [st]
      simp only [GxCmpOrInt.l0, show idx [a, b, c, d] ((2 : Nat) : Int) = some c from rfl, Option.bind_some, letK, appK, iteK_if]
      by_cases hc : (c != 0) = true
      · rw [if_pos hc, if_pos hc]
      · rw [if_neg hc, if_neg hc]
        show cntK (GxCmpOrInt.l0 [a, b, c, d]) (0 + 1) 3 () (GxCmpOrInt.e0) = _
        rw [st]
        simp only [GxCmpOrInt.l0, show idx [a, b, c, d] ((3 : Nat) : Int) = some d from rfl, Option.bind_some, letK, appK, iteK_if]
        by_cases hd : (d != 0) = true
        · rw [if_pos hd]
        · rw [if_neg hd]
          have : d = 0 := by simpa using hd
          rw [this]; rfl
theorem compare_eq {s : List Int} (hs : okS s = true) (hl : s.length ≤ 5) {r b : Ban} (hr : okB s r = true) (hb : okB s b = true) : ∃ c, GiCompareBans.P r b = some c ∧ (0 ≤ c ↔ code b ≤ code r) ∧ (c < 0 ↔ code r < code b) ∧ (c = 0 ↔ code r = code b) := by
  have h1 := okB_in hs hl hr
  have h2 := okB_in hs hl hb
  obtain ⟨a, x, c, y⟩ := r
  obtain ⟨a', x', c', y'⟩ := b
  dsimp only at h1 h2
  simp only [GiCompareBans.P, unBan, cmp_eq, Option.bind_some, letK, or_eq]
  refine ⟨_, rfl, ?_⟩
  unfold cmpI code
  dsimp only
  by_cases p1 : a < a'
  · simp [p1]; omega
  · by_cases p2 : a' < a
    · simp [p1, p2]; omega
    · obtain rfl : a = a' := by omega
      by_cases p3 : x < x'
      · simp [p3]; omega
      · by_cases p4 : x' < x
        · simp [p3, p4]; omega
        · obtain rfl : x = x' := by omega
          by_cases p5 : c < c'
          · simp [p5]; omega
          · by_cases p6 : c' < c
            · simp [p5, p6]; omega
            · obtain rfl : c = c' := by omega
              by_cases p7 : y < y'
              · simp [p7]; omega
              · by_cases p8 : y' < y
                · simp [p7, p8]; omega
                · simp [p7, p8]; omega
end Go.Proofs.Ytekacbjnpeglhaa.Q6Ban

/- Chapter 6: tables of kinds: the plain functions of the program and of the reference agree, and the laws answer true. (Q6Tab) No condition but those of each theorem. -/
namespace Go.Proofs.Ytekacbjnpeglhaa.Q6Tab
set_option linter.unusedVariables false
set_option linter.unusedSimpArgs false
open Go.RowKit
open Go.Proofs.Ytekacbjnpeglhaa.GoP Go.Proofs.Ytekacbjnpeglhaa.PlainStamp Go.Proofs.Ytekacbjnpeglhaa.QBase Go.Proofs.Ytekacbjnpeglhaa.Q6Ban Go.Proofs.Ytekacbjnpeglhaa.Q6Hist Go.Proofs.Ytekacbjnpeglhaa.QLoop Go.Proofs.Ytekacbjnpeglhaa.QAll Go.Proofs.Ytekacbjnpeglhaa.PBan

def upB (s : List Int) (l : List Ban) (k : Nat) : Bool := upAt (okB s) code l k
def okT (s : List Int) (l : List Ban) : Bool := inB s.length 1 5 && decide (l.length ≤ 20) && okS s && allN l.length (upB s l)
theorem okT_of {s : List Int} {l : List Ban} (h : okT s l = true) : 1 ≤ s.length ∧ s.length ≤ 5 ∧ l.length ≤ 20 ∧ okS s = true ∧ ∀ b ∈ l, okB s b = true := by
  unfold okT at h
  simp only [Bool.and_eq_true, decide_eq_true_eq] at h
  have h1 := inB_of h.1.1.1
  refine ⟨by omega, by omega, h.1.1.2, h.1.2, fun b hb => ?_⟩
  obtain ⟨k, hk⟩ := List.getElem?_of_mem hb
  have := allN_iff.1 h.2 k (List.getElem?_eq_some_iff.1 hk).1
  unfold upB upAt at this
  rw [hk] at this
  simp only [Bool.and_eq_true] at this
  exact this.1
theorem hist_ok {s : List Int} {l : List Ban} {k : Nat} (hu : ∀ i, i < k → upB s l i = true) (hk : 0 < k) {r : Ban} (hr : l[k - 1]? = some r) : okB s r = true := by
  have := hu (k - 1) (by omega)
  unfold upB upAt at this
  rw [hr] at this
  simp only [Bool.and_eq_true] at this
  exact this.1
theorem isTable_eq (s : List Int) (l : List Ban) (hs : s.length ≤ 9223372036854775807) (hl : l.length ≤ 9223372036854775807) : GiIsKindTable.P s l = some (okT s l) := by
  simp only [GiIsKindTable.P, within_eq, Option.bind_some, letK, joinK, appK, iteK_if, okT]
  cases h1 : inB s.length 1 5 with
  | false => simp
  | true =>
    have hs5 := inB_of h1
    by_cases h2 : l.length ≤ 20
    · simp only [Bool.not_true, Bool.false_eq_true, if_false, show ¬ (20 < (l.length : Int)) by omega, decide_false, h2, decide_true, Bool.true_and]
      rw [all_cnt (p := fun i => match s[i]? with | some z => inB z 1 5 | none => true) (no := false)]
      · show (if okS s = true then _ else _) = _
        cases h3 : okS s with
        | false => simp
        | true =>
          simp only [if_true, Bool.true_and, GiIsKindTable.e0]
          rw [all_cntH (p := upB s l) (no := false)]
          · cases allN l.length (upB s l) <;> simp [GiIsKindTable.e1]
          · intro k nx hk hu
            obtain ⟨b, hb, hi⟩ := at_lt (l := l) (k := k) hk
            simp only [GiIsKindTable.l1, hi, Option.bind_some, unBan, isBan_eq s h3 (by omega), letK, joinK, appK, iteK_if]
            cases hok : okB s b with
            | false => exact ⟨fun _ => by simp, fun h => by rw [show upB s l k = false from upAt_bad hb hok] at h; exact absurd h (by simp)⟩
            | true =>
              by_cases hk0 : k = 0
              · subst hk0
                rw [show upB s l 0 = true from upAt_first hb hok]
                exact ⟨fun h => absurd h (by simp), fun _ => by simp⟩
              · obtain ⟨r, hr, _⟩ := at_lt (l := l) (k := k - 1) (by omega)
                have hrk := hist_ok hu (by omega) hr
                obtain ⟨c, hc, c1, c2, c3⟩ := compare_eq h3 (by omega) hrk hok
                rw [show upB s l k = decide (code r < code b) from upAt_next hb hr (by omega) hok]
                have hk1 : (0 : Int) < (k : Int) := by omega
                simp only [hk1, decide_true, if_true, Bool.not_true, Bool.false_eq_true, if_false]
                rw [idx_pred (by omega) (by omega) hr]
                simp only [Option.bind_some, hc]
                by_cases hlt : code r < code b
                · simp [hlt, show ¬ 0 ≤ c by omega]
                · simp [hlt, show 0 ≤ c by omega]
      · intro k nx hk
        obtain ⟨z, hz, hi⟩ := at_lt (l := s) (k := k) hk
        simp only [GiIsKindTable.l0, hi, Option.bind_some, within_eq, letK, appK, iteK_if, hz]
        exact ⟨fun h => by simp [h], fun h => by simp [h]⟩
    · simp [h2, show (20 < (l.length : Int)) by omega]
theorem l6Good_eq (fuel : Nat) (hf : 21 ≤ fuel) (s : List Int) (l : List Ban) (hs : s.length ≤ 9223372036854775807) (hl : l.length ≤ 9223372036854775807) : GsL6Good.P fuel s l = some (okT s l) := by
  simp only [GsL6Good.P, l1In_eq, Option.bind_some, letK, joinK, appK, iteK_if, okT]
  cases h1 : inB s.length 1 5 with
  | false => simp
  | true =>
    have hs5 := inB_of h1
    by_cases h2 : l.length ≤ 20
    · simp only [Bool.not_true, Bool.false_eq_true, if_false, show ¬ (20 < (l.length : Int)) by omega, decide_false, h2, decide_true, Bool.true_and]
      rw [all_lp (n := s.length) (p := fun i => match s[i]? with | some z => inB z 1 5 | none => true) (no := false)]
      · show (if okS s = true then _ else _) = _
        cases h3 : okS s with
        | false => simp
        | true =>
          simp only [if_true, Bool.true_and, GsL6Good.e0, letK]
          rw [all_lpH (n := l.length) (p := upB s l) (no := false)]
          · cases allN l.length (upB s l) <;> simp [GsL6Good.e1, letK]
          · intro k nx hk hu
            obtain ⟨b, hb, hi⟩ := at_lt (l := l) (k := k) hk
            have hlt0 : (k : Int) < (l.length : Int) := by omega
            simp only [GsL6Good.l1, letK, hlt0, decide_true, hi, Option.bind_some, unBan, l6Ban_eq s h3 (by omega), joinK, appK, iteK_if, if_true]
            rw [next_i (by omega)]
            cases hok : okB s b with
            | false => exact ⟨fun _ => by simp, fun h => by rw [show upB s l k = false from upAt_bad hb hok] at h; exact absurd h (by simp)⟩
            | true =>
              by_cases hk0 : k = 0
              · subst hk0
                rw [show upB s l 0 = true from upAt_first hb hok]
                exact ⟨fun h => absurd h (by simp), fun _ => by simp⟩
              · obtain ⟨r, hr, _⟩ := at_lt (l := l) (k := k - 1) (by omega)
                have hrk := hist_ok hu (by omega) hr
                have e1 := l6Code_eq h3 (by omega) hrk
                have e2 := l6Code_eq h3 (by omega) hok
                rw [show upB s l k = decide (code r < code b) from upAt_next hb hr (by omega) hok]
                have hk1 : (0 : Int) < (k : Int) := by omega
                simp only [hk1, decide_true, if_true, Bool.not_true, Bool.false_eq_true, if_false]
                rw [idx_pred (by omega) (by omega) hr]
                simp only [Option.bind_some, e1, e2]
                by_cases hlt : code r < code b
                · simp [hlt, show ¬ code b ≤ code r by omega]
                · simp [hlt, show code b ≤ code r by omega]
          · intro nx
            simp [GsL6Good.l1, letK, appK, iteK_if]
          · omega
      · intro k nx hk
        obtain ⟨z, hz, hi⟩ := at_lt (l := s) (k := k) hk
        have hlt0 : (k : Int) < (s.length : Int) := by omega
        simp only [GsL6Good.l0, letK, hlt0, decide_true, hi, Option.bind_some, l1In_eq, appK, iteK_if, hz, if_true]
        rw [next_i (by omega)]
        exact ⟨fun h => by simp [h], fun h => by simp [h]⟩
      · intro nx
        simp [GsL6Good.l0, letK, appK, iteK_if]
      · omega
    · simp [h2, show (20 < (l.length : Int)) by omega]
end Go.Proofs.Ytekacbjnpeglhaa.Q6Tab

/- loop.example/g01062/impl.IsCompatible$1 as a plain function, and the contract of the program's: where the plain one has an answer, the program has it. Conditions: slices read as lists. -/
namespace Go.Proofs.Ytekacbjnpeglhaa.GiIsCompatible1
set_option linter.unusedVariables false
set_option linter.unusedSimpArgs false
open Go.RowKit
open Go.Proofs.Ytekacbjnpeglhaa.Rowed Go.Proofs.Ytekacbjnpeglhaa.Turn Go.Proofs.Ytekacbjnpeglhaa.Aid Go.Proofs.Ytekacbjnpeglhaa.GoP Go.Proofs.Ytekacbjnpeglhaa.GoM

def P (b : Go.Proofs.Ytekacbjnpeglhaa.PBan.Ban) (hq0 : (List Int)) : Option (Bool) :=
  unBan b fun (b_a : Int) (b_x : Int) (b_b : Int) (b_y : Int) =>
  Option.bind (Go.Proofs.Ytekacbjnpeglhaa.GiForbids.P (Go.Proofs.Ytekacbjnpeglhaa.PBan.Ban.mk b_a b_x b_b b_y) hq0) fun (t_4 : Bool) =>
  some t_4

set_option maxRecDepth 100000 in
set_option maxHeartbeats 2000000 in
theorem C (b : Go.Proofs.Ytekacbjnpeglhaa.PBan.Ban) (hq0 : (List Int)) (Ahq0 : Option Addr) (chq0 : Nat) (gq0 : Nat) (w : World) (Mhq0 : Hid (Cells w 1 Ahq0 hq0.length (Go.Proofs.Ytekacbjnpeglhaa.HelpInt.iv hq0))) (Nhq0 : Hid (hq0.length ≤ 9223372036854775807)) (Fq0h : Hid (w.cell? ⟨gq0, 0, none⟩ = some (.slice Ahq0 hq0.length chq0))) {r : Bool} (H : Hid (P b hq0 = some r)) :
    Calls Try.prog 63 #[b.val, .pointer (some ⟨gq0, 0, none⟩)] w (Gives (.bool r) w) := by
  have HB := Lib.hid (Below.refl w.heap.size w)
  unfold P at H
  obtain ⟨b_a, b_x, b_b, b_y⟩ := b
  replace H := unBan_hid H
  unfold Go.Proofs.Ytekacbjnpeglhaa.PBan.Ban.val
  have Nhq0o := Nhq0.out
  have Fq0 := Fq0h.out
  go_enter Try.func63, Try.ntmps63
  obtain ⟨w_b_0, hw_b_0⟩ : ∃ x, w.alloc (.cells #[.int .i64 b_a, .int .i64 b_x, .int .i64 b_b, .int .i64 b_y] 57) = x := ⟨_, rfl⟩
  have bw_b_0 : Below w.heap.size w w_b_0 := by rw [← hw_b_0]; exact (Below.refl _ _).alloc (Nat.le_refl _) _
  have HBw_b_0 := Lib.hid (Below.step HB.out bw_b_0)
  have Fq0__202 := cell_below bw_b_0 Fq0
  clear bw_b_0
  have kb_0_0 : w_b_0.cell? ⟨w.heap.size, 0, none⟩ = some (.int .i64 b_a) := by rw [← hw_b_0]; exact box_new _ _ _ 0 _ rfl
  have kb_0_1 : w_b_0.cell? ⟨w.heap.size, 1, none⟩ = some (.int .i64 b_x) := by rw [← hw_b_0]; exact box_new _ _ _ 1 _ rfl
  have kb_0_2 : w_b_0.cell? ⟨w.heap.size, 2, none⟩ = some (.int .i64 b_b) := by rw [← hw_b_0]; exact box_new _ _ _ 2 _ rfl
  have kb_0_3 : w_b_0.cell? ⟨w.heap.size, 3, none⟩ = some (.int .i64 b_y) := by rw [← hw_b_0]; exact box_new _ _ _ 3 _ rfl
  replace H := bind_hid H
  obtain ⟨t_4, qt_4, H⟩ := H
  go_wp2_with fail
  clear Fq0
  go_at_call 64
  refine (Go.Proofs.Ytekacbjnpeglhaa.GiForbids.C ((Go.Proofs.Ytekacbjnpeglhaa.PBan.Ban.mk b_a b_x b_b b_y)) (hq0) Ahq0 chq0 _   (Lib.hid (Cells.below Mhq0.out HBw_b_0.out)) Nhq0 qt_4).mono ?_
  rintro e_t_4 wt_4 ⟨rfl, bt_4⟩
  have HBwt_4 := Lib.hid (Below.step HBw_b_0.out bt_4)
  replace Fq0__202 := cell_below bt_4 Fq0__202
  replace kb_0_0 := cell_below bt_4 kb_0_0
  replace kb_0_1 := cell_below bt_4 kb_0_1
  replace kb_0_2 := cell_below bt_4 kb_0_2
  replace kb_0_3 := cell_below bt_4 kb_0_3
  clear bt_4
  obtain rfl := ret_hid H
  go_wp2_with fail
  go_ret
  exact ⟨rfl, HBwt_4.out⟩
end Go.Proofs.Ytekacbjnpeglhaa.GiIsCompatible1

/- slices.IndexFunc[[]loop.example/g01062/impl.Ban,loop.example/g01062/impl.Ban] as a plain function, and the contract of the program's: where the plain one has an answer, the program has it. Conditions: slices read as lists. -/
namespace Go.Proofs.Ytekacbjnpeglhaa.GxSlicesIndexFuncLoopExampleG01062ImplBanLoopExampleG01062ImplBaniIsCompatible1
set_option linter.unusedVariables false
set_option linter.unusedSimpArgs false
open Go.RowKit
open Go.Proofs.Ytekacbjnpeglhaa.Rowed Go.Proofs.Ytekacbjnpeglhaa.Turn Go.Proofs.Ytekacbjnpeglhaa.Aid Go.Proofs.Ytekacbjnpeglhaa.GoP Go.Proofs.Ytekacbjnpeglhaa.GoM

def l0 (s_0 : (List Go.Proofs.Ytekacbjnpeglhaa.PBan.Ban)) (hf1_0 : (List Int)) (k0 : Nat) (s : Unit) (nx0 bk0 : Unit → Option (Int)) : Option (Int) :=
  
  Option.bind (idx s_0 (k0 : Int)) fun (yt_10 : Go.Proofs.Ytekacbjnpeglhaa.PBan.Ban) =>
  unBan yt_10 fun (t_10_a : Int) (t_10_x : Int) (t_10_b : Int) (t_10_y : Int) =>
  Option.bind (Go.Proofs.Ytekacbjnpeglhaa.GiIsCompatible1.P (Go.Proofs.Ytekacbjnpeglhaa.PBan.Ban.mk t_10_a t_10_x t_10_b t_10_y) hf1_0) fun (t_12 : Bool) =>
  iteK t_12
  (some (k0 : Int))
  (appK nx0 ())

def e0  (s : Unit) : Option (Int) :=
  
  some (-1)

def P (s_0 : (List Go.Proofs.Ytekacbjnpeglhaa.PBan.Ban)) (hf1_0 : (List Int)) : Option (Int) :=
  cntK (l0 s_0 hf1_0) (s_0.length) 0 () (e0 )

set_option maxRecDepth 100000 in
set_option maxHeartbeats 2000000 in
theorem C (s_0 : (List Go.Proofs.Ytekacbjnpeglhaa.PBan.Ban)) (hf1_0 : (List Int)) (A0 : Option Addr) (c0 : Nat) (Ahf1_0 : Option Addr) (chf1_0 : Nat) (gf1_0 : Nat) (w : World) (M0 : Hid (Cells w 4 A0 s_0.length (Go.Proofs.Ytekacbjnpeglhaa.PBan.flat s_0))) (N0 : Hid (s_0.length ≤ 9223372036854775807)) (Mhf1_0 : Hid (Cells w 1 Ahf1_0 hf1_0.length (Go.Proofs.Ytekacbjnpeglhaa.HelpInt.iv hf1_0))) (Nhf1_0 : Hid (hf1_0.length ≤ 9223372036854775807)) (Ff1_0h : Hid (w.cell? ⟨gf1_0, 0, none⟩ = some (.slice Ahf1_0 hf1_0.length chf1_0))) {r : Int} (H : Hid (P s_0 hf1_0 = some r)) :
    Calls Try.prog 93 #[.slice A0 s_0.length c0, .func (.func 63) #[] #[.pointer (some ⟨gf1_0, 0, none⟩)]] w (Gives (.int .i64 r) w) := by
  have HB := Lib.hid (Below.refl w.heap.size w)
  unfold P at H
  have N0o := N0.out
  have Nhf1_0o := Nhf1_0.out
  have Ff1_0 := Ff1_0h.out
  go_enter Try.func93, Try.ntmps93
  go_wp2_with fail
  go_loopg [8] (s_0.length) (fun m_ v8_ wr => ∃ (k0 : Nat) , k0 + m_ = s_0.length ∧ v8_ = .int .i64 (k0 : Int) ∧ Hid (cntK (l0 s_0 hf1_0) m_ k0 () (e0 ) = some r) ∧ Hid (Below w.heap.size w wr) ∧ wr.cell? ⟨gf1_0, 0, none⟩ = some (.slice Ahf1_0 hf1_0.length chf1_0))
  case atStart => exact ⟨0, by omega, rfl, H, HB, Ff1_0⟩
  case round =>
    obtain ⟨k0, hkm0, rfl, H, HBwr0, Ff1_0⟩ := hrel
    rename World => wr0
    cases gk with
    | zero =>
      obtain rfl : k0 = s_0.length := by omega
      have hc0 : decide (((s_0.length : Nat) : Int) < ((s_0.length : Nat) : Int)) = false := by simp
      replace H := cnt_zero H
      unfold e0 at H
      obtain rfl := ret_hid H
      go_wp2_with fail
      go_ret
      exact ⟨rfl, HBwr0.out⟩
    | succ m0 =>
      have hlt0 : k0 < s_0.length := by omega
      have hc0 : decide ((k0 : Int) < ((s_0.length : Nat) : Int)) = true := by simp; omega
      replace H := cnt_succ H
      unfold l0 at H
      replace H := idx_hid H
      obtain ⟨nt_10, yt_10, et_10, lt_10, gt_10, H⟩ := H
      obtain rfl : k0 = nt_10 := by omega
      clear et_10
      obtain ⟨t_10_a, t_10_x, t_10_b, t_10_y⟩ := yt_10
      replace H := unBan_hid H
      obtain ⟨ab_t_10, ao_t_10, zt_10, At_10, z_t_10, ct_10_0, ct_10_1, ct_10_2, ct_10_3⟩ := Go.Proofs.Ytekacbjnpeglhaa.OBan.at_ M0.out lt_10
      obtain rfl := Option.some.inj (gt_10.out.symm.trans z_t_10)
      subst At_10
      have ltt_10 := cell_lt ct_10_0
      replace ct_10_0 := cell_below HBwr0.out ct_10_0
      replace ct_10_1 := cell_below HBwr0.out ct_10_1
      replace ct_10_2 := cell_below HBwr0.out ct_10_2
      replace ct_10_3 := cell_below HBwr0.out ct_10_3
      clear z_t_10
      have b0t_10 : (0 : Int) ≤ (k0 : Int) := by omega
      have b1t_10 : (k0 : Int) < ((s_0.length : Nat) : Int) := by omega
      have b2t_10 : ((k0 : Int)).toNat = k0 := by omega
      replace H := bind_hid H
      obtain ⟨t_12, qt_12, H⟩ := H
      go_wp2_with fail
      go_at_call 63
      refine (Go.Proofs.Ytekacbjnpeglhaa.GiIsCompatible1.C ((Go.Proofs.Ytekacbjnpeglhaa.PBan.Ban.mk t_10_a t_10_x t_10_b t_10_y)) (hf1_0) Ahf1_0 chf1_0 (gf1_0) _   (Lib.hid (Cells.below Mhf1_0.out HBwr0.out)) Nhf1_0 (Lib.hid Ff1_0) qt_12).mono ?_
      rintro e_t_12 wt_12 ⟨rfl, bt_12⟩
      have HBwt_12 := Lib.hid (Below.step HBwr0.out bt_12)
      replace Ff1_0 := cell_below bt_12 Ff1_0
      replace ct_10_0 := cell_below bt_12 ct_10_0
      replace ct_10_1 := cell_below bt_12 ct_10_1
      replace ct_10_2 := cell_below bt_12 ct_10_2
      replace ct_10_3 := cell_below bt_12 ct_10_3
      clear bt_12
      cases t_12 with
      | false =>
        replace H := ite_f H
        replace H := app_hid H
        go_wp2_with fail
        go_roundg m0
        case measure => omega
        case rel => exact ⟨k0 + 1, by omega, by go_num, H, HBwt_12, Ff1_0⟩
      | true =>
        replace H := ite_t H
        obtain rfl := ret_hid H
        go_wp2_with fail
        go_ret
        exact ⟨rfl, HBwt_12.out⟩
end Go.Proofs.Ytekacbjnpeglhaa.GxSlicesIndexFuncLoopExampleG01062ImplBanLoopExampleG01062ImplBaniIsCompatible1

/- slices.ContainsFunc[[]loop.example/g01062/impl.Ban,loop.example/g01062/impl.Ban] as a plain function, and the contract of the program's: where the plain one has an answer, the program has it. Conditions: slices read as lists. -/
namespace Go.Proofs.Ytekacbjnpeglhaa.GxSlicesContainsFuncLoopExampleG01062ImplBanLoopExampleG01062ImplBaniIsCompatible1
set_option linter.unusedVariables false
set_option linter.unusedSimpArgs false
open Go.RowKit
open Go.Proofs.Ytekacbjnpeglhaa.Rowed Go.Proofs.Ytekacbjnpeglhaa.Turn Go.Proofs.Ytekacbjnpeglhaa.Aid Go.Proofs.Ytekacbjnpeglhaa.GoP Go.Proofs.Ytekacbjnpeglhaa.GoM

def P (s_0 : (List Go.Proofs.Ytekacbjnpeglhaa.PBan.Ban)) (hf1_0 : (List Int)) : Option (Bool) :=
  Option.bind (Go.Proofs.Ytekacbjnpeglhaa.GxSlicesIndexFuncLoopExampleG01062ImplBanLoopExampleG01062ImplBaniIsCompatible1.P s_0 hf1_0) fun (t_3 : Int) =>
  letK (decide (0 ≤ t_3)) fun (t_4 : Bool) =>
  some t_4

set_option maxRecDepth 100000 in
set_option maxHeartbeats 2000000 in
theorem C (s_0 : (List Go.Proofs.Ytekacbjnpeglhaa.PBan.Ban)) (hf1_0 : (List Int)) (A0 : Option Addr) (c0 : Nat) (Ahf1_0 : Option Addr) (chf1_0 : Nat) (gf1_0 : Nat) (w : World) (M0 : Hid (Cells w 4 A0 s_0.length (Go.Proofs.Ytekacbjnpeglhaa.PBan.flat s_0))) (N0 : Hid (s_0.length ≤ 9223372036854775807)) (Mhf1_0 : Hid (Cells w 1 Ahf1_0 hf1_0.length (Go.Proofs.Ytekacbjnpeglhaa.HelpInt.iv hf1_0))) (Nhf1_0 : Hid (hf1_0.length ≤ 9223372036854775807)) (Ff1_0h : Hid (w.cell? ⟨gf1_0, 0, none⟩ = some (.slice Ahf1_0 hf1_0.length chf1_0))) {r : Bool} (H : Hid (P s_0 hf1_0 = some r)) :
    Calls Try.prog 62 #[.slice A0 s_0.length c0, .func (.func 63) #[] #[.pointer (some ⟨gf1_0, 0, none⟩)]] w (Gives (.bool r) w) := by
  have HB := Lib.hid (Below.refl w.heap.size w)
  unfold P at H
  have N0o := N0.out
  have Nhf1_0o := Nhf1_0.out
  have Ff1_0 := Ff1_0h.out
  go_enter Try.func62, Try.ntmps62
  replace H := bind_hid H
  obtain ⟨t_3, qt_3, H⟩ := H
  go_wp2_with fail
  go_at_call 93
  refine (Go.Proofs.Ytekacbjnpeglhaa.GxSlicesIndexFuncLoopExampleG01062ImplBanLoopExampleG01062ImplBaniIsCompatible1.C (s_0) (hf1_0) A0 c0 Ahf1_0 chf1_0 (gf1_0) _   (Lib.hid (Cells.below M0.out HB.out)) N0 (Lib.hid (Cells.below Mhf1_0.out HB.out)) Nhf1_0 (Lib.hid Ff1_0) qt_3).mono ?_
  rintro e_t_3 wt_3 ⟨rfl, bt_3⟩
  have HBwt_3 := Lib.hid (Below.step HB.out bt_3)
  replace Ff1_0 := cell_below bt_3 Ff1_0
  clear bt_3
  replace H := let_hid H
  obtain ⟨t_4, ht_4, H⟩ := H
  obtain rfl := ret_hid H
  go_wp2_with fail
  go_ret
  exact ⟨rfl, HBwt_3.out⟩
end Go.Proofs.Ytekacbjnpeglhaa.GxSlicesContainsFuncLoopExampleG01062ImplBanLoopExampleG01062ImplBaniIsCompatible1

/- loop.example/g01062/impl.IsCompatible as a plain function, and the contract of the program's: where the plain one has an answer, the program has it. Conditions: slices read as lists. -/
namespace Go.Proofs.Ytekacbjnpeglhaa.GiIsCompatible
set_option linter.unusedVariables false
set_option linter.unusedSimpArgs false
open Go.RowKit
open Go.Proofs.Ytekacbjnpeglhaa.Rowed Go.Proofs.Ytekacbjnpeglhaa.Turn Go.Proofs.Ytekacbjnpeglhaa.Aid Go.Proofs.Ytekacbjnpeglhaa.GoP Go.Proofs.Ytekacbjnpeglhaa.GoM

def P (t_sizes : (List Int)) (t_bans : (List Go.Proofs.Ytekacbjnpeglhaa.PBan.Ban)) (kind : (List Int)) : Option (Bool × Bool) :=
  Option.bind (Go.Proofs.Ytekacbjnpeglhaa.GiIsKind.P t_sizes t_bans kind) fun (t_6 : Bool) =>
  letK (!t_6) fun (t_7 : Bool) =>
  iteK t_7
  (some (false, false))
  (Option.bind (Go.Proofs.Ytekacbjnpeglhaa.GxSlicesContainsFuncLoopExampleG01062ImplBanLoopExampleG01062ImplBaniIsCompatible1.P t_bans kind) fun (t_13 : Bool) =>
  letK (!t_13) fun (t_16 : Bool) =>
  some (t_16, true))

set_option maxRecDepth 100000 in
set_option maxHeartbeats 2000000 in
theorem C (t_sizes : (List Int)) (t_bans : (List Go.Proofs.Ytekacbjnpeglhaa.PBan.Ban)) (kind : (List Int)) (A0_0 : Option Addr) (c0_0 : Nat) (A0_1 : Option Addr) (c0_1 : Nat) (A1 : Option Addr) (c1 : Nat)  (w : World) (M0_0 : Hid (Cells w 1 A0_0 t_sizes.length (Go.Proofs.Ytekacbjnpeglhaa.HelpInt.iv t_sizes))) (N0_0 : Hid (t_sizes.length ≤ 9223372036854775807)) (M0_1 : Hid (Cells w 4 A0_1 t_bans.length (Go.Proofs.Ytekacbjnpeglhaa.PBan.flat t_bans))) (N0_1 : Hid (t_bans.length ≤ 9223372036854775807)) (M1 : Hid (Cells w 1 A1 kind.length (Go.Proofs.Ytekacbjnpeglhaa.HelpInt.iv kind))) (N1 : Hid (kind.length ≤ 9223372036854775807))  {r0 : Bool} {r1 : Bool} (H : Hid (P t_sizes t_bans kind = some (r0, r1))) :
    Calls Try.prog 20 #[.agg #[.slice A0_0 t_sizes.length c0_0, .slice A0_1 t_bans.length c0_1], .slice A1 kind.length c1] w (Gives (.tuple #[.bool r0, .bool r1]) w) := by
  have HB := Lib.hid (Below.refl w.heap.size w)
  unfold P at H
  have N0_0o := N0_0.out
  have N0_1o := N0_1.out
  have N1o := N1.out
  go_enter Try.func20, Try.ntmps20
  obtain ⟨w_t_0, hw_t_0⟩ : ∃ x, w.alloc (.cells #[.slice A0_0 t_sizes.length c0_0, .slice A0_1 t_bans.length c0_1] 30) = x := ⟨_, rfl⟩
  have bw_t_0 : Below w.heap.size w w_t_0 := by rw [← hw_t_0]; exact (Below.refl _ _).alloc (Nat.le_refl _) _
  have HBw_t_0 := Lib.hid (Below.step HB.out bw_t_0)
  clear bw_t_0
  have kt_0_0 : w_t_0.cell? ⟨w.heap.size, 0, none⟩ = some (.slice A0_0 t_sizes.length c0_0) := by rw [← hw_t_0]; exact box_new _ _ _ 0 _ rfl
  have kt_0_1 : w_t_0.cell? ⟨w.heap.size, 1, none⟩ = some (.slice A0_1 t_bans.length c0_1) := by rw [← hw_t_0]; exact box_new _ _ _ 1 _ rfl
  obtain ⟨w_kind_1, hw_kind_1⟩ : ∃ x, w_t_0.alloc (.cells #[.slice A1 kind.length c1] 22) = x := ⟨_, rfl⟩
  have bw_kind_1 : Below w_t_0.heap.size w_t_0 w_kind_1 := by rw [← hw_kind_1]; exact (Below.refl _ _).alloc (Nat.le_refl _) _
  have HBw_kind_1 := Lib.hid (Below.step HBw_t_0.out bw_kind_1)
  have kt_0_0__203 := cell_below bw_kind_1 kt_0_0
  have kt_0_1__204 := cell_below bw_kind_1 kt_0_1
  clear bw_kind_1
  have kkind_1_0 : w_kind_1.cell? ⟨w_t_0.heap.size, 0, none⟩ = some (.slice A1 kind.length c1) := by rw [← hw_kind_1]; exact box_new _ _ _ 0 _ rfl
  replace H := bind_hid H
  obtain ⟨t_6, qt_6, H⟩ := H
  go_wp2_with fail
  clear kt_0_0 kt_0_1
  go_at_call 61
  refine (Go.Proofs.Ytekacbjnpeglhaa.GiIsKind.C (t_sizes) (t_bans) (kind) A0_0 c0_0 A0_1 c0_1 A1 c1 _   (Lib.hid (Cells.below M0_0.out HBw_kind_1.out)) N0_0 (Lib.hid (Cells.below M0_1.out HBw_kind_1.out)) N0_1 (Lib.hid (Cells.below M1.out HBw_kind_1.out)) N1 qt_6).mono ?_
  rintro e_t_6 wt_6 ⟨rfl, bt_6⟩
  have HBwt_6 := Lib.hid (Below.step HBw_kind_1.out bt_6)
  replace kt_0_0__203 := cell_below bt_6 kt_0_0__203
  replace kt_0_1__204 := cell_below bt_6 kt_0_1__204
  replace kkind_1_0 := cell_below bt_6 kkind_1_0
  clear bt_6
  cases t_6 with
  | false =>
    replace H := let_hid H
    obtain ⟨t_7, ht_7, H⟩ := H
    obtain rfl : t_7 = true := ht_7.symm
    replace H := ite_t H
    cases ret_hid H
    go_wp2_with fail
    go_ret2
    exact ⟨rfl, HBwt_6.out⟩
  | true =>
    replace H := let_hid H
    obtain ⟨t_7, ht_7, H⟩ := H
    obtain rfl : t_7 = false := ht_7.symm
    replace H := ite_f H
    replace H := bind_hid H
    obtain ⟨t_13, qt_13, H⟩ := H
    go_wp2_with fail
    go_at_call 62
    refine (Go.Proofs.Ytekacbjnpeglhaa.GxSlicesContainsFuncLoopExampleG01062ImplBanLoopExampleG01062ImplBaniIsCompatible1.C (t_bans) (kind) A0_1 c0_1 A1 c1 (w_t_0.heap.size) _   (Lib.hid (Cells.below M0_1.out HBwt_6.out)) N0_1 (Lib.hid (Cells.below M1.out HBwt_6.out)) N1 (Lib.hid kkind_1_0) qt_13).mono ?_
    rintro e_t_13 wt_13 ⟨rfl, bt_13⟩
    have HBwt_13 := Lib.hid (Below.step HBwt_6.out bt_13)
    replace kt_0_0__203 := cell_below bt_13 kt_0_0__203
    replace kt_0_1__204 := cell_below bt_13 kt_0_1__204
    replace kkind_1_0 := cell_below bt_13 kkind_1_0
    clear bt_13
    cases t_13 with
    | false =>
      replace H := let_hid H
      obtain ⟨t_16, ht_16, H⟩ := H
      obtain rfl : t_16 = true := ht_16.symm
      cases ret_hid H
      go_wp2_with fail
      go_ret2
      exact ⟨rfl, HBwt_13.out⟩
    | true =>
      replace H := let_hid H
      obtain ⟨t_16, ht_16, H⟩ := H
      obtain rfl : t_16 = false := ht_16.symm
      cases ret_hid H
      go_wp2_with fail
      go_ret2
      exact ⟨rfl, HBwt_13.out⟩
end Go.Proofs.Ytekacbjnpeglhaa.GiIsCompatible

/- Chapter 6: tables of kinds: the plain functions of the program and of the reference agree, and the laws answer true. (Q6Kind) No condition but those of each theorem. -/
namespace Go.Proofs.Ytekacbjnpeglhaa.Q6Kind
set_option linter.unusedVariables false
set_option linter.unusedSimpArgs false
open Go.RowKit
open Go.Proofs.Ytekacbjnpeglhaa.GoP Go.Proofs.Ytekacbjnpeglhaa.PlainStamp Go.Proofs.Ytekacbjnpeglhaa.QBase Go.Proofs.Ytekacbjnpeglhaa.Q6Tab Go.Proofs.Ytekacbjnpeglhaa.Q6Ban Go.Proofs.Ytekacbjnpeglhaa.QLoop Go.Proofs.Ytekacbjnpeglhaa.QAll Go.Proofs.Ytekacbjnpeglhaa.PBan

def okV (s k : List Int) (i : Nat) : Bool := match s[i]?, k[i]? with | some z, some v => inB v 0 (z - 1) | _, _ => true
def okK (s k : List Int) : Bool := decide (k.length = s.length) && allN k.length (okV s k)
theorem okK_len {s k : List Int} (h : okK s k = true) : k.length = s.length := by
  unfold okK at h; simp only [Bool.and_eq_true, decide_eq_true_eq] at h; exact h.1
theorem okK_at {s k : List Int} (h : okK s k = true) {i : Nat} {z v : Int} (hz : s[i]? = some z) (hv : k[i]? = some v) : 0 ≤ v ∧ v < z := by
  unfold okK at h
  simp only [Bool.and_eq_true, decide_eq_true_eq] at h
  have := allN_iff.1 h.2 i (List.getElem?_eq_some_iff.1 hv).1
  unfold okV at this
  rw [hz, hv] at this
  have := inB_of this
  omega
theorem okK_mk {s k : List Int} (hl : k.length = s.length) (h : ∀ (i : Nat) (z v : Int), s[i]? = some z → k[i]? = some v → 0 ≤ v ∧ v < z) : okK s k = true := by
  unfold okK
  simp only [Bool.and_eq_true, decide_eq_true_eq]
  refine ⟨hl, allN_iff.2 fun i hi => ?_⟩
  obtain ⟨v, hv, _⟩ := at_lt (l := k) (k := i) hi
  obtain ⟨z, hz, _⟩ := at_lt (l := s) (k := i) (by omega)
  unfold okV
  rw [hz, hv]
  have := h i z v hz hv
  exact inB_yes (by omega) (by omega)
theorem isKind_eq (s : List Int) (l : List Ban) (k : List Int) (hs : s.length ≤ 9223372036854775807) (hl : l.length ≤ 9223372036854775807) : GiIsKind.P s l k = some (okT s l && okK s k) := by
  simp only [GiIsKind.P, isTable_eq s l hs hl, Option.bind_some, letK, joinK, appK, iteK_if]
  cases ht : okT s l with
  | false => simp
  | true =>
    obtain ⟨t1, t2, t3, t4, t5⟩ := okT_of ht
    by_cases hk : k.length = s.length
    · have e1 : ((k.length : Int) != (s.length : Int)) = false := by rw [hk]; simp
      simp only [e1, Bool.not_true, Bool.false_eq_true, if_false, Bool.true_and]
      rw [all_cnt (p := okV s k) (no := false)]
      · unfold okK; cases allN k.length (okV s k) <;> simp [hk, GiIsKind.e0]
      · intro i nx hi
        obtain ⟨v, hv, hvi⟩ := at_lt (l := k) (k := i) hi
        obtain ⟨z, hz, _⟩ := at_lt (l := s) (k := i) (by omega)
        simp only [GiIsKind.l0, hvi, Option.bind_some, hasValue_eq s t4 (by omega), letK, appK, iteK_if]
        have e2 : inB (i : Int) 0 (s.length - 1) = true := inB_yes (by omega) (by omega)
        have e3 : okV s k i = inB v 0 (z - 1) := by unfold okV; rw [hz, hv]
        have e4 : hasV s (i : Int) v = inB v 0 (z - 1) := by unfold hasV; rw [e2, Int.toNat_natCast, hz]; simp
        rw [e3, e4]
        exact ⟨fun h => by simp [h], fun h => by simp [h]⟩
    · have e1 : ((k.length : Int) != (s.length : Int)) = true := by simp; omega
      unfold okK
      simp [e1, hk]
theorem l6Kind_eq {s : List Int} {l : List Ban} (ht : okT s l = true) (k : List Int) : GsL6Kind.P s l k = some (okK s k) := by
  obtain ⟨t1, t2, t3, t4, t5⟩ := okT_of ht
  simp only [GsL6Kind.P, letK, iteK_if]
  by_cases hk : k.length = s.length
  · have e1 : ((k.length : Int) != (s.length : Int)) = false := by rw [hk]; simp
    simp only [e1, Bool.false_eq_true, if_false]
    rw [all_cnt (p := okV s k) (no := false)]
    · unfold okK; cases allN k.length (okV s k) <;> simp [hk, GsL6Kind.e0]
    · intro i nx hi
      obtain ⟨v, hv, hvi⟩ := at_lt (l := k) (k := i) hi
      obtain ⟨z, hz, hzi⟩ := at_lt (l := s) (k := i) (by omega)
      have hz2 := okS_at t4 hz
      simp only [GsL6Kind.l0, hvi, hzi, Option.bind_some, l1In_eq, letK, appK, iteK_if]
      rw [wrap_in (by omega) (by omega)]
      have e3 : okV s k i = inB v 0 (z - 1) := by unfold okV; rw [hz, hv]
      rw [e3]
      exact ⟨fun h => by simp [h], fun h => by simp [h]⟩
  · have e1 : ((k.length : Int) != (s.length : Int)) = true := by simp; omega
    unfold okK
    simp [e1, hk]
/-- does the ban forbid the kind -/
def frb (k : List Int) (b : Ban) : Bool := (k[b.a.toNat]?.getD 0 == b.x) && (k[b.b.toNat]?.getD 0 == b.y)
def free (l : List Ban) (k : List Int) : Bool := l.all fun b => !frb k b
theorem okB_nat {s : List Int} (hs : okS s = true) (hl : s.length ≤ 5) {b : Ban} (h : okB s b = true) : ∃ i j : Nat, b.a = (i : Int) ∧ b.b = (j : Int) ∧ i < j ∧ j < s.length := by
  have := okB_in hs hl h
  exact ⟨b.a.toNat, b.b.toNat, by omega, by omega, by omega, by omega⟩
theorem forbids_eq {s : List Int} (hs : okS s = true) (hl : s.length ≤ 5) {b : Ban} (h : okB s b = true) {k : List Int} (hk : k.length = s.length) : GiForbids.P b k = some (frb k b) := by
  obtain ⟨i, j, h1, h2, h3, h4⟩ := okB_nat hs hl h
  obtain ⟨a, x, c, y⟩ := b
  dsimp only at h1 h2
  subst h1; subst h2
  obtain ⟨u, hu, hui⟩ := at_lt (l := k) (k := i) (by omega)
  obtain ⟨v, hv, hvi⟩ := at_lt (l := k) (k := j) (by omega)
  simp only [GiForbids.P, unBan, hui, hvi, Option.bind_some, letK, joinK, appK, iteK_if, frb, Int.toNat_natCast, hu, hv, Option.getD_some]
  cases u == x <;> simp
theorem bans_at {s : List Int} {l : List Ban} (ht : okT s l = true) {i : Nat} {b : Ban} (hb : l[i]? = some b) : okB s b = true := (okT_of ht).2.2.2.2 b (List.mem_of_getElem? hb)
theorem free_allN (l : List Ban) (k : List Int) : free l k = allN l.length fun i => match l[i]? with | some b => !frb k b | none => true := by
  rw [Bool.eq_iff_iff, allN_iff]
  unfold free
  rw [List.all_eq_true]
  constructor
  · intro h i hi
    obtain ⟨b, hb, _⟩ := at_lt (l := l) (k := i) hi
    simp only [hb]
    exact h b (List.mem_of_getElem? hb)
  · intro h b hb
    obtain ⟨i, hi⟩ := List.getElem?_of_mem hb
    have := h i (List.getElem?_eq_some_iff.1 hi).1
    simpa only [hi] using this
theorem contains_eq {s : List Int} {l : List Ban} (ht : okT s l = true) {k : List Int} (hk : k.length = s.length) :
    GxSlicesContainsFuncLoopExampleG01062ImplBanLoopExampleG01062ImplBaniIsCompatible1.P l k = some (!free l k) := by
  obtain ⟨t1, t2, t3, t4, t5⟩ := okT_of ht
  simp only [GxSlicesContainsFuncLoopExampleG01062ImplBanLoopExampleG01062ImplBaniIsCompatible1.P, letK]
  obtain ⟨c, hc, hi⟩ : ∃ c, GxSlicesIndexFuncLoopExampleG01062ImplBanLoopExampleG01062ImplBaniIsCompatible1.P l k = some c ∧ (0 ≤ c ↔ free l k = false) := by
    simp only [GxSlicesIndexFuncLoopExampleG01062ImplBanLoopExampleG01062ImplBaniIsCompatible1.P]
    refine cnt_ex (n := l.length) (Q := fun c => 0 ≤ c ↔ free l k = false) (fun j _ => ∀ i b, i < j → l[i]? = some b → frb k b = false) ?_ ?_ l.length 0 () (by omega) (fun i b hi _ => by omega)
    · intro j _ nx hj hI hn
      obtain ⟨b, hb, hbi⟩ := at_lt (l := l) (k := j) hj
      simp only [GxSlicesIndexFuncLoopExampleG01062ImplBanLoopExampleG01062ImplBaniIsCompatible1.l0, hbi, Option.bind_some, unBan, GiIsCompatible1.P, forbids_eq t4 t2 (t5 b (List.mem_of_getElem? hb)) hk, appK, iteK_if]
      cases hf : frb k b with
      | true =>
        refine ⟨_, by rw [if_pos rfl], ⟨fun _ => ?_, fun _ => by omega⟩⟩
        rw [Bool.eq_false_iff]
        intro ha
        have := List.all_eq_true.1 ha b (List.mem_of_getElem? hb)
        rw [hf] at this; simp at this
      | false =>
        rw [if_neg (by simp)]
        refine hn () (fun i b' hi hb' => ?_)
        by_cases he : i = j
        · subst he; obtain rfl := Option.some.inj (hb.symm.trans hb'); exact hf
        · exact hI i b' (by omega) hb'
    · intro _ hI
      refine ⟨_, rfl, ⟨fun h => by omega, fun h => ?_⟩⟩
      exfalso
      rw [Bool.eq_false_iff] at h
      refine h (List.all_eq_true.2 fun b hb => ?_)
      obtain ⟨i, hi⟩ := List.getElem?_of_mem hb
      rw [hI i b (List.getElem?_eq_some_iff.1 hi).1 hi]; rfl
  rw [hc]
  simp only [Option.bind_some]
  cases hf : free l k with
  | false => rw [decide_eq_true (hi.2 hf)]; rfl
  | true => rw [decide_eq_false (fun h => by rw [hi.1 h] at hf; exact absurd hf (by simp))]; rfl
theorem l6Free_eq {s : List Int} {l : List Ban} (ht : okT s l = true) {k : List Int} (hk : k.length = s.length) (fuel : Nat) (hf : 21 ≤ fuel) : GsL6Free.P fuel s l k = some (free l k) := by
  obtain ⟨t1, t2, t3, t4, t5⟩ := okT_of ht
  simp only [GsL6Free.P]
  rw [all_lp (n := l.length) (p := fun i => match l[i]? with | some b => !frb k b | none => true) (no := false)]
  · rw [free_allN]
    cases allN l.length (fun i => match l[i]? with | some b => !frb k b | none => true) <;> simp [GsL6Free.e0, letK]
  · intro i nx hi
    obtain ⟨b, hb, hbi⟩ := at_lt (l := l) (k := i) hi
    obtain ⟨p, q, h1, h2, h3, h4⟩ := okB_nat t4 t2 (t5 b (List.mem_of_getElem? hb))
    have hlt0 : (i : Int) < (l.length : Int) := by omega
    simp only [hb]
    obtain ⟨a, x, c, y⟩ := b
    dsimp only at h1 h2
    subst h1; subst h2
    obtain ⟨u, hu, hui⟩ := at_lt (l := k) (k := p) (by omega)
    obtain ⟨v, hv, hvi⟩ := at_lt (l := k) (k := q) (by omega)
    simp only [GsL6Free.l0, letK, hlt0, decide_true, hbi, Option.bind_some, unBan, hui, hvi, joinK, appK, iteK_if, if_true, frb, Int.toNat_natCast, hu, hv, Option.getD_some]
    rw [next_i (by omega)]
    cases u == x <;> cases v == y <;> simp
  · intro nx
    simp [GsL6Free.l0, letK, appK, iteK_if]
  · omega
theorem compat_impl (s : List Int) (l : List Ban) (k : List Int) (hs : s.length ≤ 9223372036854775807) (hl : l.length ≤ 9223372036854775807) :
    GiIsCompatible.P s l k = some (okT s l && okK s k && free l k, okT s l && okK s k) := by
  simp only [GiIsCompatible.P, isKind_eq s l k hs hl, Option.bind_some, letK, iteK_if]
  cases ht : okT s l with
  | false => simp
  | true =>
    cases hk : okK s k with
    | false => simp
    | true => simp [contains_eq ht (okK_len hk)]
end Go.Proofs.Ytekacbjnpeglhaa.Q6Kind

/- Chapter 6: kinds in their order, as numbers: the program's search and the reference's. (Q6Num) No condition but those of each theorem. -/
namespace Go.Proofs.Ytekacbjnpeglhaa.Q6Num
set_option linter.unusedVariables false
set_option linter.unusedSimpArgs false
open Go.RowKit
open Go.Proofs.Ytekacbjnpeglhaa.GoP Go.Proofs.Ytekacbjnpeglhaa.PlainStamp Go.Proofs.Ytekacbjnpeglhaa.QBase Go.Proofs.Ytekacbjnpeglhaa.Q6Kind Go.Proofs.Ytekacbjnpeglhaa.Q6Tab Go.Proofs.Ytekacbjnpeglhaa.Q6Ban Go.Proofs.Ytekacbjnpeglhaa.QLoop Go.Proofs.Ytekacbjnpeglhaa.QAll Go.Proofs.Ytekacbjnpeglhaa.PBan

def prod : List Int → Int
  | [] => 1
  | z :: s => z * prod s
def num : List Int → List Int → Int
  | z :: s, v :: k => v * prod s + num s k
  | _, _ => 0
def pos (s : List Int) : Prop := ∀ z ∈ s, 0 < z
theorem pos_of {s : List Int} (h : okS s = true) : pos s := by
  intro z hz
  obtain ⟨i, hi⟩ := List.getElem?_of_mem hz
  have := okS_at h hi
  omega
theorem pos_take {s : List Int} (h : pos s) (n : Nat) : pos (s.take n) := fun z hz => h z (List.mem_of_mem_take hz)
theorem pos_drop {s : List Int} (h : pos s) (n : Nat) : pos (s.drop n) := fun z hz => h z (List.mem_of_mem_drop hz)
theorem prod_pos {s : List Int} (h : pos s) : 0 < prod s := by
  induction s with
  | nil => simp [prod]
  | cons z s ih => exact Int.mul_pos (h z (by simp)) (ih (fun y hy => h y (by simp [hy])))
theorem okK_cons {z v : Int} {s k : List Int} : okK (z :: s) (v :: k) = true ↔ (0 ≤ v ∧ v < z) ∧ okK s k = true := by
  constructor
  · intro h
    refine ⟨okK_at h (i := 0) rfl rfl, okK_mk (by have := okK_len h; simpa using this) fun i z' v' hz hv => okK_at h (i := i + 1) (by simpa using hz) (by simpa using hv)⟩
  · rintro ⟨h1, h2⟩
    refine okK_mk (by have := okK_len h2; simpa using this) fun i z' v' hz hv => ?_
    cases i with
    | zero =>
      simp only [List.getElem?_cons_zero, Option.some.injEq] at hz hv
      subst hz; subst hv; exact h1
    | succ i => exact okK_at h2 (i := i) (by simpa using hz) (by simpa using hv)
theorem okK_nil : okK [] [] = true := okK_mk rfl fun i z v hz _ => by simp at hz
theorem num_range : ∀ {s k : List Int}, pos s → okK s k = true → 0 ≤ num s k ∧ num s k < prod s := by
  intro s
  induction s with
  | nil =>
    intro k _ h
    have := okK_len h
    cases k with
    | nil => simp [num, prod]
    | cons v k => simp at this
  | cons z s ih =>
    intro k hp h
    cases k with
    | nil => have := okK_len h; simp at this
    | cons v k =>
      obtain ⟨h1, h2⟩ := okK_cons.1 h
      have hp2 : pos s := fun y hy => hp y (by simp [hy])
      obtain ⟨h3, h4⟩ := ih hp2 h2
      have hP := prod_pos hp2
      simp only [num, prod]
      have e1 : 0 ≤ v * prod s := Int.mul_nonneg h1.1 (by omega)
      have e2 : (v + 1) * prod s ≤ z * prod s := Int.mul_le_mul_of_nonneg_right (by omega) (by omega)
      rw [Int.add_mul, Int.one_mul] at e2
      omega
theorem num_inj : ∀ {s k k' : List Int}, pos s → okK s k = true → okK s k' = true → num s k = num s k' → k = k' := by
  intro s
  induction s with
  | nil =>
    intro k k' _ h h' _
    have e1 := okK_len h
    have e2 := okK_len h'
    rw [List.eq_nil_of_length_eq_zero e1, List.eq_nil_of_length_eq_zero e2]
  | cons z s ih =>
    intro k k' hp h h' e
    have hp2 : pos s := fun y hy => hp y (by simp [hy])
    cases k with
    | nil => have := okK_len h; simp at this
    | cons v k =>
      cases k' with
      | nil => have := okK_len h'; simp at this
      | cons v' k' =>
        obtain ⟨h1, h2⟩ := okK_cons.1 h
        obtain ⟨h3, h4⟩ := okK_cons.1 h'
        have r1 := num_range hp2 h2
        have r2 := num_range hp2 h4
        simp only [num] at e
        have hv : v = v' := by
          rcases Int.lt_trichotomy v v' with hl | hl | hl
          · have e2 : (v + 1) * prod s ≤ v' * prod s := Int.mul_le_mul_of_nonneg_right (by omega) (by omega)
            rw [Int.add_mul, Int.one_mul] at e2
            omega
          · exact hl
          · have e2 : (v' + 1) * prod s ≤ v * prod s := Int.mul_le_mul_of_nonneg_right (by omega) (by omega)
            rw [Int.add_mul, Int.one_mul] at e2
            omega
        subst hv
        rw [ih hp2 h2 h4 (by omega)]
theorem prod_append (s1 s2 : List Int) : prod (s1 ++ s2) = prod s1 * prod s2 := by
  induction s1 with
  | nil => simp [prod]
  | cons z s ih => simp only [List.cons_append, prod, ih, Int.mul_assoc]
theorem num_append : ∀ {s1 k1 : List Int} (s2 k2 : List Int), k1.length = s1.length → num (s1 ++ s2) (k1 ++ k2) = num s1 k1 * prod s2 + num s2 k2 := by
  intro s1
  induction s1 with
  | nil => intro k1 s2 k2 h; obtain rfl := List.eq_nil_of_length_eq_zero h; simp [num]
  | cons z s ih =>
    intro k1 s2 k2 h
    cases k1 with
    | nil => simp at h
    | cons v k =>
      simp only [List.cons_append, num, prod_append]
      rw [ih s2 k2 (by simpa using h), Int.add_mul, Int.mul_assoc]
      omega
theorem num_snoc {s k : List Int} (z v : Int) (h : k.length = s.length) : num (s ++ [z]) (k ++ [v]) = num s k * z + v := by
  rw [num_append [z] [v] h]
  simp [num, prod]
theorem num_zeros (s : List Int) : num s (List.replicate s.length 0) = 0 := by
  induction s with
  | nil => rfl
  | cons z s ih => simp [List.replicate_succ, num, ih]
theorem okK_zeros {s : List Int} (h : pos s) : okK s (List.replicate s.length 0) = true := by
  refine okK_mk (by simp) fun i z v hz hv => ?_
  rw [List.getElem?_replicate] at hv
  split at hv
  · obtain rfl := Option.some.inj hv
    have := h z (List.mem_of_getElem? hz)
    omega
  · cases hv
theorem okK_append : ∀ {s1 k1 s2 k2 : List Int}, okK s1 k1 = true → okK s2 k2 = true → okK (s1 ++ s2) (k1 ++ k2) = true := by
  intro s1
  induction s1 with
  | nil => intro k1 s2 k2 h h2; obtain rfl := List.eq_nil_of_length_eq_zero (okK_len h); exact h2
  | cons z s ih =>
    intro k1 s2 k2 h h2
    cases k1 with
    | nil => have := okK_len h; simp at this
    | cons v k => obtain ⟨h3, h4⟩ := okK_cons.1 h; exact okK_cons.2 ⟨h3, ih h4 h2⟩
theorem okK_take {s k : List Int} (h : okK s k = true) (n : Nat) : okK (s.take n) (k.take n) = true := by
  have hl := okK_len h
  refine okK_mk (by simp [hl]) fun i z v hz hv => ?_
  rw [List.getElem?_take] at hz hv
  split at hz
  · rename_i hi
    rw [if_pos hi] at hv
    exact okK_at h hz hv
  · cases hz
theorem okK_drop {s k : List Int} (h : okK s k = true) (n : Nat) : okK (s.drop n) (k.drop n) = true := by
  have hl := okK_len h
  refine okK_mk (by simp [hl]) fun i z v hz hv => ?_
  rw [List.getElem?_drop] at hz hv
  exact okK_at h hz hv
theorem drop_at {s : List Int} {m : Nat} {z : Int} (h : s[m]? = some z) : s.drop m = z :: s.drop (m + 1) := by
  obtain ⟨hm, e⟩ := List.getElem?_eq_some_iff.1 h
  rw [List.drop_eq_getElem_cons hm, e]
theorem prod_le {s : List Int} (h : okS s = true) (n : Nat) : prod (s.take n) ≤ 5 ^ (s.take n).length := by
  have hz : ∀ z ∈ s.take n, 1 ≤ z ∧ z ≤ 5 := by
    intro z hz
    obtain ⟨i, hi⟩ := List.getElem?_of_mem (List.mem_of_mem_take hz)
    exact okS_at h hi
  generalize s.take n = t at hz
  induction t with
  | nil => simp [prod]
  | cons z t ih =>
    have h1 := hz z (by simp)
    have h2 := ih (fun y hy => hz y (by simp [hy]))
    have hp : 0 < prod t := prod_pos (fun y hy => by have := hz y (by simp [hy]); omega)
    simp only [prod, List.length_cons]
    have e1 : z * prod t ≤ 5 * prod t := Int.mul_le_mul_of_nonneg_right (by omega) (by omega)
    have e2 : (5 : Int) ^ (t.length + 1) = 5 ^ t.length * 5 := Int.pow_succ _ _
    omega
theorem prod_small {s : List Int} (h : okS s = true) (hl : s.length ≤ 5) (n : Nat) : prod (s.take n) ≤ 3125 := by
  have h1 := prod_le h n
  have h2 : (s.take n).length ≤ 5 := by rw [List.length_take]; omega
  generalize (s.take n).length = m at h1 h2
  have : m = 0 ∨ m = 1 ∨ m = 2 ∨ m = 3 ∨ m = 4 ∨ m = 5 := by omega
  rcases this with rfl | rfl | rfl | rfl | rfl | rfl
  all_goals (have e0 : (5 : Int) ^ 0 = 1 := rfl; have e1 : (5 : Int) ^ 1 = 5 := rfl; have e2 : (5 : Int) ^ 2 = 25 := rfl; have e3 : (5 : Int) ^ 3 = 125 := rfl; have e4 : (5 : Int) ^ 4 = 625 := rfl; have e5 : (5 : Int) ^ 5 = 3125 := rfl; omega)
theorem prod_small' {s : List Int} (h : okS s = true) (hl : s.length ≤ 5) : prod s ≤ 3125 := by
  have := prod_small h hl s.length
  rwa [List.take_length] at this
theorem set_mid {k r : List Int} {m : Nat} {v x : Int} (hv : k[m]? = some v) : (k.take (m + 1) ++ r).set m x = k.take m ++ (x :: r) := by
  have hm := (List.getElem?_eq_some_iff.1 hv).1
  rw [take_next hv, List.append_assoc, List.set_append_right _ _ (by rw [List.length_take]; omega), List.length_take, Nat.min_eq_left (by omega), Nat.sub_self]
  rfl
theorem idx_mid {k r : List Int} {m : Nat} {x : Int} (hm : m ≤ k.length) : idx (k.take m ++ (x :: r)) (m : Int) = some x := by
  rw [idx_nat, List.getElem?_append_right (by rw [List.length_take]; omega), List.length_take, Nat.min_eq_left hm, Nat.sub_self]
  rfl
/-- all kinds up to M with the same values up to t -/
def blockEnd (s k : List Int) (t : Nat) : Int := (num (s.take (t + 1)) (k.take (t + 1)) + 1) * prod (s.drop (t + 1))
theorem block_same {s k u : List Int} (hp : pos s) (hk : okK s k = true) (hu : okK s u = true) {t : Nat} (h1 : num s k ≤ num s u) (h2 : num s u < blockEnd s k t) : u.take (t + 1) = k.take (t + 1) := by
  unfold blockEnd at h2
  have a1 := okK_take hk (t + 1)
  have a2 := okK_take hu (t + 1)
  have b1 := num_range (pos_drop hp (t + 1)) (okK_drop hk (t + 1))
  have b2 := num_range (pos_drop hp (t + 1)) (okK_drop hu (t + 1))
  have e1 := num_append (s.drop (t + 1)) (k.drop (t + 1)) (okK_len a1)
  have e2 := num_append (s.drop (t + 1)) (u.drop (t + 1)) (okK_len a2)
  rw [List.take_append_drop, List.take_append_drop] at e1 e2
  generalize prod (s.drop (t + 1)) = P at *
  have hlt : num (s.take (t + 1)) (u.take (t + 1)) < num (s.take (t + 1)) (k.take (t + 1)) + 1 := by
    rcases Int.lt_or_le (num (s.take (t + 1)) (u.take (t + 1))) (num (s.take (t + 1)) (k.take (t + 1)) + 1) with h | h
    · exact h
    · have := Int.mul_le_mul_of_nonneg_right h (show 0 ≤ P by omega)
      omega
  have hge : num (s.take (t + 1)) (k.take (t + 1)) < num (s.take (t + 1)) (u.take (t + 1)) + 1 := by
    rcases Int.lt_or_le (num (s.take (t + 1)) (k.take (t + 1))) (num (s.take (t + 1)) (u.take (t + 1)) + 1) with h | h
    · exact h
    · have := Int.mul_le_mul_of_nonneg_right h (show 0 ≤ P by omega)
      rw [Int.add_mul, Int.one_mul] at this
      omega
  exact num_inj (pos_take hp (t + 1)) a2 a1 (by omega)
theorem block_after {s k : List Int} (hp : pos s) (hk : okK s k = true) (t : Nat) : num s k < blockEnd s k t := by
  unfold blockEnd
  have a1 := okK_take hk (t + 1)
  have b1 := num_range (pos_drop hp (t + 1)) (okK_drop hk (t + 1))
  have e1 := num_append (s.drop (t + 1)) (k.drop (t + 1)) (okK_len a1)
  rw [List.take_append_drop, List.take_append_drop] at e1
  rw [Int.add_mul, Int.one_mul]
  omega
theorem frb_take {s k u : List Int} (hs : okS s = true) (hl : s.length ≤ 5) {b : Ban} (hb : okB s b = true) {t : Nat} (ht : b.b = (t : Int)) (h : u.take (t + 1) = k.take (t + 1)) : frb u b = frb k b := by
  obtain ⟨i, j, h1, h2, h3, h4⟩ := okB_nat hs hl hb
  obtain rfl : j = t := by omega
  have e : ∀ q, q < j + 1 → u[q]? = k[q]? := by
    intro q hq
    have := congrArg (fun l => l[q]?) h
    simp only [List.getElem?_take, if_pos hq] at this
    exact this
  unfold frb
  rw [h1, h2, Int.toNat_natCast, Int.toNat_natCast, e i (by omega), e j (by omega)]
end Go.Proofs.Ytekacbjnpeglhaa.Q6Num

/- Chapter 6: kinds in their order, as numbers: the program's search and the reference's. (Q6Adv) No condition but those of each theorem. -/
namespace Go.Proofs.Ytekacbjnpeglhaa.Q6Adv
set_option linter.unusedVariables false
set_option linter.unusedSimpArgs false
open Go.RowKit
open Go.Proofs.Ytekacbjnpeglhaa.GoP Go.Proofs.Ytekacbjnpeglhaa.PlainStamp Go.Proofs.Ytekacbjnpeglhaa.QBase Go.Proofs.Ytekacbjnpeglhaa.Q6Num Go.Proofs.Ytekacbjnpeglhaa.Q6Kind Go.Proofs.Ytekacbjnpeglhaa.Q6Tab Go.Proofs.Ytekacbjnpeglhaa.Q6Ban Go.Proofs.Ytekacbjnpeglhaa.QLoop Go.Proofs.Ytekacbjnpeglhaa.QAll Go.Proofs.Ytekacbjnpeglhaa.PBan

theorem advance_eq {s k : List Int} (hs : okS s = true) (hl : s.length ≤ 5) (hk : okK s k = true) {t : Nat} (ht : t < s.length) (fuel : Nat) (hf : 7 ≤ fuel) :
    ∃ ok k', GiAdvance.P fuel s k (t : Int) = some (ok, k') ∧ (ok = true → okK s k' = true ∧ num s k' = blockEnd s k t) ∧ (ok = false → prod s = blockEnd s k t) := by
  have hlen := okK_len hk
  have hp := pos_of hs
  obtain ⟨⟨ok, k'⟩, h, hq⟩ : ∃ r : Bool × List Int, GiAdvance.P fuel s k (t : Int) = some r ∧ ((r.1 = true → okK s r.2 = true ∧ num s r.2 = blockEnd s k t) ∧ (r.1 = false → prod s = blockEnd s k t)) := by
    simp only [GiAdvance.P, letK]
    rw [wrap_in (by omega) (by omega), guardK_pos (by omega), show Int.toNat ((t : Int) + 1) = t + 1 by omega]
    refine lp_ex (n := t + 1) (fun j (st : List Int × Int) => st.2 = (t : Int) - (j : Int) ∧ st.1 = k.take (t + 1 - j) ++ List.replicate (k.length - (t + 1 - j)) 0 ∧
      (num (s.take (t + 1 - j)) (k.take (t + 1 - j)) + 1) * prod (s.drop (t + 1 - j)) = blockEnd s k t) ?_ ?_ fuel 0 _ (by omega) (by omega) ⟨by simp, by simp, by simp [blockEnd]⟩
    · rintro j ⟨l, i⟩ nx hj ⟨h1, h2, h3⟩ hn
      dsimp only at h1 h2 h3
      obtain ⟨m, hm⟩ : ∃ m, m = t - j := ⟨_, rfl⟩
      have hi : i = (m : Int) := by omega
      rw [show t + 1 - j = m + 1 by omega] at h2 h3
      subst hi
      obtain ⟨v, hv, _⟩ := at_lt (l := k) (k := m) (by omega)
      obtain ⟨z, hz, hzi⟩ := at_lt (l := s) (k := m) (by omega)
      have hvz := okK_at hk hz hv
      have hz5 := okS_at hs hz
      have e0 : idx l (m : Int) = some v := by
        rw [h2, take_next hv, List.append_assoc]
        exact idx_mid (by omega)
      have e1 : l.set m (v + 1) = k.take m ++ ((v + 1) :: List.replicate (k.length - (m + 1)) 0) := by rw [h2]; exact set_mid hv
      have hc : decide ((0 : Int) ≤ (m : Int)) = true := by simp
      have hN : num (s.take (m + 1)) (k.take (m + 1)) = num (s.take m) (k.take m) * z + v := by
        rw [take_next hz, take_next hv]; exact num_snoc z v (okK_len (okK_take hk m))
      simp only [GiAdvance.l0, unp2, letK, hc, iteK_if, if_true, e0, Option.bind_some, Int.toNat_natCast]
      rw [wrap_in (by omega) (by omega), e1, idx_mid (by omega)]
      simp only [hzi, Option.bind_some]
      by_cases hlt : v + 1 < z
      · rw [if_pos (by simpa using hlt)]
        have hzr : k.length - (m + 1) = (s.drop (m + 1)).length := by rw [List.length_drop]; omega
        have hS : s = s.take m ++ (z :: s.drop (m + 1)) := by rw [← drop_at hz, List.take_append_drop]
        refine ⟨_, rfl, fun _ => ⟨?_, ?_⟩, fun h => by simp at h⟩
        · rw [hS, hzr]
          have := okK_append (okK_take hk m) (okK_cons.2 ⟨⟨by omega, hlt⟩, okK_zeros (pos_drop hp (m + 1))⟩)
          rw [← hS]
          exact (by rw [← hS] at this; exact this)
        · dsimp only
          have e2 := num_append (s1 := s.take m) (k1 := k.take m) (z :: s.drop (m + 1)) ((v + 1) :: List.replicate (k.length - (m + 1)) 0) (okK_len (okK_take hk m))
          rw [← hS] at e2
          rw [e2]
          simp only [num, prod]
          rw [hzr, num_zeros, ← h3, hN, Int.add_mul, Int.add_mul, Int.add_mul, Int.mul_assoc]
          omega
      · rw [if_neg (by simpa using hlt)]
        have hvz2 : v + 1 = z := by omega
        simp only [appK]
        have e3 : (k.take m ++ ((v + 1) :: List.replicate (k.length - (m + 1)) 0)).set m 0 = k.take m ++ List.replicate (k.length - m) 0 := by
          rw [List.set_append_right _ _ (by rw [List.length_take]; omega), List.length_take, Nat.min_eq_left (by omega), Nat.sub_self, show k.length - m = k.length - (m + 1) + 1 by omega, List.replicate_succ]
          rfl
        rw [e3, wrap_in (by omega) (by omega)]
        refine hn _ ⟨by dsimp only; omega, by dsimp only; rw [show t + 1 - (j + 1) = m by omega], ?_⟩
        rw [show t + 1 - (j + 1) = m by omega, drop_at hz, ← h3, hN]
        simp only [prod]
        rw [show num (s.take m) (k.take m) * z + v + 1 = (num (s.take m) (k.take m) + 1) * z by rw [Int.add_mul]; omega, Int.mul_assoc]
    · rintro ⟨l, i⟩ nx ⟨h1, h2, h3⟩
      dsimp only at h1 h2 h3
      have hc : decide ((0 : Int) ≤ i) = false := by simp; omega
      simp only [GiAdvance.l0, unp2, letK, hc, iteK_if, Bool.false_eq_true, if_false, appK, GiAdvance.e0]
      refine ⟨_, rfl, fun h => by simp at h, fun _ => ?_⟩
      rw [← h3]
      simp [num]
  exact ⟨ok, k', h, hq⟩
end Go.Proofs.Ytekacbjnpeglhaa.Q6Adv

/- loop.example/g01062/impl.firstOf as a plain function, and the contract of the program's: where the plain one has an answer, the program has it. Conditions: slices read as lists. -/
namespace Go.Proofs.Ytekacbjnpeglhaa.GiFirstOf
set_option linter.unusedVariables false
set_option linter.unusedSimpArgs false
open Go.RowKit
open Go.Proofs.Ytekacbjnpeglhaa.Rowed Go.Proofs.Ytekacbjnpeglhaa.Turn Go.Proofs.Ytekacbjnpeglhaa.Aid Go.Proofs.Ytekacbjnpeglhaa.GoP Go.Proofs.Ytekacbjnpeglhaa.GoM

def P (fuel : Nat) (t_sizes : (List Int)) (t_bans : (List Go.Proofs.Ytekacbjnpeglhaa.PBan.Ban)) : Option ((List Int) × Bool) :=
  guardK (0 ≤ (t_sizes.length : Int) ∧ (t_sizes.length : Int) ≤ 1099511627776) <|
  letK (List.replicate t_sizes.length 0) fun (t_7 : (List Int)) =>
  bind2 (Go.Proofs.Ytekacbjnpeglhaa.GiFirstFrom.P fuel t_sizes t_bans t_7) fun (t_8a : (List Int)) (t_8b : Bool) =>
  some (t_8a, t_8b)

set_option maxRecDepth 100000 in
set_option maxHeartbeats 2000000 in
theorem C (fuel : Nat) (t_sizes : (List Int)) (t_bans : (List Go.Proofs.Ytekacbjnpeglhaa.PBan.Ban)) (A0_0 : Option Addr) (c0_0 : Nat) (A0_1 : Option Addr) (c0_1 : Nat)  (w : World) (M0_0 : Hid (Cells w 1 A0_0 t_sizes.length (Go.Proofs.Ytekacbjnpeglhaa.HelpInt.iv t_sizes))) (N0_0 : Hid (t_sizes.length ≤ 9223372036854775807)) (M0_1 : Hid (Cells w 4 A0_1 t_bans.length (Go.Proofs.Ytekacbjnpeglhaa.PBan.flat t_bans))) (N0_1 : Hid (t_bans.length ≤ 9223372036854775807))  {r0 : (List Int)} {r1 : Bool} (H : Hid (P fuel t_sizes t_bans = some (r0, r1))) :
    Calls Try.prog 68 #[.agg #[.slice A0_0 t_sizes.length c0_0, .slice A0_1 t_bans.length c0_1]] w (fun e w' => ∃ A_r0 c_r0, e = .returned (.tuple #[.slice A_r0 r0.length c_r0, .bool r1]) ∧ w'.ownsRow w.heap.size 3 1 (.slice A_r0 r0.length c_r0) r0.length (Go.Proofs.Ytekacbjnpeglhaa.HelpInt.iv r0) ∧ Below w.heap.size w w') := by
  have HB := Lib.hid (Below.refl w.heap.size w)
  unfold P at H
  have N0_0o := N0_0.out
  have N0_1o := N0_1.out
  obtain ⟨i0_3, hi_3, hz0_3, hz1_3, hz2_3⟩ := Aid.info_parts (P := Try.prog) (T := 3) (z := .int .i64 0) (s := 1) (b := 8) (by kernel_rfl)
  go_enter Try.func68, Try.ntmps68
  obtain ⟨w_t_0, hw_t_0⟩ : ∃ x, w.alloc (.cells #[.slice A0_0 t_sizes.length c0_0, .slice A0_1 t_bans.length c0_1] 30) = x := ⟨_, rfl⟩
  have bw_t_0 : Below w.heap.size w w_t_0 := by rw [← hw_t_0]; exact (Below.refl _ _).alloc (Nat.le_refl _) _
  have HBw_t_0 := Lib.hid (Below.step HB.out bw_t_0)
  clear bw_t_0
  have kt_0_0 : w_t_0.cell? ⟨w.heap.size, 0, none⟩ = some (.slice A0_0 t_sizes.length c0_0) := by rw [← hw_t_0]; exact box_new _ _ _ 0 _ rfl
  have kt_0_1 : w_t_0.cell? ⟨w.heap.size, 1, none⟩ = some (.slice A0_1 t_bans.length c0_1) := by rw [← hw_t_0]; exact box_new _ _ _ 1 _ rfl
  go_wp2_with fail
  have bd1 : Below w_t_0.heap.size w_t_0 w_t_0.drew := (Below.refl _ _).drew
  have HBw_t_0.drew := Lib.hid (Below.step HBw_t_0.out bd1)
  replace kt_0_0 := cell_below bd1 kt_0_0
  replace kt_0_1 := cell_below bd1 kt_0_1
  clear bd1
  replace H := guard_hid H
  obtain ⟨hnt_7, H⟩ := H
  replace H := let_hid H
  obtain ⟨t_7, ht_7, H⟩ := H
  have hst_7 := HBw_t_0.drew.out.size
  have hlt_7 : t_7.length = t_sizes.length := by rw [← ht_7]; simp
  have hht_7 := Lib.hid ht_7
  clear ht_7
  have Dt_7_t_0 := Lib.hid (apart_box kt_0_0)
  obtain ⟨wt_7, rt_7, ot_7, gt_7⟩ := run_make_full (P := Try.prog) (w := w_t_0.drew) w.heap.size 22 3 i0_3 (.int .i64 0) 1 Try.underlying22 hi_3 hz0_3 hz1_3 .i64 .i64 t_sizes.length (by rw [hz2_3]; omega) (by unfold maxLen; omega) hst_7
  have Qt_7 := Lib.hid ot_7
  have Gt_7 := Lib.hid gt_7
  clear ot_7 gt_7
  have Et_7 : (Go.Proofs.Ytekacbjnpeglhaa.HelpInt.iv t_7) = (madeCells (.int .i64 0 : Value).cells (t_sizes.length * 1)).toList := by
    rw [made_flat (fun x => [.int .i64 x]) 0 _ 1 _ rfl rfl (by decide), ← hht_7.out]
    exact map_flat _ _
  have Pt_7 : Hid (wt_7.ownsRow w.heap.size 3 1 (.slice (some ⟨w_t_0.drew.heap.size, 0, none⟩) t_sizes.length t_sizes.length) t_sizes.length (Go.Proofs.Ytekacbjnpeglhaa.HelpInt.iv t_7)) := Lib.hid (by rw [Et_7]; exact Qt_7.out)
  clear Et_7
  replace hlt_7 := Lib.hid hlt_7
  clear Qt_7 hst_7
  have bt_7 : Below w_t_0.drew.heap.size w_t_0.drew wt_7 := (Below.refl _ _).grown Gt_7.out (Nat.le_refl _) (by simp)
  clear Gt_7
  have HBwt_7 := Lib.hid (Below.step HBw_t_0.drew.out bt_7)
  have kt_0_0__156 := cell_below bt_7 kt_0_0
  have kt_0_1__157 := cell_below bt_7 kt_0_1
  clear bt_7
  replace H := bind2_hid H
  obtain ⟨t_8a, t_8b, qt_8, H⟩ := H
  go_region_held3 (fun w' => w'.cell? ⟨w.heap.size, 0, none⟩ = some (.slice A0_0 t_sizes.length c0_0) ∧ w'.cell? ⟨w.heap.size, 1, none⟩ = some (.slice A0_1 t_bans.length c0_1)) (first | exact ⟨kt_0_0, kt_0_1⟩ | exact ⟨kt_0_0__156, kt_0_1__157⟩)
      (first
        | (have hc0_ := hlt_7.out
           have Oct_8_1 := Lib.hid (own_len hc0_ Pt_7.out)
           have con_ := Go.Proofs.Ytekacbjnpeglhaa.GiFirstFrom.C fuel (t_sizes) (t_bans) (t_7) A0_0 c0_0 A0_1 c0_1 (some ⟨w_t_0.drew.heap.size, 0, none⟩) t_sizes.length w.heap.size _   (Lib.hid (Cells.below M0_0.out HBwt_7.out)) N0_0 (Lib.hid (Cells.below M0_1.out HBwt_7.out)) N0_1 Oct_8_1 (Lib.hid (own_max Oct_8_1.out)) (Lib.hid HBwt_7.out.size) (Lib.hid (Go.Proofs.Ytekacbjnpeglhaa.GoK.far_base (by decide) M0_0.out Oct_8_1.out)) (Lib.hid (Go.Proofs.Ytekacbjnpeglhaa.GoK.far_base (by decide) M0_1.out Oct_8_1.out)) qt_8
           rw [hc0_] at con_
           clear hc0_ Oct_8_1
           go_at_call 96
           refine con_.mono ?_
           rintro e_t_8 wt_8 ⟨At_8a, ct_8a, rfl, ot_8, gt_8, yt_8⟩
           have Pt_8 := Lib.hid ot_8
           have Gt_8 := Lib.hid gt_8
           replace yt_8 := Lib.hid yt_8
           clear ot_8 gt_8
           have HBwt_8 := Lib.hid (HBwt_7.out.grown Gt_8.out HBwt_7.out.size (fun q hq => (Pt_7.out.lt q hq).1))
           have Dt_8a_t_0 : Hid (Apart At_8a _) := Lib.hid (Go.Proofs.Ytekacbjnpeglhaa.GoK.apart_from Dt_7_t_0.out (fun a_ ha_ => by cases ha_; exact cell_lt kt_0_0__156) yt_8.out)
           replace kt_0_0__156 := cell_other kt_0_0__156 Gt_8.out Dt_7_t_0.out
           replace kt_0_1__157 := cell_other kt_0_1__157 Gt_8.out Dt_7_t_0.out
           clear rt_7 kt_0_0 kt_0_1
           clear Pt_7 Gt_8 yt_8
           clear qt_8))
  cases ret_hid H
  go_wp2_with fail
  go_ret2
  exact ⟨At_8a, ct_8a, rfl, Pt_8.out, HBwt_8.out⟩
end Go.Proofs.Ytekacbjnpeglhaa.GiFirstOf

/- Chapter 6: kinds in their order, as numbers: the program's search and the reference's. (Q6First) No condition but those of each theorem. -/
namespace Go.Proofs.Ytekacbjnpeglhaa.Q6First
set_option linter.unusedVariables false
set_option linter.unusedSimpArgs false
open Go.RowKit
open Go.Proofs.Ytekacbjnpeglhaa.GoP Go.Proofs.Ytekacbjnpeglhaa.PlainStamp Go.Proofs.Ytekacbjnpeglhaa.QBase Go.Proofs.Ytekacbjnpeglhaa.Q6Adv Go.Proofs.Ytekacbjnpeglhaa.Q6Num Go.Proofs.Ytekacbjnpeglhaa.Q6Kind Go.Proofs.Ytekacbjnpeglhaa.Q6Tab Go.Proofs.Ytekacbjnpeglhaa.Q6Ban Go.Proofs.Ytekacbjnpeglhaa.QLoop Go.Proofs.Ytekacbjnpeglhaa.QAll Go.Proofs.Ytekacbjnpeglhaa.PBan

/-- r is the first compatible kind from number n on, or that there is none -/
def First (s : List Int) (l : List Ban) (n : Int) (r : List Int × Bool) : Prop :=
  (r.2 = true ∧ okK s r.1 = true ∧ free l r.1 = true ∧ n ≤ num s r.1 ∧ ∀ u, okK s u = true → free l u = true → n ≤ num s u → num s r.1 ≤ num s u) ∨
  (r = ([], false) ∧ ∀ u, okK s u = true → free l u = true → ¬ n ≤ num s u)
theorem first_uniq {s : List Int} {l : List Ban} {n : Int} {r r' : List Int × Bool} (hp : pos s) (h : First s l n r) (h' : First s l n r') : r = r' := by
  obtain ⟨k, b⟩ := r
  obtain ⟨k', b'⟩ := r'
  rcases h with ⟨h1, h2, h3, h4, h5⟩ | ⟨h1, h2⟩
  · dsimp only at h1 h2 h3 h4 h5
    rcases h' with ⟨g1, g2, g3, g4, g5⟩ | ⟨g1, g2⟩
    · dsimp only at g1 g2 g3 g4 g5
      have a1 := h5 k' g2 g3 g4
      have a2 := g5 k h2 h3 h4
      rw [num_inj hp h2 g2 (by omega), h1, g1]
    · exact absurd h4 (g2 k h2 h3)
  · rcases h' with ⟨g1, g2, g3, g4, g5⟩ | ⟨g1, g2⟩
    · dsimp only at g1 g2 g3 g4 g5
      exact absurd g4 (h2 k' g2 g3)
    · rw [h1, g1]
theorem firstFrom_eq {s : List Int} {l : List Ban} (ht : okT s l = true) {k : List Int} (hk : okK s k = true) (fuel : Nat) (hf : 3200 ≤ fuel) : ∃ r, GiFirstFrom.P fuel s l k = some r ∧ First s l (num s k) r := by
  obtain ⟨t1, t2, t3, t4, t5⟩ := okT_of ht
  have hp := pos_of t4
  have hsm := prod_small' t4 t2
  simp only [GiFirstFrom.P]
  refine lp_ex (n := 3125) (fun j kd => okK s kd = true ∧ num s k + (j : Int) ≤ num s kd ∧ ∀ u, okK s u = true → free l u = true → num s k ≤ num s u → num s kd ≤ num s u) ?_ ?_ fuel 0 k (by omega) (by omega) ⟨hk, by simp, fun u _ _ h => h⟩
  · rintro j kd nx hj ⟨h1, h2, h3⟩ hn
    simp only [GiFirstFrom.l0, letK]
    refine cnt_ex (n := l.length) (Q := fun r => First s l (num s k) r) (fun i _ => ∀ q b, q < i → l[q]? = some b → frb kd b = false) ?_ ?_ l.length 0 () (by omega) (fun q b hq _ => by omega)
    · rintro i ⟨⟩ nx1 hi hI hn1
      obtain ⟨b, hb, hbi⟩ := at_lt (l := l) (k := i) hi
      have hob := t5 b (List.mem_of_getElem? hb)
      obtain ⟨p, q, e1, e2, e3, e4⟩ := okB_nat t4 t2 hob
      simp only [GiFirstFrom.l1, hbi, Option.bind_some, unBan, forbids_eq t4 t2 hob (okK_len h1), letK, appK, iteK_if]
      cases hfb : frb kd b with
      | false =>
        rw [if_pos (by rfl)]
        refine hn1 () (fun q' b' hq hb' => ?_)
        by_cases he : q' = i
        · subst he; obtain rfl := Option.some.inj (hb.symm.trans hb'); exact hfb
        · exact hI q' b' (by omega) hb'
      | true =>
        rw [if_neg (by simp)]
        obtain ⟨ok, k', ha, g1, g2⟩ := advance_eq t4 t2 h1 (t := q) e4 fuel (by omega)
        rw [e2, ha]
        simp only [bind2_some]
        -- those with the same values are forbidden too
        have hno : ∀ u, okK s u = true → free l u = true → num s kd ≤ num s u → blockEnd s kd q ≤ num s u := by
          intro u hu hfu hle
          rcases Int.lt_or_le (num s u) (blockEnd s kd q) with h | h
          · exfalso
            have := frb_take t4 t2 hob e2 (block_same hp h1 hu hle h)
            have h4 := List.all_eq_true.1 hfu b (List.mem_of_getElem? hb)
            rw [this, hfb] at h4
            simp at h4
          · exact h
        cases ok with
        | true =>
          rw [if_neg (by simp)]
          obtain ⟨g3, g4⟩ := g1 rfl
          have hba := block_after hp h1 q
          exact hn k' ⟨g3, by omega, fun u hu hfu hle => by rw [g4]; exact hno u hu hfu (h3 u hu hfu hle)⟩
        | false =>
          rw [if_pos (by simp)]
          refine ⟨_, rfl, .inr ⟨rfl, fun u hu hfu hle => ?_⟩⟩
          have h4 := hno u hu hfu (h3 u hu hfu hle)
          have h5 := num_range hp hu
          rw [← g2 rfl] at h4
          omega
    · rintro ⟨⟩ hI
      refine ⟨_, rfl, .inl ⟨rfl, h1, ?_, by dsimp only; omega, h3⟩⟩
      refine List.all_eq_true.2 fun b hb => ?_
      obtain ⟨q, hq⟩ := List.getElem?_of_mem hb
      rw [hI q b (List.getElem?_eq_some_iff.1 hq).1 hq]; rfl
  · rintro kd nx ⟨h1, h2, h3⟩
    exfalso
    have := num_range hp h1
    have := num_range hp hk
    omega
theorem firstOf_eq {s : List Int} {l : List Ban} (ht : okT s l = true) (fuel : Nat) (hf : 3200 ≤ fuel) : ∃ r, GiFirstOf.P fuel s l = some r ∧ First s l 0 r := by
  obtain ⟨t1, t2, t3, t4, t5⟩ := okT_of ht
  simp only [GiFirstOf.P, letK]
  rw [guardK_pos (by omega)]
  obtain ⟨r, h1, h2⟩ := firstFrom_eq ht (okK_zeros (pos_of t4)) fuel hf
  rw [num_zeros] at h2
  refine ⟨r, ?_, h2⟩
  rw [cut2 h1]
  simp only [bind2_some]
theorem firstBehind_eq {s : List Int} {l : List Ban} (ht : okT s l = true) {k : List Int} (hk : okK s k = true) (fuel : Nat) (hf : 3200 ≤ fuel) : ∃ r, GiFirstBehind.P fuel s l k = some r ∧ First s l (num s k + 1) r := by
  obtain ⟨t1, t2, t3, t4, t5⟩ := okT_of ht
  have hlen := okK_len hk
  have hp := pos_of t4
  have hc : GxSlicesCloneIntInt.P k = some k := by
    simp only [GxSlicesCloneIntInt.P, GoK.nilK, iteK_if, letK]
    rw [if_neg (by simp), guardK_pos (by simp; omega)]
    simp
  simp only [GiFirstBehind.P, hc, Option.bind_some, letK, iteK_if]
  rw [wrap_in (by omega) (by omega), show ((k.length : Int) - 1) = ((s.length - 1 : Nat) : Int) by omega]
  obtain ⟨ok, k', ha, g1, g2⟩ := advance_eq t4 t2 hk (t := s.length - 1) (by omega) fuel (by omega)
  have hM : blockEnd s k (s.length - 1) = num s k + 1 := by
    unfold blockEnd
    rw [show s.length - 1 + 1 = s.length by omega, List.take_length, ← hlen, List.take_length, List.drop_of_length_le (by omega)]
    simp [prod]
  rw [ha]
  simp only [bind2_some]
  cases ok with
  | false =>
    rw [if_pos (by simp)]
    refine ⟨_, rfl, .inr ⟨rfl, fun u hu _ hle => ?_⟩⟩
    have := num_range hp hu
    have := g2 rfl
    omega
  | true =>
    rw [if_neg (by simp)]
    obtain ⟨g3, g4⟩ := g1 rfl
    obtain ⟨r, h1, h2⟩ := firstFrom_eq ht g3 fuel hf
    rw [g4, hM] at h2
    refine ⟨r, ?_, h2⟩
    rw [cut2 h1]
    simp only [bind2_some]
end Go.Proofs.Ytekacbjnpeglhaa.Q6First

/- Chapter 6: kinds in their order, as numbers: the program's search and the reference's. (Q6Spec) No condition but those of each theorem. -/
namespace Go.Proofs.Ytekacbjnpeglhaa.Q6Spec
set_option linter.unusedVariables false
set_option linter.unusedSimpArgs false
open Go.RowKit
open Go.Proofs.Ytekacbjnpeglhaa.GoP Go.Proofs.Ytekacbjnpeglhaa.PlainStamp Go.Proofs.Ytekacbjnpeglhaa.QBase Go.Proofs.Ytekacbjnpeglhaa.Q6First Go.Proofs.Ytekacbjnpeglhaa.Q6Num Go.Proofs.Ytekacbjnpeglhaa.Q6Kind Go.Proofs.Ytekacbjnpeglhaa.Q6Tab Go.Proofs.Ytekacbjnpeglhaa.Q6Ban Go.Proofs.Ytekacbjnpeglhaa.QLoop Go.Proofs.Ytekacbjnpeglhaa.QAll Go.Proofs.Ytekacbjnpeglhaa.PBan

theorem l6All_eq {s : List Int} (hs : okS s = true) (hl : s.length ≤ 5) (l : List Ban) (fuel : Nat) (hf : 7 ≤ fuel) : GsL6All.P fuel s l = some (prod s) := by
  simp only [GsL6All.P]
  obtain ⟨r, h, hr⟩ := lp_ex (f := GsL6All.l0 s) (fin := GsL6All.e0) (Q := fun r => r = prod s) (n := s.length) (fun j (st : Int × Int) => st.2 = (j : Int) ∧ st.1 = prod (s.take j)) (by
    rintro j ⟨a, i⟩ nx hj ⟨h1, h2⟩ hn
    dsimp only at h1 h2
    subst h1
    obtain ⟨z, hz, hzi⟩ := at_lt (l := s) (k := j) hj
    have hc : decide ((j : Int) < (s.length : Int)) = true := by simp; omega
    have e : prod (s.take (j + 1)) = prod (s.take j) * z := by rw [take_next hz, prod_append]; simp [prod]
    have b1 := prod_small hs hl (j + 1)
    have b2 := prod_pos (pos_take (pos_of hs) (j + 1))
    simp only [GsL6All.l0, unp2, letK, hc, iteK_if, if_true, hzi, Option.bind_some, appK]
    rw [h2, ← e, wrap_in (by omega) (by omega), next_i (by omega)]
    exact hn _ ⟨rfl, rfl⟩) (by
    rintro ⟨a, i⟩ nx ⟨h1, h2⟩
    dsimp only at h1 h2
    subst h1
    have hc : decide ((s.length : Int) < (s.length : Int)) = false := by simp
    simp only [GsL6All.l0, unp2, letK, hc, iteK_if, Bool.false_eq_true, if_false, appK, GsL6All.e0]
    exact ⟨_, rfl, by rw [h2, List.take_length]⟩) fuel 0 (1, 0) (by omega) (by omega) ⟨rfl, by simp [prod]⟩
  rw [h, hr]
theorem l6At_eq {s : List Int} (hs : okS s = true) (hl : s.length ≤ 5) (l : List Ban) {n : Int} (h0 : 0 ≤ n) (hn : n < prod s) (fuel : Nat) (hf : 7 ≤ fuel) : ∃ k, GsL6At.P fuel s l n = some k ∧ okK s k = true ∧ num s k = n := by
  have hp := pos_of hs
  have hsm := prod_small' hs hl
  simp only [GsL6At.P, letK]
  rw [guardK_pos (by omega), List.length_replicate, wrap_in (by omega) (by omega)]
  refine lp_ex (n := s.length) (fun j (st : Int × List Int × Int) => st.2.2 = (s.length : Int) - 1 - (j : Int) ∧ 0 ≤ st.1 ∧ ∃ t, st.2.1 = List.replicate (s.length - j) 0 ++ t ∧ okK (s.drop (s.length - j)) t = true ∧
    n = st.1 * prod (s.drop (s.length - j)) + num (s.drop (s.length - j)) t) ?_ ?_ fuel 0 _ (by omega) (by omega) ⟨by simp, h0, [], by simp, by simp [okK_nil], by simp [prod, num]⟩
  · rintro j ⟨a, o, i⟩ nx hj ⟨h1, h2, t, h3, h4, h5⟩ hn
    dsimp only at h1 h2 h3 h5
    obtain ⟨m, hm⟩ : ∃ m, m = s.length - 1 - j := ⟨_, rfl⟩
    have hi : i = (m : Int) := by omega
    subst hi
    rw [show s.length - j = m + 1 by omega] at h3 h4 h5
    obtain ⟨z, hz, hzi⟩ := at_lt (l := s) (k := m) (by omega)
    have hz5 := okS_at hs hz
    have hc : decide ((0 : Int) ≤ (m : Int)) = true := by simp
    have hP := prod_pos (pos_drop hp (m + 1))
    have hr := num_range (pos_drop hp (m + 1)) h4
    have ha : a ≤ n := by
      have := Int.mul_le_mul_of_nonneg_left (show 1 ≤ prod (s.drop (m + 1)) by omega) h2
      rw [Int.mul_one] at this
      omega
    have hlo : m < o.length := by rw [h3, List.length_append, List.length_replicate]; omega
    obtain ⟨x, hx, hxi⟩ := at_lt (l := o) (k := m) hlo
    have hd1 : 0 ≤ a / z := Int.ediv_nonneg h2 (by omega)
    have hd2 : a / z ≤ a := Int.ediv_le_self _ h2
    have hm1 : 0 ≤ a % z := Int.emod_nonneg _ (by omega)
    have hm2 : a % z < z := Int.emod_lt_of_pos _ (by omega)
    have hdm : z * (a / z) + a % z = a := Int.mul_ediv_add_emod a z
    simp only [GsL6At.l0, unp3, letK, hc, iteK_if, if_true, hzi, hxi, Option.bind_some, Int.toNat_natCast, appK]
    rw [guardK_pos (by omega), guardK_pos (by omega), Int.tmod_eq_emod_of_nonneg h2, Int.tdiv_eq_ediv_of_nonneg h2, wrap_in (x := a / z) (by omega) (by omega), wrap_in (by omega) (by omega)]
    have e : o.set m (a % z) = List.replicate m 0 ++ ((a % z) :: t) := by
      rw [h3, List.replicate_succ', List.append_assoc, List.set_append_right _ _ (by simp), List.length_replicate, Nat.sub_self]
      rfl
    rw [e]
    refine hn _ ⟨by dsimp only; omega, hd1, (a % z) :: t, ?_, ?_, ?_⟩
    · dsimp only; rw [show s.length - (j + 1) = m by omega]
    · rw [show s.length - (j + 1) = m by omega, drop_at hz]
      exact okK_cons.2 ⟨⟨hm1, hm2⟩, h4⟩
    · rw [show s.length - (j + 1) = m by omega, drop_at hz]
      dsimp only
      simp only [prod, num]
      rw [h5]
      have e2 : a * prod (s.drop (m + 1)) = (a / z) * (z * prod (s.drop (m + 1))) + (a % z) * prod (s.drop (m + 1)) := by
        rw [← Int.mul_assoc, ← Int.add_mul, Int.mul_comm (a / z) z, hdm]
      rw [e2]
      omega
  · rintro ⟨a, o, i⟩ nx ⟨h1, h2, t, h3, h4, h5⟩
    dsimp only at h1 h2 h3 h5
    have hc : decide ((0 : Int) ≤ i) = false := by simp; omega
    simp only [GsL6At.l0, unp3, letK, hc, iteK_if, Bool.false_eq_true, if_false, appK, GsL6At.e0]
    rw [Nat.sub_self, List.drop_zero] at h4 h5
    rw [Nat.sub_self, List.replicate_zero, List.nil_append] at h3
    subst h3
    refine ⟨_, rfl, h4, ?_⟩
    have hr := num_range hp h4
    rcases Int.lt_or_le 0 a with h | h
    · have := Int.mul_le_mul_of_nonneg_right (show 1 ≤ a by omega) (show 0 ≤ prod s by omega)
      omega
    · have : a = 0 := by omega
      rw [this] at h5
      omega
theorem l6Number_eq {s k : List Int} (hs : okS s = true) (hl : s.length ≤ 5) (l : List Ban) (hk : okK s k = true) : GsL6Number.P s l k = some (num s k) := by
  have hlen := okK_len hk
  simp only [GsL6Number.P]
  refine cnt_is _ (fun j st => st = num (s.take j) (k.take j)) ?_ ?_ 0 rfl
  · intro j st nx hj h hn
    obtain ⟨z, hz, hzi⟩ := at_lt (l := s) (k := j) (by omega)
    obtain ⟨v, hv, hvi⟩ := at_lt (l := k) (k := j) hj
    have e : num (s.take (j + 1)) (k.take (j + 1)) = num (s.take j) (k.take j) * z + v := by
      rw [take_next hz, take_next hv]; exact num_snoc z v (okK_len (okK_take hk j))
    have r1 := num_range (pos_take (pos_of hs) (j + 1)) (okK_take hk (j + 1))
    have r2 := num_range (pos_take (pos_of hs) j) (okK_take hk j)
    have b1 := prod_small hs hl (j + 1)
    have hvz := okK_at hk hz hv
    have hnn : 0 ≤ num (s.take j) (k.take j) * z := Int.mul_nonneg r2.1 (by omega)
    simp only [GsL6Number.l0, letK, hzi, hvi, Option.bind_some, appK]
    rw [h, wrap_in (x := num (s.take j) (k.take j) * z) (by omega) (by omega), wrap_in (by omega) (by omega), ← e]
    exact hn _ rfl
  · intro st h
    simp only [GsL6Number.e0, letK]
    rw [h, List.take_length, hlen, List.take_length]
theorem l6From_eq {s : List Int} {l : List Ban} (ht : okT s l = true) {n : Int} (h0 : 0 ≤ n) (hn : n ≤ prod s) (fuel : Nat) (hf : 3200 ≤ fuel) : ∃ r, GsL6From.P fuel s l n = some r ∧ First s l n r := by
  obtain ⟨t1, t2, t3, t4, t5⟩ := okT_of ht
  have hp := pos_of t4
  have hsm := prod_small' t4 t2
  simp only [GsL6From.P]
  refine lp_ex (n := (prod s - n).toNat) (fun j st => st = n + (j : Int) ∧ ∀ u, okK s u = true → free l u = true → n ≤ num s u → st ≤ num s u) ?_ ?_ fuel 0 n (by omega) (by omega) ⟨by simp, fun u _ _ h => h⟩
  · rintro j st nx hj ⟨h1, h2⟩ hnx
    have hlt : st < prod s := by omega
    have hc : decide (st < prod s) = true := by simpa using hlt
    obtain ⟨k, hk, hok, hnum⟩ := l6At_eq t4 t2 l (n := st) (by omega) hlt fuel (by omega)
    simp only [GsL6From.l0, letK, l6All_eq t4 t2 l fuel (by omega), Option.bind_some, hc, iteK_if, if_true, hk, l6Free_eq ht (okK_len hok) fuel (by omega), appK]
    cases hfr : free l k with
    | true =>
      rw [if_pos rfl]
      exact ⟨_, rfl, .inl ⟨rfl, hok, hfr, by dsimp only; omega, fun u hu hfu hle => by dsimp only; rw [hnum]; exact h2 u hu hfu hle⟩⟩
    | false =>
      rw [if_neg (by simp), wrap_in (by omega) (by omega)]
      refine hnx _ ⟨by omega, fun u hu hfu hle => ?_⟩
      have h3 := h2 u hu hfu hle
      by_cases he : num s u = st
      · exfalso
        have := num_inj hp hu hok (by omega)
        rw [this, hfr] at hfu
        simp at hfu
      · omega
  · rintro st nx ⟨h1, h2⟩
    have hc : decide (st < prod s) = false := by simp; omega
    simp only [GsL6From.l0, letK, l6All_eq t4 t2 l fuel (by omega), Option.bind_some, hc, iteK_if, Bool.false_eq_true, if_false, appK, GsL6From.e0]
    refine ⟨_, rfl, .inr ⟨rfl, fun u hu hfu hle => ?_⟩⟩
    have h3 := h2 u hu hfu hle
    have h4 := num_range hp hu
    omega
end Go.Proofs.Ytekacbjnpeglhaa.Q6Spec

/- loop.example/g01062/impl.FirstKind as a plain function, and the contract of the program's: where the plain one has an answer, the program has it. Conditions: slices read as lists. -/
namespace Go.Proofs.Ytekacbjnpeglhaa.GiFirstKind
set_option linter.unusedVariables false
set_option linter.unusedSimpArgs false
open Go.RowKit
open Go.Proofs.Ytekacbjnpeglhaa.Rowed Go.Proofs.Ytekacbjnpeglhaa.Turn Go.Proofs.Ytekacbjnpeglhaa.Aid Go.Proofs.Ytekacbjnpeglhaa.GoP Go.Proofs.Ytekacbjnpeglhaa.GoM

def P (fuel : Nat) (t_sizes : (List Int)) (t_bans : (List Go.Proofs.Ytekacbjnpeglhaa.PBan.Ban)) : Option ((List Int) × Bool) :=
  Option.bind (Go.Proofs.Ytekacbjnpeglhaa.GiIsKindTable.P t_sizes t_bans) fun (t_4 : Bool) =>
  letK (!t_4) fun (t_5 : Bool) =>
  iteK t_5
  (some (([] : List Int), false))
  (bind2 (Go.Proofs.Ytekacbjnpeglhaa.GiFirstOf.P fuel t_sizes t_bans) fun (t_10a : (List Int)) (t_10b : Bool) =>
  some (t_10a, t_10b))

set_option maxRecDepth 100000 in
set_option maxHeartbeats 2000000 in
theorem C (fuel : Nat) (t_sizes : (List Int)) (t_bans : (List Go.Proofs.Ytekacbjnpeglhaa.PBan.Ban)) (A0_0 : Option Addr) (c0_0 : Nat) (A0_1 : Option Addr) (c0_1 : Nat)  (w : World) (M0_0 : Hid (Cells w 1 A0_0 t_sizes.length (Go.Proofs.Ytekacbjnpeglhaa.HelpInt.iv t_sizes))) (N0_0 : Hid (t_sizes.length ≤ 9223372036854775807)) (M0_1 : Hid (Cells w 4 A0_1 t_bans.length (Go.Proofs.Ytekacbjnpeglhaa.PBan.flat t_bans))) (N0_1 : Hid (t_bans.length ≤ 9223372036854775807))  {r0 : (List Int)} {r1 : Bool} (H : Hid (P fuel t_sizes t_bans = some (r0, r1))) :
    Calls Try.prog 25 #[.agg #[.slice A0_0 t_sizes.length c0_0, .slice A0_1 t_bans.length c0_1]] w (fun e w' => ∃ A_r0 c_r0, e = .returned (.tuple #[.slice A_r0 r0.length c_r0, .bool r1]) ∧ w'.ownsRow w.heap.size 3 1 (.slice A_r0 r0.length c_r0) r0.length (Go.Proofs.Ytekacbjnpeglhaa.HelpInt.iv r0) ∧ Below w.heap.size w w') := by
  have HB := Lib.hid (Below.refl w.heap.size w)
  unfold P at H
  have N0_0o := N0_0.out
  have N0_1o := N0_1.out
  go_enter Try.func25, Try.ntmps25
  obtain ⟨w_t_0, hw_t_0⟩ : ∃ x, w.alloc (.cells #[.slice A0_0 t_sizes.length c0_0, .slice A0_1 t_bans.length c0_1] 30) = x := ⟨_, rfl⟩
  have bw_t_0 : Below w.heap.size w w_t_0 := by rw [← hw_t_0]; exact (Below.refl _ _).alloc (Nat.le_refl _) _
  have HBw_t_0 := Lib.hid (Below.step HB.out bw_t_0)
  clear bw_t_0
  have kt_0_0 : w_t_0.cell? ⟨w.heap.size, 0, none⟩ = some (.slice A0_0 t_sizes.length c0_0) := by rw [← hw_t_0]; exact box_new _ _ _ 0 _ rfl
  have kt_0_1 : w_t_0.cell? ⟨w.heap.size, 1, none⟩ = some (.slice A0_1 t_bans.length c0_1) := by rw [← hw_t_0]; exact box_new _ _ _ 1 _ rfl
  replace H := bind_hid H
  obtain ⟨t_4, qt_4, H⟩ := H
  go_wp2_with fail
  go_at_call 16
  refine (Go.Proofs.Ytekacbjnpeglhaa.GiIsKindTable.C (t_sizes) (t_bans) A0_0 c0_0 A0_1 c0_1 _   (Lib.hid (Cells.below M0_0.out HBw_t_0.out)) N0_0 (Lib.hid (Cells.below M0_1.out HBw_t_0.out)) N0_1 qt_4).mono ?_
  rintro e_t_4 wt_4 ⟨rfl, bt_4⟩
  have HBwt_4 := Lib.hid (Below.step HBw_t_0.out bt_4)
  replace kt_0_0 := cell_below bt_4 kt_0_0
  replace kt_0_1 := cell_below bt_4 kt_0_1
  clear bt_4
  cases t_4 with
  | false =>
    replace H := let_hid H
    obtain ⟨t_5, ht_5, H⟩ := H
    obtain rfl : t_5 = true := ht_5.symm
    replace H := ite_t H
    obtain ⟨w_t_6, hw_t_6⟩ : ∃ x, wt_4.alloc (.cells #[] 3) = x := ⟨_, rfl⟩
    have bw_t_6 : Below wt_4.heap.size wt_4 w_t_6 := by rw [← hw_t_6]; exact (Below.refl _ _).alloc (Nat.le_refl _) _
    have Ot_6 : Hid (w_t_6.ownsRow w.heap.size 3 1 (.slice (some ⟨wt_4.heap.size, 0, none⟩) 0 0) 0 []) := Lib.hid (by rw [← hw_t_6]; exact own_empty HBwt_4.out.size)
    have Dt_6_t_0 := Lib.hid (apart_box kt_0_0)
    have HBw_t_6 := Lib.hid (Below.step HBwt_4.out bw_t_6)
    have kt_0_0__188 := cell_below bw_t_6 kt_0_0
    have kt_0_1__189 := cell_below bw_t_6 kt_0_1
    clear bw_t_6
    cases ret_hid H
    go_wp2_with fail
    go_ret2
    exact ⟨(some ⟨wt_4.heap.size, 0, none⟩), 0, rfl, Ot_6.out, HBw_t_6.out⟩
  | true =>
    replace H := let_hid H
    obtain ⟨t_5, ht_5, H⟩ := H
    obtain rfl : t_5 = false := ht_5.symm
    replace H := ite_f H
    replace H := bind2_hid H
    obtain ⟨t_10a, t_10b, qt_10, H⟩ := H
    go_wp2_with fail
    go_at_call 68
    refine (Go.Proofs.Ytekacbjnpeglhaa.GiFirstOf.C fuel (t_sizes) (t_bans) A0_0 c0_0 A0_1 c0_1 _   (Lib.hid (Cells.below M0_0.out HBwt_4.out)) N0_0 (Lib.hid (Cells.below M0_1.out HBwt_4.out)) N0_1 qt_10).mono ?_
    rintro e_t_10 wt_10 ⟨At_10a, ct_10a, rfl, ot_10a, bt_10⟩
    have Dt_10a_t_0 := Lib.hid (apart_callbox ot_10a kt_0_0)
    have Ot_10a := Lib.hid (own_lower ot_10a HBwt_4.out.size)
    clear ot_10a
    have HBwt_10 := Lib.hid (Below.step HBwt_4.out bt_10)
    replace kt_0_0 := cell_below bt_10 kt_0_0
    replace kt_0_1 := cell_below bt_10 kt_0_1
    clear bt_10
    cases ret_hid H
    go_wp2_with fail
    go_ret2
    exact ⟨At_10a, ct_10a, rfl, Ot_10a.out, HBwt_10.out⟩
end Go.Proofs.Ytekacbjnpeglhaa.GiFirstKind

/- loop.example/g01062/spec.FirstKind as a plain function, and the contract of the program's: where the plain one has an answer, the program has it. Conditions: slices read as lists. -/
namespace Go.Proofs.Ytekacbjnpeglhaa.GsFirstKind
set_option linter.unusedVariables false
set_option linter.unusedSimpArgs false
open Go.RowKit
open Go.Proofs.Ytekacbjnpeglhaa.Rowed Go.Proofs.Ytekacbjnpeglhaa.Turn Go.Proofs.Ytekacbjnpeglhaa.Aid Go.Proofs.Ytekacbjnpeglhaa.GoP Go.Proofs.Ytekacbjnpeglhaa.GoM

def P (fuel : Nat) (t_sizes : (List Int)) (t_bans : (List Go.Proofs.Ytekacbjnpeglhaa.PBan.Ban)) : Option ((List Int) × Bool) :=
  Option.bind (Go.Proofs.Ytekacbjnpeglhaa.GsL6Good.P fuel t_sizes t_bans) fun (t_4 : Bool) =>
  letK (!t_4) fun (t_5 : Bool) =>
  iteK t_5
  (some (([] : List Int), false))
  (bind2 (Go.Proofs.Ytekacbjnpeglhaa.GsL6From.P fuel t_sizes t_bans 0) fun (t_10a : (List Int)) (t_10b : Bool) =>
  some (t_10a, t_10b))

set_option maxRecDepth 100000 in
set_option maxHeartbeats 2000000 in
theorem C (fuel : Nat) (t_sizes : (List Int)) (t_bans : (List Go.Proofs.Ytekacbjnpeglhaa.PBan.Ban)) (A0_0 : Option Addr) (c0_0 : Nat) (A0_1 : Option Addr) (c0_1 : Nat)  (w : World) (M0_0 : Hid (Cells w 1 A0_0 t_sizes.length (Go.Proofs.Ytekacbjnpeglhaa.HelpInt.iv t_sizes))) (N0_0 : Hid (t_sizes.length ≤ 9223372036854775807)) (M0_1 : Hid (Cells w 4 A0_1 t_bans.length (Go.Proofs.Ytekacbjnpeglhaa.PBan.flat t_bans))) (N0_1 : Hid (t_bans.length ≤ 9223372036854775807))  {r0 : (List Int)} {r1 : Bool} (H : Hid (P fuel t_sizes t_bans = some (r0, r1))) :
    Calls Try.prog 24 #[.agg #[.slice A0_0 t_sizes.length c0_0, .slice A0_1 t_bans.length c0_1]] w (fun e w' => ∃ A_r0 c_r0, e = .returned (.tuple #[.slice A_r0 r0.length c_r0, .bool r1]) ∧ w'.ownsRow w.heap.size 3 1 (.slice A_r0 r0.length c_r0) r0.length (Go.Proofs.Ytekacbjnpeglhaa.HelpInt.iv r0) ∧ Below w.heap.size w w') := by
  have HB := Lib.hid (Below.refl w.heap.size w)
  unfold P at H
  have N0_0o := N0_0.out
  have N0_1o := N0_1.out
  go_enter Try.func24, Try.ntmps24
  obtain ⟨w_t_0, hw_t_0⟩ : ∃ x, w.alloc (.cells #[.slice A0_0 t_sizes.length c0_0, .slice A0_1 t_bans.length c0_1] 30) = x := ⟨_, rfl⟩
  have bw_t_0 : Below w.heap.size w w_t_0 := by rw [← hw_t_0]; exact (Below.refl _ _).alloc (Nat.le_refl _) _
  have HBw_t_0 := Lib.hid (Below.step HB.out bw_t_0)
  clear bw_t_0
  have kt_0_0 : w_t_0.cell? ⟨w.heap.size, 0, none⟩ = some (.slice A0_0 t_sizes.length c0_0) := by rw [← hw_t_0]; exact box_new _ _ _ 0 _ rfl
  have kt_0_1 : w_t_0.cell? ⟨w.heap.size, 1, none⟩ = some (.slice A0_1 t_bans.length c0_1) := by rw [← hw_t_0]; exact box_new _ _ _ 1 _ rfl
  replace H := bind_hid H
  obtain ⟨t_4, qt_4, H⟩ := H
  go_wp2_with fail
  go_at_call 53
  refine (Go.Proofs.Ytekacbjnpeglhaa.GsL6Good.C fuel (t_sizes) (t_bans) A0_0 c0_0 A0_1 c0_1 _   (Lib.hid (Cells.below M0_0.out HBw_t_0.out)) N0_0 (Lib.hid (Cells.below M0_1.out HBw_t_0.out)) N0_1 qt_4).mono ?_
  rintro e_t_4 wt_4 ⟨rfl, bt_4⟩
  have HBwt_4 := Lib.hid (Below.step HBw_t_0.out bt_4)
  replace kt_0_0 := cell_below bt_4 kt_0_0
  replace kt_0_1 := cell_below bt_4 kt_0_1
  clear bt_4
  cases t_4 with
  | false =>
    replace H := let_hid H
    obtain ⟨t_5, ht_5, H⟩ := H
    obtain rfl : t_5 = true := ht_5.symm
    replace H := ite_t H
    obtain ⟨w_t_6, hw_t_6⟩ : ∃ x, wt_4.alloc (.cells #[] 3) = x := ⟨_, rfl⟩
    have bw_t_6 : Below wt_4.heap.size wt_4 w_t_6 := by rw [← hw_t_6]; exact (Below.refl _ _).alloc (Nat.le_refl _) _
    have Ot_6 : Hid (w_t_6.ownsRow w.heap.size 3 1 (.slice (some ⟨wt_4.heap.size, 0, none⟩) 0 0) 0 []) := Lib.hid (by rw [← hw_t_6]; exact own_empty HBwt_4.out.size)
    have Dt_6_t_0 := Lib.hid (apart_box kt_0_0)
    have HBw_t_6 := Lib.hid (Below.step HBwt_4.out bw_t_6)
    have kt_0_0__186 := cell_below bw_t_6 kt_0_0
    have kt_0_1__187 := cell_below bw_t_6 kt_0_1
    clear bw_t_6
    cases ret_hid H
    go_wp2_with fail
    go_ret2
    exact ⟨(some ⟨wt_4.heap.size, 0, none⟩), 0, rfl, Ot_6.out, HBw_t_6.out⟩
  | true =>
    replace H := let_hid H
    obtain ⟨t_5, ht_5, H⟩ := H
    obtain rfl : t_5 = false := ht_5.symm
    replace H := ite_f H
    replace H := bind2_hid H
    obtain ⟨t_10a, t_10b, qt_10, H⟩ := H
    go_wp2_with fail
    go_at_call 67
    refine (Go.Proofs.Ytekacbjnpeglhaa.GsL6From.C fuel (t_sizes) (t_bans) (0) A0_0 c0_0 A0_1 c0_1 _   (Lib.hid (Cells.below M0_0.out HBwt_4.out)) N0_0 (Lib.hid (Cells.below M0_1.out HBwt_4.out)) N0_1 qt_10).mono ?_
    rintro e_t_10 wt_10 ⟨At_10a, ct_10a, rfl, ot_10a, bt_10⟩
    have Dt_10a_t_0 := Lib.hid (apart_callbox ot_10a kt_0_0)
    have Ot_10a := Lib.hid (own_lower ot_10a HBwt_4.out.size)
    clear ot_10a
    have HBwt_10 := Lib.hid (Below.step HBwt_4.out bt_10)
    replace kt_0_0 := cell_below bt_10 kt_0_0
    replace kt_0_1 := cell_below bt_10 kt_0_1
    clear bt_10
    cases ret_hid H
    go_wp2_with fail
    go_ret2
    exact ⟨At_10a, ct_10a, rfl, Ot_10a.out, HBwt_10.out⟩
end Go.Proofs.Ytekacbjnpeglhaa.GsFirstKind

/- Chapter 6: kinds in their order, as numbers: the program's search and the reference's. (Q6FirstK) No condition but those of each theorem. -/
namespace Go.Proofs.Ytekacbjnpeglhaa.Q6FirstK
set_option linter.unusedVariables false
set_option linter.unusedSimpArgs false
open Go.RowKit
open Go.Proofs.Ytekacbjnpeglhaa.GoP Go.Proofs.Ytekacbjnpeglhaa.PlainStamp Go.Proofs.Ytekacbjnpeglhaa.QBase Go.Proofs.Ytekacbjnpeglhaa.Q6Spec Go.Proofs.Ytekacbjnpeglhaa.Q6First Go.Proofs.Ytekacbjnpeglhaa.Q6Num Go.Proofs.Ytekacbjnpeglhaa.Q6Kind Go.Proofs.Ytekacbjnpeglhaa.Q6Tab Go.Proofs.Ytekacbjnpeglhaa.QLoop Go.Proofs.Ytekacbjnpeglhaa.PBan

theorem first_len {s : List Int} {l : List Ban} {n : Int} {r : List Int × Bool} (h : First s l n r) : r.1.length ≤ s.length := by
  rcases h with ⟨_, h2, _⟩ | ⟨h1, _⟩
  · rw [okK_len h2]; omega
  · rw [h1]; simp
theorem firstKind_both (fuel : Nat) (hf : 3200 ≤ fuel) (s : List Int) (l : List Ban) (hs : s.length ≤ 9223372036854775807) (hl : l.length ≤ 9223372036854775807) :
    ∃ r, GiFirstKind.P fuel s l = some r ∧ GsFirstKind.P fuel s l = some r ∧ r.1.length ≤ 5 ∧ (okT s l = true → First s l 0 r) ∧ (okT s l = false → r = ([], false)) := by
  simp only [GiFirstKind.P, GsFirstKind.P, isTable_eq s l hs hl, l6Good_eq fuel (by omega) s l hs hl, Option.bind_some, letK, iteK_if]
  cases ht : okT s l with
  | false => exact ⟨([], false), by simp, by simp, by simp, fun h => absurd h (by simp), fun _ => rfl⟩
  | true =>
    obtain ⟨t1, t2, t3, t4, t5⟩ := okT_of ht
    obtain ⟨r, h1, h2⟩ := firstOf_eq ht fuel hf
    obtain ⟨r', h3, h4⟩ := l6From_eq ht (n := 0) (by omega) (by have := prod_pos (pos_of t4); omega) fuel hf
    obtain rfl := first_uniq (pos_of t4) h2 h4
    have := first_len h2
    refine ⟨r, ?_, ?_, by omega, fun _ => h2, fun h => absurd h (by simp)⟩
    · rw [if_neg (by simp), cut2 h1]; simp only [bind2_some]
    · rw [if_neg (by simp), cut2 h3]; simp only [bind2_some]
end Go.Proofs.Ytekacbjnpeglhaa.Q6FirstK

/- Chapter 6: kinds in their order, as numbers: the program's search and the reference's. (Q6NextK) No condition but those of each theorem. -/
namespace Go.Proofs.Ytekacbjnpeglhaa.Q6NextK
set_option linter.unusedVariables false
set_option linter.unusedSimpArgs false
open Go.RowKit
open Go.Proofs.Ytekacbjnpeglhaa.GoP Go.Proofs.Ytekacbjnpeglhaa.PlainStamp Go.Proofs.Ytekacbjnpeglhaa.QBase Go.Proofs.Ytekacbjnpeglhaa.Q6FirstK Go.Proofs.Ytekacbjnpeglhaa.Q6Spec Go.Proofs.Ytekacbjnpeglhaa.Q6First Go.Proofs.Ytekacbjnpeglhaa.Q6Num Go.Proofs.Ytekacbjnpeglhaa.Q6Kind Go.Proofs.Ytekacbjnpeglhaa.Q6Tab Go.Proofs.Ytekacbjnpeglhaa.QLoop Go.Proofs.Ytekacbjnpeglhaa.PBan

theorem nextKind_both (fuel : Nat) (hf : 3200 ≤ fuel) (s : List Int) (l : List Ban) (k : List Int) (hs : s.length ≤ 9223372036854775807) (hl : l.length ≤ 9223372036854775807) :
    ∃ r, GiNextKind.P fuel s l k = some r ∧ GsNextKind.P fuel s l k = some r ∧ r.1.length ≤ 5 ∧ (okT s l = true → okK s k = true → First s l (num s k + 1) r) ∧ ((okT s l && okK s k) = false → r = ([], false)) := by
  simp only [GiNextKind.P, GsNextKind.P, isKind_eq s l k hs hl, l6Good_eq fuel (by omega) s l hs hl, Option.bind_some, letK, joinK, appK, iteK_if]
  cases ht : okT s l with
  | false => exact ⟨([], false), by simp, by simp, by simp, fun h => absurd h (by simp), fun _ => rfl⟩
  | true =>
    obtain ⟨t1, t2, t3, t4, t5⟩ := okT_of ht
    simp only [l6Kind_eq ht, Option.bind_some]
    cases hk : okK s k with
    | false => exact ⟨([], false), by simp, by simp, by simp, fun _ h => absurd h (by simp), fun _ => rfl⟩
    | true =>
      have hr := num_range (pos_of t4) hk
      have hsm := prod_small' t4 t2
      obtain ⟨r, h1, h2⟩ := firstBehind_eq ht hk fuel hf
      obtain ⟨r', h3, h4⟩ := l6From_eq ht (n := num s k + 1) (by omega) (by omega) fuel hf
      obtain rfl := first_uniq (pos_of t4) h2 h4
      have := first_len h2
      refine ⟨r, ?_, ?_, by omega, fun _ _ => h2, fun h => absurd h (by simp)⟩
      · rw [if_neg (by simp), cut2 h1]; simp only [bind2_some]
      · rw [if_neg (by simp), if_neg (by simp), l6Number_eq t4 t2 l hk]
        simp only [Option.bind_some]
        rw [wrap_in (by omega) (by omega), cut2 h3]; simp only [bind2_some]
end Go.Proofs.Ytekacbjnpeglhaa.Q6NextK

/- The laws' helpers on slices of ints as plain functions: equal, marked, held. Condition: at most 2^40 numbers. -/
namespace Go.Proofs.Ytekacbjnpeglhaa.QInt
set_option linter.unusedVariables false
set_option linter.unusedSimpArgs false
open Go.RowKit
open Go.Proofs.Ytekacbjnpeglhaa.GoP Go.Proofs.Ytekacbjnpeglhaa.QBase Go.Proofs.Ytekacbjnpeglhaa.QLoop

theorem eqI (l : List Int) : GlEqIntS.P l l = some true := by
  simp only [GlEqIntS.P, letK, iteK_if]
  rw [if_neg (by simp)]
  refine cnt_is true (fun _ _ => True) ?_ (fun s _ => rfl) () trivial
  intro k s nx hk _ hn
  obtain ⟨x, hx, hi⟩ := at_lt (l := l) (k := k) hk
  simp only [GlEqIntS.l0, hi, Option.bind_some, letK, appK, iteK_if]
  rw [if_neg (by simp)]
  exact hn () trivial
/-- 1, 2, 3 .. -/
def ups (n : Nat) : List Int := (List.range n).map (fun i : Nat => (i : Int) + 1)
theorem ups_at {n k : Nat} (h : k < n) : (ups n)[k]? = some ((k : Int) + 1) := by unfold ups; simp [h]
theorem ups_len (n : Nat) : (ups n).length = n := by simp [ups]
theorem markI (l : List Int) (hl : l.length ≤ 1099511627776) : GlMarkIntS.P l 1 = some ((l.length : Int) + 1, ups l.length) := by
  simp only [GlMarkIntS.P]
  refine cnt_is _ (fun k s => s.1.length = l.length ∧ s.2 = (k : Int) + 1 ∧ ∀ i, i < k → s.1[i]? = some ((i : Int) + 1)) ?_ ?_ (l, 1) ⟨rfl, rfl, fun i hi => by omega⟩
  · rintro k ⟨a, b⟩ nx hk ⟨h1, h2, h3⟩ hn
    dsimp only at h1 h2 h3
    obtain ⟨x, hx, hi⟩ := at_lt (l := a) (k := k) (by omega)
    simp only [GlMarkIntS.l0, unp2, hi, Option.bind_some, letK, appK]
    rw [wrap_in (by omega) (by omega)]
    refine hn _ ⟨by simpa using h1, by dsimp only; omega, fun i hi2 => ?_⟩
    dsimp only
    by_cases he : i = k
    · subst he; rw [List.getElem?_set_self (by omega), h2]
    · rw [List.getElem?_set_ne (by omega)]; exact h3 i (by omega)
  · rintro ⟨a, b⟩ ⟨h1, h2, h3⟩
    dsimp only at h1 h2 h3
    have : a = ups l.length := by
      apply List.ext_getElem?
      intro i
      by_cases hi : i < l.length
      · rw [h3 i hi, ups_at hi]
      · rw [List.getElem?_eq_none (by omega), List.getElem?_eq_none (by rw [ups_len]; omega)]
    simp only [GlMarkIntS.e0, unp2]
    rw [this, h2]
theorem heldI (n : Nat) (hl : n ≤ 1099511627776) : GlHeldIntS.P (ups n) 1 = some ((n : Int) + 1) := by
  simp only [GlHeldIntS.P]
  refine cnt_is _ (fun k s => s = (k : Int) + 1) ?_ ?_ 1 rfl
  · intro k s nx hk hI hn
    rw [ups_len] at hk
    have hi : idx (ups n) (k : Int) = some ((k : Int) + 1) := by rw [idx_nat, ups_at hk]
    simp only [GlHeldIntS.l0, hi, Option.bind_some, letK, appK, iteK_if]
    rw [if_neg (by simp [hI]), wrap_in (by omega) (by omega)]
    exact hn _ (by omega)
  · intro s hI
    simp only [GlHeldIntS.e0, letK]
    rw [hI, ups_len]
/-- a loop that gathers -/
theorem gather {α β R : Type} {l : List α} {p : α → Bool} {g : α → β} {f : Nat → List β → (List β → Option R) → (List β → Option R) → Option R} {fin : List β → Option R} (hl : l.length ≤ 1099511627776)
    (step : ∀ k nx x s, l[k]? = some x → s.length ≤ 1099511627776 → f k s nx fin = nx (if p x then s ++ [g x] else s)) : cntK f l.length 0 [] fin = fin ((l.filter p).map g) := by
  have key : ∀ m k, k + m = l.length → cntK f m k (((l.take k).filter p).map g) fin = fin ((l.filter p).map g) := by
    intro m
    induction m with
    | zero => intro k hk; obtain rfl : k = l.length := by omega
              rw [List.take_of_length_le (Nat.le_refl _)]; rfl
    | succ m ih =>
      intro k hk
      obtain ⟨x, hx, _⟩ := at_lt (l := l) (k := k) (by omega)
      show f k _ _ fin = _
      have hle : (((l.take k).filter p).map g).length ≤ 1099511627776 := by
        rw [List.length_map]
        have := List.length_filter_le p (l.take k)
        rw [List.length_take] at this
        omega
      rw [step k _ x _ hx hle, ← ih (k + 1) (by omega), take_next hx, List.filter_append, List.map_append]
      cases hp : p x <;> simp [List.filter, hp]
  exact key l.length 0 (by omega)
end Go.Proofs.Ytekacbjnpeglhaa.QInt

/- Chapter 5: combs, holes, gauges: the plain functions of the program and of the reference agree, and the laws answer true. (QToI) No condition but those of each theorem. -/
namespace Go.Proofs.Ytekacbjnpeglhaa.QToI
set_option linter.unusedVariables false
set_option linter.unusedSimpArgs false
open Go.RowKit
open Go.Proofs.Ytekacbjnpeglhaa.GoP Go.Proofs.Ytekacbjnpeglhaa.PlainStamp Go.Proofs.Ytekacbjnpeglhaa.QBase Go.Proofs.Ytekacbjnpeglhaa.QLoop

theorem toI (l : List Int) (hl : l.length ≤ 1048576) : GlToIntS.P l = some l := by
  simp only [GlToIntS.P, letK]
  rw [guardK_pos (by omega)]
  refine cnt_is l (fun k s => s = l.take k ++ List.replicate (l.length - k) 0) ?_ ?_ _ (by simp)
  · intro k s nx hk hI hn
    obtain ⟨x, hx, hi⟩ := at_lt (l := l) (k := k) hk
    have hlen : s.length = l.length := by rw [hI]; simp; omega
    obtain ⟨z, hz, hj⟩ := at_lt (l := s) (k := k) (by omega)
    simp only [GlToIntS.l0, hi, hj, Option.bind_some, letK, appK]
    refine hn _ ?_
    rw [hI, take_next hx, List.set_append_right _ _ (by simp; omega)]
    have hr : l.length - k = (l.length - (k + 1)) + 1 := by omega
    rw [hr, List.replicate_succ, List.append_assoc]
    simp [show k - min k l.length = 0 by omega]
  · intro s hI
    rw [hI]; simp [GlToIntS.e0, letK]
end Go.Proofs.Ytekacbjnpeglhaa.QToI

/- The laws' helpers on Ban and on slices of it as plain functions: copied, equal, their bulk. No condition. -/
namespace Go.Proofs.Ytekacbjnpeglhaa.QHBanE
set_option linter.unusedVariables false
set_option linter.unusedSimpArgs false
open Go.RowKit
open Go.Proofs.Ytekacbjnpeglhaa.GoP Go.Proofs.Ytekacbjnpeglhaa.QBase Go.Proofs.Ytekacbjnpeglhaa.QLoop Go.Proofs.Ytekacbjnpeglhaa.PBan

theorem toOne (s : Ban) : GlToBan.P s = some s := by cases s; rfl
theorem eqOne (s : Ban) : GlEqBan.P s s = some true := by
  obtain ⟨x0, x1, x2, x3⟩ := s
  simp [GlEqBan.P, unBan, letK, joinK, appK, iteK_if]
theorem toS (l : List Ban) (hl : l.length ≤ 1048576) : GlToBanS.P l = some l := by
  simp only [GlToBanS.P, letK]
  rw [guardK_pos (by omega)]
  refine cnt_is l (fun k s => s = l.take k ++ List.replicate (l.length - k) (Ban.mk 0 0 0 0)) ?_ ?_ _ (by simp)
  · intro k s nx hk hI hn
    obtain ⟨x, hx, hi⟩ := at_lt (l := l) (k := k) hk
    have hlen : s.length = l.length := by rw [hI]; simp; omega
    obtain ⟨z, hz, hj⟩ := at_lt (l := s) (k := k) (by omega)
    simp only [GlToBanS.l0, hi, hj, toOne, Option.bind_some, unBan, letK, appK]
    refine hn _ ?_
    rw [hI, take_next hx, List.set_append_right _ _ (by simp; omega)]
    have hr : l.length - k = (l.length - (k + 1)) + 1 := by omega
    rw [hr, List.replicate_succ, List.append_assoc]
    simp [show k - min k l.length = 0 by omega]
  · intro s hI
    rw [hI]; simp [GlToBanS.e0, letK]
theorem eqS (l : List Ban) : GlEqBanS.P l l = some true := by
  simp only [GlEqBanS.P, letK, iteK_if]
  rw [if_neg (by simp)]
  refine cnt_is true (fun _ _ => True) ?_ (fun s _ => rfl) () trivial
  intro k s nx hk _ hn
  obtain ⟨x, hx, hi⟩ := at_lt (l := l) (k := k) hk
  simp only [GlEqBanS.l0, hi, Option.bind_some, unBan, eqOne, letK, appK, iteK_if]
  exact hn () trivial
theorem szS (l : List Ban) (hl : l.length ≤ 9223372036854775807) : GlSzBanS.P l 1048576 = some (if l.length ≤ 1048576 then 1048576 - (l.length : Int) else -1) := by
  simp only [GlSzBanS.P, letK, iteK_if]
  rw [wrap_in (by omega) (by omega)]
  by_cases h : l.length ≤ 1048576
  · rw [if_neg (by simp; omega), if_pos h]
  · rw [if_pos (by simp; omega), if_neg h]
end Go.Proofs.Ytekacbjnpeglhaa.QHBanE

/- Chapter 6: tables of kinds: the plain functions of the program and of the reference agree, and the laws answer true. (Q6Help) No condition but those of each theorem. -/
namespace Go.Proofs.Ytekacbjnpeglhaa.Q6Help
set_option linter.unusedVariables false
set_option linter.unusedSimpArgs false
open Go.RowKit
open Go.Proofs.Ytekacbjnpeglhaa.GoP Go.Proofs.Ytekacbjnpeglhaa.PlainStamp Go.Proofs.Ytekacbjnpeglhaa.QBase Go.Proofs.Ytekacbjnpeglhaa.QLoop Go.Proofs.Ytekacbjnpeglhaa.QAll Go.Proofs.Ytekacbjnpeglhaa.PBan Go.Proofs.Ytekacbjnpeglhaa.QInt Go.Proofs.Ytekacbjnpeglhaa.QToI Go.Proofs.Ytekacbjnpeglhaa.QHBanE

theorem szT (s : List Int) (l : List Ban) (hs : s.length ≤ 9223372036854775807) (hl : l.length ≤ 9223372036854775807) : ∃ c, GlSzKindTable.P s l 1048576 = some c ∧ (0 ≤ c → s.length ≤ 1048576 ∧ l.length ≤ 1048576) := by
  simp only [GlSzKindTable.P, GlSzIntS.P, GlSzBanS.P, letK, iteK_if]
  rw [wrap_in (x := 1048576 - (s.length : Int)) (by omega) (by omega)]
  by_cases h : (1048576 - (s.length : Int)) < 0
  · exact ⟨-1, by simp [h], by omega⟩
  · rw [if_neg (by simpa using h)]
    simp only [Option.bind_some]
    rw [if_neg (by simpa using h), wrap_in (by omega) (by omega)]
    by_cases h2 : (1048576 - (s.length : Int) - (l.length : Int)) < 0
    · exact ⟨-1, by simp [h2], by omega⟩
    · exact ⟨_, by rw [if_neg (by simpa using h2)]; simp only [Option.bind_some]; rw [if_neg (by simpa using h2)], by omega⟩
theorem toT (s : List Int) (l : List Ban) (hs : s.length ≤ 1048576) (hl : l.length ≤ 1048576) : GlToKindTable.P s l = some ⟨s, l⟩ := by
  simp only [GlToKindTable.P, toI s hs, toS l hl, Option.bind_some]
theorem eqT (s : List Int) (l : List Ban) : GlEqKindTable.P s l s l = some true := by
  simp [GlEqKindTable.P, eqI, eqS, letK, iteK_if]
end Go.Proofs.Ytekacbjnpeglhaa.Q6Help

/- Chapter 6: kinds in their order, as numbers: the program's search and the reference's. (Q6Mark) No condition but those of each theorem. -/
namespace Go.Proofs.Ytekacbjnpeglhaa.Q6Mark
set_option linter.unusedVariables false
set_option linter.unusedSimpArgs false
open Go.RowKit
open Go.Proofs.Ytekacbjnpeglhaa.GoP Go.Proofs.Ytekacbjnpeglhaa.PlainStamp Go.Proofs.Ytekacbjnpeglhaa.QBase Go.Proofs.Ytekacbjnpeglhaa.Q6Help Go.Proofs.Ytekacbjnpeglhaa.QLoop Go.Proofs.Ytekacbjnpeglhaa.PBan Go.Proofs.Ytekacbjnpeglhaa.QInt

theorem set_at {α : Type} {l : List α} {k : Nat} (x : α) (h : k < l.length) : idx (l.set k x) (k : Int) = some x := by rw [idx_nat, List.getElem?_set_self h]
theorem markB (l : List Ban) (hl : l.length ≤ 1048576) (c : Int) (h0 : 0 ≤ c) (h1 : c ≤ 4294967296) : ∃ v l', GlMarkBanS.P l c = some (v, l') ∧ 0 ≤ v ∧ v ≤ 4294967296 * 2 := by
  obtain ⟨⟨v, l'⟩, h, hv⟩ : ∃ r : Int × List Ban, GlMarkBanS.P l c = some r ∧ 0 ≤ r.1 ∧ r.1 ≤ 4294967296 * 2 := by
    simp only [GlMarkBanS.P]
    refine cnt_ex (n := l.length) (Q := fun r : Int × List Ban => 0 ≤ r.1 ∧ r.1 ≤ 4294967296 * 2) (fun k (s : List Ban × Int) => s.1.length = l.length ∧ s.2 = 4 * (k : Int) + c) ?_ ?_ l.length 0 (l, c) (by omega) ⟨rfl, by simp⟩
    · rintro k ⟨a, b⟩ nx hk ⟨h1, h2⟩ hn
      dsimp only at h1 h2
      obtain ⟨x, hx, hi⟩ := at_lt (l := a) (k := k) (by omega)
      have ha : k < a.length := by omega
      have w1 : IntKind.i64.wrap (b + 1) = b + 1 := wrap_in (by omega) (by omega)
      have w2 : IntKind.i64.wrap (b + 1 + 1) = b + 1 + 1 := wrap_in (by omega) (by omega)
      have w3 : IntKind.i64.wrap (b + 1 + 1 + 1) = b + 1 + 1 + 1 := wrap_in (by omega) (by omega)
      have w4 : IntKind.i64.wrap (b + 1 + 1 + 1 + 1) = b + 1 + 1 + 1 + 1 := wrap_in (by omega) (by omega)
      simp (disch := simp [ha]) only [GlMarkBanS.l0, unp2, hi, set_at, Option.bind_some, unBan, letK, appK, w1, w2, w3, w4]
      exact hn _ ⟨by simpa using h1, by dsimp only; omega⟩
    · rintro ⟨a, b⟩ ⟨h1, h2⟩
      exact ⟨_, rfl, by dsimp only at h2 ⊢; omega⟩
  exact ⟨v, l', h, hv⟩
theorem markT (s : List Int) (l : List Ban) (hs : s.length ≤ 1048576) (hl : l.length ≤ 1048576) : ∃ v a b, GlMarkKindTable.P s l 1 = some (v, a, b) ∧ 0 ≤ v ∧ v ≤ 4294967296 * 2 := by
  simp only [GlMarkKindTable.P, markI s (by omega), bind2_some]
  obtain ⟨v, l', h, hv⟩ := markB l hl ((s.length : Int) + 1) (by omega) (by omega)
  exact ⟨v, _, l', by rw [h, bind2_some], hv⟩

theorem markI2 (l : List Int) (hl : l.length ≤ 1048576) (c : Int) (h0 : 0 ≤ c) (h1 : c ≤ 4294967296 * 2) : ∃ v l', GlMarkIntS.P l c = some (v, l') ∧ 0 ≤ v := by
  obtain ⟨⟨v, l'⟩, h, hv⟩ : ∃ r : Int × List Int, GlMarkIntS.P l c = some r ∧ 0 ≤ r.1 := by
    simp only [GlMarkIntS.P]
    refine cnt_ex (n := l.length) (Q := fun r : Int × List Int => 0 ≤ r.1) (fun k (s : List Int × Int) => s.1.length = l.length ∧ s.2 = (k : Int) + c) ?_ ?_ l.length 0 (l, c) (by omega) ⟨rfl, by simp⟩
    · rintro k ⟨a, b⟩ nx hk ⟨h1, h2⟩ hn
      dsimp only at h1 h2
      obtain ⟨x, hx, hi⟩ := at_lt (l := a) (k := k) (by omega)
      simp only [GlMarkIntS.l0, unp2, hi, Option.bind_some, letK, appK]
      rw [wrap_in (by omega) (by omega)]
      exact hn _ ⟨by simpa using h1, by dsimp only; omega⟩
    · rintro ⟨a, b⟩ ⟨h1, h2⟩
      exact ⟨_, rfl, by dsimp only at h2 ⊢; omega⟩
  exact ⟨v, l', h, hv⟩
end Go.Proofs.Ytekacbjnpeglhaa.Q6Mark

/- Chapter 6: kinds in their order, as numbers: the program's search and the reference's. (QL6Next) No condition but those of each theorem. -/
namespace Go.Proofs.Ytekacbjnpeglhaa.QL6Next
set_option linter.unusedVariables false
set_option linter.unusedSimpArgs false
open Go.RowKit
open Go.Proofs.Ytekacbjnpeglhaa.GoP Go.Proofs.Ytekacbjnpeglhaa.PlainStamp Go.Proofs.Ytekacbjnpeglhaa.QBase Go.Proofs.Ytekacbjnpeglhaa.Q6NextK Go.Proofs.Ytekacbjnpeglhaa.Q6Mark Go.Proofs.Ytekacbjnpeglhaa.Q6Help Go.Proofs.Ytekacbjnpeglhaa.QLoop Go.Proofs.Ytekacbjnpeglhaa.PBan Go.Proofs.Ytekacbjnpeglhaa.QInt Go.Proofs.Ytekacbjnpeglhaa.QToI

theorem law_next (fuel : Nat) (hf : 3200 ≤ fuel) (s : List Int) (l : List Ban) (k : List Int) (hs : s.length ≤ 9223372036854775807) (hl : l.length ≤ 9223372036854775807) (hk : k.length ≤ 9223372036854775807) : GlFnExactNextKind.P fuel s l k = some true := by
  simp only [GlFnExactNextKind.P, letK, iteK_if]
  by_cases hb0 : (1048576 : Int) < (k.length : Int)
  · rw [if_pos (by simpa using hb0)]
  · rw [if_neg (by simpa using hb0)]
    obtain ⟨c, hc, hb⟩ := szT s l hs hl
    simp only [hc, Option.bind_some]
    by_cases h : c < 0
    · simp [h]
    · obtain ⟨h1, h2⟩ := hb (by omega)
      obtain ⟨⟨a, b⟩, hi, hsp, hlen, _, _⟩ := nextKind_both fuel hf s l k hs hl
      obtain ⟨v, x, y, hm, hv⟩ := markT s l h1 h2
      dsimp only at hlen
      have hv2 : ¬ v < 0 := by omega
      have e1 : ¬ ((a.length : Int) + 1 < 0) := by omega
      obtain ⟨v', x', hm', hv'⟩ := markI2 k (by omega) v hv.1 hv.2
      have hv3 : ¬ v' < 0 := by omega
      simp [h, toT s l h1 h2, unKindTable, toI k (by omega), hi, hsp, eqT, eqI, hm, hv2, hm', hv3, markI a (by omega), heldI a.length (by omega), e1, bind2, bind3, joinK, appK, iteK_if]
end Go.Proofs.Ytekacbjnpeglhaa.QL6Next

/- A slice of strings or of integers that lies in a record that came in: the list that it reads as. No condition. -/
namespace Go.Proofs.Ytekacbjnpeglhaa.OpenNest
set_option linter.unusedVariables false
open Go.Joins Go.ChangeShapes Go.WideShapes Go.RowKit Go.Deep Go.Proofs.Ytekacbjnpeglhaa.Rowed
theorem len1 {l : List Value} (h : l.length = 1) : ∃ a, l = [a] := List.length_eq_one_iff.1 h
theorem len2 {l : List Value} (h : l.length = 2) : ∃ a b, l = [a, b] := by
  match l, h with
  | [a, b], _ => exact ⟨a, b, rfl⟩
theorem len3 {l : List Value} (h : l.length = 3) : ∃ a b c, l = [a, b, c] := by
  match l, h with
  | [a, b, c], _ => exact ⟨a, b, c, rfl⟩
theorem len4 {l : List Value} (h : l.length = 4) : ∃ a b c d, l = [a, b, c, d] := by
  match l, h with
  | [a, b, c, d], _ => exact ⟨a, b, c, d, rfl⟩
theorem len5 {l : List Value} (h : l.length = 5) : ∃ a b c d e, l = [a, b, c, d, e] := by
  match l, h with
  | [a, b, c, d, e], _ => exact ⟨a, b, c, d, e, rfl⟩
section
variable {H : Type} {enc : TypeId × Value → H} {P : Program} {w : World}
theorem one_strs {t e : TypeId} {fuel : Nat} {u : Value} {x : DataW H × List MemPlace} (ht : P.underlying t = some (.slice e)) (he : P.underlying e = some .string) (hc : P.cellsOf e = 1)
    (h : DataW.trod enc P w 0 (fun _ => true) true fuel t [u] = some x) :
    ∃ (a : Option Addr) (len cap : Nat) (l : List ByteArray), u = .slice a len cap ∧ Cells w 1 a len (l.map Value.string) ∧ l.length = len ∧ len ≤ maxLen ∧ ∀ s ∈ l, s.size ≤ maxLen := by
  rcases open_strings ht he hc h with ⟨hcs, _⟩ | ⟨x, l, c, zs, hcs, hxb, hl, hm, hz, hdat, hcell, hwz⟩
  · obtain rfl : u = .slice none 0 0 := by simpa using hcs
    exact ⟨none, 0, 0, [], rfl, Cells.nil_ _ _ _, rfl, by unfold maxLen; omega, by intro s hs; simp at hs⟩
  · obtain rfl : u = .slice (some x) l c := by simpa using hcs
    have hz' : zs.length = c := by simpa using hz
    refine ⟨some x, l, c, zs.take l, rfl, ⟨by rw [List.length_map, List.length_take]; omega, fun _ => ⟨x, rfl, fun j u hu => ?_⟩⟩, by rw [List.length_take]; omega, by omega, fun s hs => hwz s (List.mem_of_mem_take hs)⟩
    rw [List.getElem?_map] at hu
    cases hj : (zs.take l)[j]? with
    | none => rw [hj] at hu; simp at hu
    | some y =>
      rw [hj] at hu
      obtain rfl : Value.string y = u := by simpa using hu
      have hjl := (List.getElem?_eq_some_iff.1 hj).1
      rw [List.length_take] at hjl
      rw [List.getElem?_take_of_lt (by omega)] at hj
      rw [hcell j (by omega), List.getD_eq_getElem?_getD, hj]; rfl
theorem one_ints {t e : TypeId} {fuel : Nat} {u : Value} {x : DataW H × List MemPlace} (ht : P.underlying t = some (.slice e)) (he : P.underlying e = some (.int .i64)) (hc : P.cellsOf e = 1)
    (h : DataW.trod enc P w 0 (fun _ => true) true fuel t [u] = some x) :
    ∃ (a : Option Addr) (len cap : Nat) (l : List Int), u = .slice a len cap ∧ Cells w 1 a len (l.map (Value.int .i64)) ∧ l.length = len ∧ len ≤ maxLen ∧ ∀ n ∈ l, (Lit.int .i64 n).wf = true := by
  rcases open_ints ht he hc h with ⟨hcs, _⟩ | ⟨x, l, c, zs, hcs, hxb, hl, hm, hz, hdat, hcell, hwz⟩
  · obtain rfl : u = .slice none 0 0 := by simpa using hcs
    exact ⟨none, 0, 0, [], rfl, Cells.nil_ _ _ _, rfl, by unfold maxLen; omega, by intro s hs; simp at hs⟩
  · obtain rfl : u = .slice (some x) l c := by simpa using hcs
    have hz' : zs.length = c := by simpa using hz
    refine ⟨some x, l, c, zs.take l, rfl, ⟨by rw [List.length_map, List.length_take]; omega, fun _ => ⟨x, rfl, fun j u hu => ?_⟩⟩, by rw [List.length_take]; omega, by omega, fun s hs => hwz s (List.mem_of_mem_take hs)⟩
    rw [List.getElem?_map] at hu
    cases hj : (zs.take l)[j]? with
    | none => rw [hj] at hu; simp at hu
    | some y =>
      rw [hj] at hu
      obtain rfl : Value.int .i64 y = u := by simpa using hu
      have hjl := (List.getElem?_eq_some_iff.1 hj).1
      rw [List.length_take] at hjl
      rw [List.getElem?_take_of_lt (by omega)] at hj
      rw [hcell j (by omega), List.getD_eq_getElem?_getD, hj]; rfl
end
end Go.Proofs.Ytekacbjnpeglhaa.OpenNest

