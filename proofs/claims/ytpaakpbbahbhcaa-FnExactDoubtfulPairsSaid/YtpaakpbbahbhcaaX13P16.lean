/- Texts on which the proofs of several laws stand, one behind the other (16 of 20). No condition of their own. -/
import Derived.Test.YtpaakpbbahbhcaaChecked
import Derived.Test.YtpaakpbbahbhcaaX13P1
import Derived.Test.YtpaakpbbahbhcaaX13P5
import Derived.Test.YtpaakpbbahbhcaaX13P2
import Derived.Test.YtpaakpbbahbhcaaX13P6
import Derived.WalkKit
import Derived.WalkSpells
import Derived.WalkLawsBesides
import Derived.BigQuiet
import Derived.OwnWalk
import Derived.Deep.LoopGhost
import Derived.Deep.QuietTactic
import Derived.IntWalk
import Derived.Lib.QuietBelow
import Derived.Deep.RegionHeld3
import Derived.Test.YtpaakpbbahbhcaaX13P7
import Derived.Test.YtpaakpbbahbhcaaX13P8
import Derived.Test.YtpaakpbbahbhcaaX13P3
/- loop.example/g01062/spec.DoubtfulPairs as a plain function, and the contract of the program's: where the plain one has an answer, the program has it. Conditions: slices read as lists. -/
namespace Go.Proofs.Ytpaakpbbahbhcaa.GsDoubtfulPairs
set_option linter.unusedVariables false
set_option linter.unusedSimpArgs false
open Go.RowKit
open Go.Proofs.Ytpaakpbbahbhcaa.Rowed Go.Proofs.Ytpaakpbbahbhcaa.Turn Go.Proofs.Ytpaakpbbahbhcaa.Aid Go.Proofs.Ytpaakpbbahbhcaa.GoP Go.Proofs.Ytpaakpbbahbhcaa.GoM

def l1 (list : (List Go.Proofs.Ytpaakpbbahbhcaa.PSighting.Sighting)) (limit : Int) (fuel : Nat) (k0 : Nat) (t_23 : (List Int)) (s : (List (List Int)) × Int) (nx1 bk1 : (List (List Int)) × Int → Option ((List (List Int)) × Bool)) : Option ((List (List Int)) × Bool) :=
  unp2 s fun out_6l1 k_9l1 =>
  letK (decide (k_9l1 < (list.length : Int))) fun (t_31 : Bool) =>
  iteK t_31
  (Option.bind (Go.Proofs.Ytpaakpbbahbhcaa.GsL1Has.P t_23 k_9l1) fun (t_34 : Bool) =>
  joinK (fun (t_47 : Bool) =>
  iteK t_47
  (Option.bind (idx list (k0 : Int)) fun (yt_51 : Go.Proofs.Ytpaakpbbahbhcaa.PSighting.Sighting) =>
  unSighting yt_51 fun (t_51_id : Int) (t_51_year : Int) (t_51_town : ByteArray) (t_51_traits : (List Int)) =>
  Option.bind (idx list k_9l1) fun (yt_56 : Go.Proofs.Ytpaakpbbahbhcaa.PSighting.Sighting) =>
  unSighting yt_56 fun (t_56_id : Int) (t_56_year : Int) (t_56_town : ByteArray) (t_56_traits : (List Int)) =>
  letK ([t_51_id, t_56_id]) fun (t_59 : (List Int)) =>
  guardK (out_6l1.length ≤ 1099511627776) <|
  letK (out_6l1 ++ [t_59]) fun (t_61 : (List (List Int))) =>
  letK (IntKind.i64.wrap (k_9l1 + 1)) fun (t_64 : Int) =>
  appK nx1 (t_61, t_64))
  (letK (IntKind.i64.wrap (k_9l1 + 1)) fun (t_64 : Int) =>
  appK nx1 (out_6l1, t_64))) fun jt_47 => iteK t_34 (Option.bind (idx list (k0 : Int)) fun (yt_38 : Go.Proofs.Ytpaakpbbahbhcaa.PSighting.Sighting) =>
  unSighting yt_38 fun (t_38_id : Int) (t_38_year : Int) (t_38_town : ByteArray) (t_38_traits : (List Int)) =>
  Option.bind (idx list k_9l1) fun (yt_42 : Go.Proofs.Ytpaakpbbahbhcaa.PSighting.Sighting) =>
  unSighting yt_42 fun (t_42_id : Int) (t_42_year : Int) (t_42_town : ByteArray) (t_42_traits : (List Int)) =>
  Option.bind (Go.Proofs.Ytpaakpbbahbhcaa.GsL13Evidence.P fuel t_38_id t_38_year t_38_town t_38_traits t_42_id t_42_year t_42_town t_42_traits) fun (t_44 : Int) =>
  letK (decide (t_44 < limit)) fun (t_46 : Bool) =>
  appK jt_47 t_46) (appK jt_47 false))
  (appK bk1 (out_6l1, k_9l1))

def e1 (nx0 : ((List (List Int))) → Option ((List (List Int)) × Bool)) (s : (List (List Int)) × Int) : Option ((List (List Int)) × Bool) :=
  unp2 s fun out_6l1 k_9l1 =>
  appK nx0 (out_6l1)

def l0 (list : (List Go.Proofs.Ytpaakpbbahbhcaa.PSighting.Sighting)) (limit : Int) (fuel : Nat) (k0 : Nat) (s : (List (List Int))) (nx0 bk0 : (List (List Int)) → Option ((List (List Int)) × Bool)) : Option ((List (List Int)) × Bool) :=
  letK s fun out_6l0 =>
  Option.bind (Go.Proofs.Ytpaakpbbahbhcaa.GsL13Cover.P fuel list limit (k0 : Int)) fun (t_23 : (List Int)) =>
  letK (IntKind.i64.wrap ((k0 : Int) + 1)) fun (t_26 : Int) =>
  loopK (l1 list limit fuel k0 t_23) fuel (out_6l0, t_26) (e1 nx0)

def e0  (s : (List (List Int))) : Option ((List (List Int)) × Bool) :=
  letK s fun out_6l0 =>
  some (out_6l0, true)

def P (fuel : Nat) (list : (List Go.Proofs.Ytpaakpbbahbhcaa.PSighting.Sighting)) (limit : Int) : Option ((List (List Int)) × Bool) :=
  Option.bind (Go.Proofs.Ytpaakpbbahbhcaa.GsL13Good.P list) fun (t_5 : Bool) =>
  letK (!t_5) fun (t_6 : Bool) =>
  joinK (fun (t_11 : Bool) =>
  iteK t_11
  (some (([] : List (List Int)), false))
  (cntK (l0 list limit fuel) (list.length) 0 (([] : List (List Int))) (e0 ))) fun jt_11 => iteK t_6 (appK jt_11 true) (Option.bind (Go.Proofs.Ytpaakpbbahbhcaa.GsL13Limit.P limit) fun (t_9 : Bool) =>
  letK (!t_9) fun (t_10 : Bool) =>
  appK jt_11 t_10)

set_option maxRecDepth 100000 in
set_option maxHeartbeats 2000000 in
theorem C (fuel : Nat) (list : (List Go.Proofs.Ytpaakpbbahbhcaa.PSighting.Sighting)) (limit : Int) (A0 : Option Addr) (c0 : Nat)  (w : World) (M0 : Hid (Go.Proofs.Ytpaakpbbahbhcaa.GoV.ReadNest w Go.Proofs.Ytpaakpbbahbhcaa.GoVSighting.lay A0 list)) (N0 : Hid (list.length ≤ 9223372036854775807))  {r0 : (List (List Int))} {r1 : Bool} (H : Hid (P fuel list limit = some (r0, r1))) :
    Calls Try.prog 42 #[.slice A0 list.length c0, .int .i64 limit] w (fun e w' => ∃ A_r0 c_r0, e = .returned (.tuple #[.slice A_r0 r0.length c_r0, .bool r1]) ∧ (∃ B_, Go.Proofs.Ytpaakpbbahbhcaa.GoN.OwnNest w' (w.heap.size) 32 3 1 Go.Proofs.Ytpaakpbbahbhcaa.HelpInt.iv A_r0 c_r0 r0 B_) ∧ Below w.heap.size w w') := by
  have HB := Lib.hid (Below.refl w.heap.size w)
  unfold P at H
  have N0o := N0.out
  obtain ⟨i0_32, hi_32, hz0_32, hz1_32, hz2_32⟩ := Aid.info_parts (P := Try.prog) (T := 32) (z := .slice none 0 0) (s := 1) (b := 24) (by kernel_rfl)
  go_enter Try.func42, Try.ntmps42
  obtain ⟨w_t_2, hw_t_2⟩ : ∃ x, w.alloc (.cells #[] 32) = x := ⟨_, rfl⟩
  have bw_t_2 : Below w.heap.size w w_t_2 := by rw [← hw_t_2]; exact (Below.refl _ _).alloc (Nat.le_refl _) _
  have Ot_2 : Hid (Go.Proofs.Ytpaakpbbahbhcaa.GoN.OwnNest w_t_2 (w.heap.size) 32 3 1 Go.Proofs.Ytpaakpbbahbhcaa.HelpInt.iv (some ⟨w.heap.size, 0, none⟩) 0 ([] : List (List Int)) [some ⟨w.heap.size, 0, none⟩]) := Lib.hid (by rw [← hw_t_2]; exact Go.Proofs.Ytpaakpbbahbhcaa.GoN.nest_empty HB.out.size)
  have HBw_t_2 := Lib.hid (Below.step HB.out bw_t_2)
  clear bw_t_2
  replace H := bind_hid H
  obtain ⟨t_5, qt_5, H⟩ := H
  go_wp2_with fail
  go_at_call 56
  refine (Go.Proofs.Ytpaakpbbahbhcaa.GsL13Good.C (list) A0 c0 _   (Lib.hid (Go.Proofs.Ytpaakpbbahbhcaa.GoV.read_below M0.out HBw_t_2.out)) N0 qt_5).mono ?_
  rintro e_t_5 wt_5 ⟨rfl, bt_5⟩
  have HBwt_5 := Lib.hid (Below.step HBw_t_2.out bt_5)
  replace Ot_2 := Lib.hid (Go.Proofs.Ytpaakpbbahbhcaa.GoN.nest_below Ot_2.out bt_5)
  clear bt_5
  cases t_5 with
  | false =>
    replace H := let_hid H
    obtain ⟨t_6, ht_6, H⟩ := H
    obtain rfl : t_6 = true := ht_6.symm
    replace H := join_hid H
    replace H := ite_t H
    replace H := app_hid H
    replace H := ite_t H
    cases ret_hid H
    go_wp2_with fail
    go_ret2
    exact ⟨(some ⟨w.heap.size, 0, none⟩), 0, rfl, ⟨_, Ot_2.out⟩, HBwt_5.out⟩
  | true =>
    replace H := let_hid H
    obtain ⟨t_6, ht_6, H⟩ := H
    obtain rfl : t_6 = false := ht_6.symm
    replace H := join_hid H
    replace H := ite_f H
    replace H := bind_hid H
    obtain ⟨t_9, qt_9, H⟩ := H
    go_wp2_with fail
    go_at_call 65
    refine (Go.Proofs.Ytpaakpbbahbhcaa.GsL13Limit.C (limit)  _    qt_9).mono ?_
    rintro e_t_9 wt_9 ⟨rfl, bt_9⟩
    have HBwt_9 := Lib.hid (Below.step HBwt_5.out bt_9)
    replace Ot_2 := Lib.hid (Go.Proofs.Ytpaakpbbahbhcaa.GoN.nest_below Ot_2.out bt_9)
    clear bt_9
    cases t_9 with
    | false =>
      replace H := let_hid H
      obtain ⟨t_10, ht_10, H⟩ := H
      obtain rfl : t_10 = true := ht_10.symm
      replace H := app_hid H
      replace H := ite_t H
      cases ret_hid H
      go_wp2_with fail
      go_ret2
      exact ⟨(some ⟨w.heap.size, 0, none⟩), 0, rfl, ⟨_, Ot_2.out⟩, HBwt_9.out⟩
    | true =>
      replace H := let_hid H
      obtain ⟨t_10, ht_10, H⟩ := H
      obtain rfl : t_10 = false := ht_10.symm
      replace H := app_hid H
      replace H := ite_f H
      go_wp2_with fail
      go_loopg [7, 6] (list.length) (fun m_ v7_ v6_ wr => ∃ (k0 : Nat) (out_6l0 : (List (List Int))) (Aout_6l0 : Option Addr) (cout_6l0 : Nat) (Bout_6l0 : List (Option Addr)), k0 + m_ = list.length ∧ v7_ = .int .i64 (k0 : Int) ∧ v6_ = .slice Aout_6l0 out_6l0.length cout_6l0 ∧ Hid (cntK (l0 list limit fuel) m_ k0 (out_6l0) (e0 ) = some (r0, r1)) ∧ Hid (Below w.heap.size w wr) ∧ Hid (Go.Proofs.Ytpaakpbbahbhcaa.GoN.OwnNest wr (w.heap.size) 32 3 1 Go.Proofs.Ytpaakpbbahbhcaa.HelpInt.iv Aout_6l0 cout_6l0 out_6l0 Bout_6l0))
      case atStart => exact ⟨0, _, _, _, _, by omega, rfl, rfl, H, HBwt_9, Ot_2⟩
      case round =>
        obtain ⟨k0, out_6l0, Aout_6l0, cout_6l0, Bout_6l0, hkm0, rfl, rfl, H, HBwr0, Oout_6l0⟩ := hrel
        rename World => wr0
        cases gk with
        | zero =>
          obtain rfl : k0 = list.length := by omega
          have hc0 : decide (((list.length : Nat) : Int) < ((list.length : Nat) : Int)) = false := by simp
          replace H := cnt_zero H
          unfold e0 at H
          replace H := let_hid H
          obtain ⟨_, rfl, H⟩ := H
          cases ret_hid H
          go_wp2_with fail
          go_ret2
          exact ⟨Aout_6l0, cout_6l0, rfl, ⟨_, Oout_6l0.out⟩, HBwr0.out⟩
        | succ m0 =>
          have hlt0 : k0 < list.length := by omega
          have hc0 : decide ((k0 : Int) < ((list.length : Nat) : Int)) = true := by simp; omega
          replace H := cnt_succ H
          unfold l0 at H
          replace H := let_hid H
          obtain ⟨_, rfl, H⟩ := H
          replace H := bind_hid H
          obtain ⟨t_23, qt_23, H⟩ := H
          go_wp2_with fail
          go_at_call 58
          refine (Go.Proofs.Ytpaakpbbahbhcaa.GsL13Cover.C fuel (list) (limit) ((k0 : Int)) A0 c0 _   (Lib.hid (Go.Proofs.Ytpaakpbbahbhcaa.GoV.read_below M0.out HBwr0.out)) N0 qt_23).mono ?_
          rintro e_t_23 wt_23 ⟨At_23, ct_23, rfl, ot_23, bt_23⟩
          have Dt_23_out_6l0 := Lib.hid (Go.Proofs.Ytpaakpbbahbhcaa.GoN.nest_call ot_23 Oout_6l0.out)
          have Ot_23 := Lib.hid (own_lower ot_23 HBwr0.out.size)
          clear ot_23
          have HBwt_23 := Lib.hid (Below.step HBwr0.out bt_23)
          replace Oout_6l0 := Lib.hid (Go.Proofs.Ytpaakpbbahbhcaa.GoN.nest_below Oout_6l0.out bt_23)
          clear bt_23
          replace H := let_hid H
          obtain ⟨t_26, ht_26, H⟩ := H
          go_wp2_with fail
          go_loopg [6, 9] (fuel) (fun m_ v6_ v9_ wr => ∃ (out_6l1 : (List (List Int))) (k_9l1 : Int) (Aout_6l1 : Option Addr) (cout_6l1 : Nat) (Bout_6l1 : List (Option Addr)), v6_ = .slice Aout_6l1 out_6l1.length cout_6l1 ∧ v9_ = .int .i64 k_9l1 ∧ Hid (loopK (l1 list limit fuel k0 t_23) m_ (out_6l1, k_9l1) (e1 (fun s' => cntK (l0 list limit fuel) m0 (k0 + 1) s' (e0 ))) = some (r0, r1)) ∧ Hid (Below w.heap.size w wr) ∧ Hid (Go.Proofs.Ytpaakpbbahbhcaa.GoN.OwnNest wr (w.heap.size) 32 3 1 Go.Proofs.Ytpaakpbbahbhcaa.HelpInt.iv Aout_6l1 cout_6l1 out_6l1 Bout_6l1) ∧ Hid (wr.ownsRow w.heap.size 3 1 (.slice At_23 t_23.length ct_23) t_23.length (Go.Proofs.Ytpaakpbbahbhcaa.HelpInt.iv t_23)) ∧ Hid (∀ y_ ∈ Bout_6l1, Apart At_23 y_))
          case atStart => exact ⟨_, _, _, _, _, rfl, rfl, H, HBwt_23, Oout_6l0, Ot_23, Lib.hid Dt_23_out_6l0.out⟩
          case round =>
            obtain ⟨out_6l1, k_9l1, Aout_6l1, cout_6l1, Bout_6l1, rfl, rfl, H, HBwr1, Oout_6l1, Ot_23, Dt_23_out_6l1⟩ := hrel
            rename World => wr1
            cases gk with
            | zero => exact (loop_zero H).elim
            | succ m1 =>
              replace H := loop_succ H
              unfold l1 at H
              replace H := unp2_hid H
              replace H := let_hid H
              obtain ⟨t_31, ht_31, H⟩ := H
              cases t_31 with
              | false =>
                replace H := ite_f H
                replace H := app_hid H
                unfold e1 at H
                replace H := unp2_hid H
                replace H := app_hid H
                go_wp2_with fail
                have hnx0_ : t_26 ≤ (k0 : Int) + 1 ∧ (k0 : Int) + 1 ≤ t_26 := by rw [← ht_26, IntWalk.i64_in _ (by omega)]; omega
                go_roundg m0
                case measure => omega
                case rel => exact ⟨k0 + 1, _, _, _, _, by omega, by go_num, rfl, H, HBwr1, Oout_6l1⟩
              | true =>
                replace H := ite_t H
                go_wp2_with fail
                replace H := bind_hid H
                obtain ⟨t_34, qt_34, H⟩ := H
                have nt_34 : ∀ d os, Calls Try.prog 57 #[.slice At_23 t_23.length ct_23, .int .i64 k_9l1] (Go.Sort.grow (redrawn wr1 d) os) fun e w'' => e = .returned (.bool t_34) ∧ ∃ p : Regrown, w'' = Go.Sort.grow (redrawn wr1 p.d) p.os := fun d os => Calls.regrown_of (Go.Proofs.Ytpaakpbbahbhcaa.GsL1Has.C (t_23) (k_9l1) At_23 ct_23 _   (Lib.hid (Cells.below (own_cells Ot_23.out) (below_regrown _ _ _))) (Lib.hid (own_max Ot_23.out)) qt_34)
                replace H := join_hid H
                cases t_34 with
                | false =>
                  replace H := ite_f H
                  replace H := app_hid H
                  refine wp_region_quiet_below (by kernel_rfl) (by kernel_rfl) ?_
                  repeat (go_big_quiet_step (first | (go_at_call 57; exact nt_34 _ _)))
                  refine wpQuiet_nil ?_
                  intro Y11 hY11
                  replace hY11 := below_class hY11
                  clear nt_34
                  have HBY11 := Lib.hid (Below.step HBwr1.out hY11)
                  replace Ot_23 := Lib.hid (own_below Ot_23.out hY11)
                  replace Oout_6l1 := Lib.hid (Go.Proofs.Ytpaakpbbahbhcaa.GoN.nest_below Oout_6l1.out hY11)
                  clear hY11
                  replace H := ite_f H
                  replace H := let_hid H
                  obtain ⟨t_64, ht_64, H⟩ := H
                  replace H := app_hid H
                  go_wp2_with fail
                  go_roundg m1
                  case measure => omega
                  case rel => exact ⟨_, _, _, _, _, rfl, rfl, H, HBY11, Oout_6l1, Ot_23, Lib.hid Dt_23_out_6l1.out⟩
                | true =>
                  replace H := ite_t H
                  replace H := idx_hid H
                  obtain ⟨nt_38, yt_38, et_38, lt_38, gt_38, H⟩ := H
                  obtain rfl : k0 = nt_38 := by omega
                  clear et_38
                  obtain ⟨t_38_id, t_38_year, t_38_town, t_38_traits⟩ := yt_38
                  replace H := unSighting_hid H
                  obtain ⟨bbt_38, oot_38, zt_38, Art_38, crt_38, eAt_38, zzt_38, hKt_38, hrt_38, hqt_38, hnt_38⟩ := Go.Proofs.Ytpaakpbbahbhcaa.GoV.nest_at M0.out (k := k0) lt_38
                  obtain rfl := Option.some.inj (gt_38.out.symm.trans zzt_38)
                  clear zzt_38
                  subst eAt_38
                  have hct_38_0 : w.cell? ⟨bbt_38, oot_38 + k0 * 4, none⟩ = some (.int .i64 t_38_id) := hKt_38 0 _ rfl
                  have hct_38_1 : w.cell? ⟨bbt_38, oot_38 + k0 * 4 + 1, none⟩ = some (.int .i64 t_38_year) := hKt_38 1 _ rfl
                  have hct_38_2 : w.cell? ⟨bbt_38, oot_38 + k0 * 4 + 2, none⟩ = some (.string t_38_town) := hKt_38 2 _ rfl
                  have hct_38_3 : w.cell? ⟨bbt_38, oot_38 + k0 * 4 + 3, none⟩ = some (.slice Art_38 t_38_traits.length crt_38) := hKt_38 3 _ rfl
                  clear hKt_38
                  have ltt_38 := cell_lt hct_38_0
                  replace hct_38_0 := cell_below HBwr1.out hct_38_0
                  replace hct_38_1 := cell_below HBwr1.out hct_38_1
                  replace hct_38_2 := cell_below HBwr1.out hct_38_2
                  replace hct_38_3 := cell_below HBwr1.out hct_38_3
                  have Mrt_38 := Lib.hid hrt_38
                  have Qrt_38 := Lib.hid hqt_38
                  have Nrt_38 := Lib.hid hnt_38
                  clear hrt_38 hqt_38 hnt_38
                  have b0t_38 : (0 : Int) ≤ (k0 : Int) := by omega
                  have b1t_38 : (k0 : Int) < ((list.length : Nat) : Int) := by omega
                  have b2t_38 : ((k0 : Int)).toNat = k0 := by omega
                  have Hhct_38_0 := Lib.hid hct_38_0
                  replace hct_38_0 := cell_regrown hct_38_0
                  have Hhct_38_1 := Lib.hid hct_38_1
                  replace hct_38_1 := cell_regrown hct_38_1
                  have Hhct_38_2 := Lib.hid hct_38_2
                  replace hct_38_2 := cell_regrown hct_38_2
                  have Hhct_38_3 := Lib.hid hct_38_3
                  replace hct_38_3 := cell_regrown hct_38_3
                  replace H := idx_hid H
                  obtain ⟨nt_42, yt_42, et_42, lt_42, gt_42, H⟩ := H
                  subst et_42
                  have nc_162 : nt_42 < list.length := by have := of_decide_eq_true ht_31; omega
                  obtain ⟨t_42_id, t_42_year, t_42_town, t_42_traits⟩ := yt_42
                  replace H := unSighting_hid H
                  obtain ⟨bbt_42, oot_42, zt_42, Art_42, crt_42, eAt_42, zzt_42, hKt_42, hrt_42, hqt_42, hnt_42⟩ := Go.Proofs.Ytpaakpbbahbhcaa.GoV.nest_at M0.out (k := nt_42) lt_42
                  obtain rfl := Option.some.inj (gt_42.out.symm.trans zzt_42)
                  clear zzt_42
                  simp only [Option.some.injEq, Addr.mk.injEq] at eAt_42
                  obtain ⟨rfl, rfl, _⟩ := eAt_42
                  have hct_42_0 : w.cell? ⟨bbt_38, oot_38 + nt_42 * 4, none⟩ = some (.int .i64 t_42_id) := hKt_42 0 _ rfl
                  have hct_42_1 : w.cell? ⟨bbt_38, oot_38 + nt_42 * 4 + 1, none⟩ = some (.int .i64 t_42_year) := hKt_42 1 _ rfl
                  have hct_42_2 : w.cell? ⟨bbt_38, oot_38 + nt_42 * 4 + 2, none⟩ = some (.string t_42_town) := hKt_42 2 _ rfl
                  have hct_42_3 : w.cell? ⟨bbt_38, oot_38 + nt_42 * 4 + 3, none⟩ = some (.slice Art_42 t_42_traits.length crt_42) := hKt_42 3 _ rfl
                  clear hKt_42
                  have ltt_42 := cell_lt hct_42_0
                  replace hct_42_0 := cell_below HBwr1.out hct_42_0
                  replace hct_42_1 := cell_below HBwr1.out hct_42_1
                  replace hct_42_2 := cell_below HBwr1.out hct_42_2
                  replace hct_42_3 := cell_below HBwr1.out hct_42_3
                  have Mrt_42 := Lib.hid hrt_42
                  have Qrt_42 := Lib.hid hqt_42
                  have Nrt_42 := Lib.hid hnt_42
                  clear hrt_42 hqt_42 hnt_42
                  have b0t_42 : (0 : Int) ≤ (nt_42 : Int) := by omega
                  have b1t_42 : (nt_42 : Int) < ((list.length : Nat) : Int) := by omega
                  have b2t_42 : ((nt_42 : Int)).toNat = nt_42 := by omega
                  have Hhct_42_0 := Lib.hid hct_42_0
                  replace hct_42_0 := cell_regrown hct_42_0
                  have Hhct_42_1 := Lib.hid hct_42_1
                  replace hct_42_1 := cell_regrown hct_42_1
                  have Hhct_42_2 := Lib.hid hct_42_2
                  replace hct_42_2 := cell_regrown hct_42_2
                  have Hhct_42_3 := Lib.hid hct_42_3
                  replace hct_42_3 := cell_regrown hct_42_3
                  replace H := bind_hid H
                  obtain ⟨t_44, qt_44, H⟩ := H
                  have nt_44 : ∀ d os, Calls Try.prog 60 #[.agg #[.int .i64 t_38_id, .int .i64 t_38_year, .string t_38_town, .slice Art_38 t_38_traits.length crt_38], .agg #[.int .i64 t_42_id, .int .i64 t_42_year, .string t_42_town, .slice Art_42 t_42_traits.length crt_42]] (Go.Sort.grow (redrawn wr1 d) os) fun e w'' => e = .returned (.int .i64 t_44) ∧ ∃ p : Regrown, w'' = Go.Sort.grow (redrawn wr1 p.d) p.os := fun d os => Calls.regrown_of (Go.Proofs.Ytpaakpbbahbhcaa.GsL13Evidence.C fuel (t_38_id) (t_38_year) (t_38_town) (t_38_traits) (t_42_id) (t_42_year) (t_42_town) (t_42_traits) Art_38 crt_38 Art_42 crt_42 _   (Lib.hid (Cells.below (Cells.below Mrt_38.out HBwr1.out) (below_regrown _ _ _))) Nrt_38 (Lib.hid (Cells.below (Cells.below Mrt_42.out HBwr1.out) (below_regrown _ _ _))) Nrt_42 qt_44)
                  replace H := let_hid H
                  obtain ⟨t_46, ht_46, H⟩ := H
                  replace H := app_hid H
                  refine wp_region_quiet_below (by kernel_rfl) (by kernel_rfl) ?_
                  repeat (go_big_quiet_step (first | (go_at_call 57; exact nt_34 _ _) | (go_at_call 60; exact nt_44 _ _)))
                  refine wpQuiet_nil ?_
                  intro Y11 hY11
                  replace hY11 := below_class hY11
                  clear nt_34 nt_44
                  replace hct_38_0 := Hhct_38_0.out
                  clear Hhct_38_0
                  replace hct_38_1 := Hhct_38_1.out
                  clear Hhct_38_1
                  replace hct_38_2 := Hhct_38_2.out
                  clear Hhct_38_2
                  replace hct_38_3 := Hhct_38_3.out
                  clear Hhct_38_3
                  replace hct_42_0 := Hhct_42_0.out
                  clear Hhct_42_0
                  replace hct_42_1 := Hhct_42_1.out
                  clear Hhct_42_1
                  replace hct_42_2 := Hhct_42_2.out
                  clear Hhct_42_2
                  replace hct_42_3 := Hhct_42_3.out
                  clear Hhct_42_3
                  have HBY11 := Lib.hid (Below.step HBwr1.out hY11)
                  replace hct_38_0 := cell_below hY11 hct_38_0
                  replace hct_38_1 := cell_below hY11 hct_38_1
                  replace hct_38_2 := cell_below hY11 hct_38_2
                  replace hct_38_3 := cell_below hY11 hct_38_3
                  replace hct_42_0 := cell_below hY11 hct_42_0
                  replace hct_42_1 := cell_below hY11 hct_42_1
                  replace hct_42_2 := cell_below hY11 hct_42_2
                  replace hct_42_3 := cell_below hY11 hct_42_3
                  replace Ot_23 := Lib.hid (own_below Ot_23.out hY11)
                  replace Oout_6l1 := Lib.hid (Go.Proofs.Ytpaakpbbahbhcaa.GoN.nest_below Oout_6l1.out hY11)
                  clear hY11
                  cases t_46 with
                  | false =>
                    replace H := ite_f H
                    replace H := let_hid H
                    obtain ⟨t_64, ht_64, H⟩ := H
                    replace H := app_hid H
                    go_wp2_with fail
                    go_roundg m1
                    case measure => omega
                    case rel => exact ⟨_, _, _, _, _, rfl, rfl, H, HBY11, Oout_6l1, Ot_23, Lib.hid Dt_23_out_6l1.out⟩
                  | true =>
                    replace H := ite_t H
                    go_wp2_with fail
                    have bd12 : Below Y11.heap.size Y11 Y11.drew := (Below.refl _ _).drew
                    have HBY11.drew := Lib.hid (Below.step HBY11.out bd12)
                    replace hct_38_0 := cell_below bd12 hct_38_0
                    replace hct_38_1 := cell_below bd12 hct_38_1
                    replace hct_38_2 := cell_below bd12 hct_38_2
                    replace hct_38_3 := cell_below bd12 hct_38_3
                    replace hct_42_0 := cell_below bd12 hct_42_0
                    replace hct_42_1 := cell_below bd12 hct_42_1
                    replace hct_42_2 := cell_below bd12 hct_42_2
                    replace hct_42_3 := cell_below bd12 hct_42_3
                    replace Ot_23 := Lib.hid (own_below Ot_23.out bd12)
                    replace Oout_6l1 := Lib.hid (Go.Proofs.Ytpaakpbbahbhcaa.GoN.nest_below Oout_6l1.out bd12)
                    clear bd12
                    replace H := idx_hid H
                    obtain ⟨nt_51, yt_51, et_51, lt_51, gt_51, H⟩ := H
                    obtain rfl : k0 = nt_51 := by omega
                    clear et_51
                    obtain rfl := Option.some.inj (gt_38.out.symm.trans gt_51.out)
                    clear gt_51 lt_51
                    replace H := unSighting_hid H
                    replace H := idx_hid H
                    obtain ⟨nt_56, yt_56, et_56, lt_56, gt_56, H⟩ := H
                    obtain rfl : nt_42 = nt_56 := by omega
                    clear et_56
                    obtain rfl := Option.some.inj (gt_42.out.symm.trans gt_56.out)
                    clear gt_56 lt_56
                    replace H := unSighting_hid H
                    replace H := let_hid H
                    obtain ⟨t_59, ht_59, H⟩ := H
                    obtain ⟨w_t_59, hw_t_59⟩ : ∃ x, Y11.drew.alloc (.cells #[.int .i64 t_38_id, .int .i64 t_42_id] 3) = x := ⟨_, rfl⟩
                    have bw_t_59 : Below Y11.drew.heap.size Y11.drew w_t_59 := by rw [← hw_t_59]; exact (Below.refl _ _).alloc (Nat.le_refl _) _
                    have hs_t_59 := HBY11.drew.out.size
                    have nt_59 : t_59.length = 2 := by rw [← ht_59]; rfl
                    have Ot_59 : Hid (w_t_59.ownsRow w.heap.size 3 1 (.slice (some ⟨Y11.heap.size, 0, none⟩) 2 2) 2 (Go.Proofs.Ytpaakpbbahbhcaa.HelpInt.iv t_59)) := by
                      rw [← hw_t_59, ← ht_59]
                      have e_ : ([.int .i64 t_38_id, .int .i64 t_42_id] : List Value) = (Go.Proofs.Ytpaakpbbahbhcaa.HelpInt.iv ([t_38_id, t_42_id] : List Int)) := rfl
                      exact Lib.hid (own_laid (n := 2) hs_t_59 e_ rfl (by unfold maxLen; omega))
                    clear hs_t_59
                    have hht_59 := Lib.hid ht_59
                    clear ht_59
                    replace nt_59 := Lib.hid nt_59
                    have Dt_59_t_23 := Lib.hid (apart_fresh Ot_23.out)
                    have Dt_59_out_6l1 := Lib.hid (Go.Proofs.Ytpaakpbbahbhcaa.GoN.nest_fresh Oout_6l1.out)
                    have HBw_t_59 := Lib.hid (Below.step HBY11.drew.out bw_t_59)
                    have hct_38_0__163 := cell_below bw_t_59 hct_38_0
                    have hct_38_1__164 := cell_below bw_t_59 hct_38_1
                    have hct_38_2__165 := cell_below bw_t_59 hct_38_2
                    have hct_38_3__166 := cell_below bw_t_59 hct_38_3
                    have hct_42_0__167 := cell_below bw_t_59 hct_42_0
                    have hct_42_1__168 := cell_below bw_t_59 hct_42_1
                    have hct_42_2__169 := cell_below bw_t_59 hct_42_2
                    have hct_42_3__170 := cell_below bw_t_59 hct_42_3
                    replace Ot_23 := Lib.hid (own_below Ot_23.out bw_t_59)
                    replace Oout_6l1 := Lib.hid (Go.Proofs.Ytpaakpbbahbhcaa.GoN.nest_below Oout_6l1.out bw_t_59)
                    clear bw_t_59
                    obtain ⟨w_t_60, hw_t_60⟩ : ∃ x, w_t_59.alloc (.cells #[.slice (some ⟨Y11.heap.size, 0, none⟩) 2 2] 32) = x := ⟨_, rfl⟩
                    have bw_t_60 : Below w_t_59.heap.size w_t_59 w_t_60 := by rw [← hw_t_60]; exact (Below.refl _ _).alloc (Nat.le_refl _) _
                    have HBw_t_60 := Lib.hid (Below.step HBw_t_59.out bw_t_60)
                    have hct_38_0__171 := cell_below bw_t_60 hct_38_0__163
                    have hct_38_1__172 := cell_below bw_t_60 hct_38_1__164
                    have hct_38_2__173 := cell_below bw_t_60 hct_38_2__165
                    have hct_38_3__174 := cell_below bw_t_60 hct_38_3__166
                    have hct_42_0__175 := cell_below bw_t_60 hct_42_0__167
                    have hct_42_1__176 := cell_below bw_t_60 hct_42_1__168
                    have hct_42_2__177 := cell_below bw_t_60 hct_42_2__169
                    have hct_42_3__178 := cell_below bw_t_60 hct_42_3__170
                    replace Ot_23 := Lib.hid (own_below Ot_23.out bw_t_60)
                    replace Oout_6l1 := Lib.hid (Go.Proofs.Ytpaakpbbahbhcaa.GoN.nest_below Oout_6l1.out bw_t_60)
                    replace Ot_59 := Lib.hid (own_below Ot_59.out bw_t_60)
                    clear bw_t_60
                    replace H := guard_hid H
                    obtain ⟨hlt_61, H⟩ := H
                    replace H := let_hid H
                    obtain ⟨t_61, ht_61, H⟩ := H
                    have hht_61 := Lib.hid ht_61
                    clear ht_61
                    go_region_held3 (fun w' => w'.cell? ⟨bbt_38, oot_38 + k0 * 4, none⟩ = some (.int .i64 t_38_id) ∧ w'.cell? ⟨bbt_38, oot_38 + k0 * 4 + 1, none⟩ = some (.int .i64 t_38_year) ∧ w'.cell? ⟨bbt_38, oot_38 + k0 * 4 + 2, none⟩ = some (.string t_38_town) ∧ w'.cell? ⟨bbt_38, oot_38 + k0 * 4 + 3, none⟩ = some (.slice Art_38 t_38_traits.length crt_38) ∧ w'.cell? ⟨bbt_38, oot_38 + nt_42 * 4, none⟩ = some (.int .i64 t_42_id) ∧ w'.cell? ⟨bbt_38, oot_38 + nt_42 * 4 + 1, none⟩ = some (.int .i64 t_42_year) ∧ w'.cell? ⟨bbt_38, oot_38 + nt_42 * 4 + 2, none⟩ = some (.string t_42_town) ∧ w'.cell? ⟨bbt_38, oot_38 + nt_42 * 4 + 3, none⟩ = some (.slice Art_42 t_42_traits.length crt_42)) (first | exact ⟨hct_38_0, hct_38_1, hct_38_2, hct_38_3, hct_42_0, hct_42_1, hct_42_2, hct_42_3⟩ | exact ⟨hct_38_0__163, hct_38_1__164, hct_38_2__165, hct_38_3__166, hct_42_0__167, hct_42_1__168, hct_42_2__169, hct_42_3__170⟩ | exact ⟨hct_38_0__171, hct_38_1__172, hct_38_2__173, hct_38_3__174, hct_42_0__175, hct_42_1__176, hct_42_2__177, hct_42_3__178⟩)
                        (first
                          | (have hst_61 := HBw_t_60.out.size
                             obtain ⟨zt_61, h1t_61, h2t_61, h3t_61, h4t_61, h5t_61⟩ := Oout_6l1.out
                             have h1t_61i := Lib.hid h1t_61
                             have h3t_61i := Lib.hid h3t_61
                             have h4t_61i := Lib.hid h4t_61
                             have h5t_61i := Lib.hid h5t_61
                             clear h1t_61 h3t_61 h4t_61 h5t_61
                             have h2t_61i := Lib.hid h2t_61
                             clear h2t_61
                             have hq_t_61 : Hid ((Value.slice (some ⟨Y11.heap.size, 0, none⟩) 2 2 : Value) = Value.slice (some ⟨Y11.heap.size, 0, none⟩) t_59.length 2) := Lib.hid (by rw [show t_59.length = 2 from nt_59.out])
                             have e1t_61 : out_6l1.length + 1 ≤ maxLen := by unfold maxLen; have h_ := hlt_61; (try simp only [List.length_nil, List.length_cons] at h_); omega
                             have e2t_61 : (out_6l1.length + 1) * 24 ≤ 140737488355328 := by have h_ := hlt_61; (try simp only [List.length_nil, List.length_cons] at h_); omega
                             have e3t_61 := news_new hw_t_60
                             refine Go.Proofs.Ytpaakpbbahbhcaa.GoH.step_append_own (w := w_t_60) rfl (.tmp 54) (.tmp 66) 29 rfl w.heap.size 32 i0_32 (.slice none 0 0) 1 24 Try.underlying29 hi_32 hz0_32 hz1_32 hz2_32 rfl (by decide) Aout_6l1 cout_6l1 out_6l1.length _ rfl h2t_61i.out ⟨w_t_59.heap.size, 0, none⟩ 1 [.slice (some ⟨Y11.heap.size, 0, none⟩) 2 2] rfl rfl e3t_61 (one_cells rfl) e1t_61 e2t_61 hst_61 ?_
                             intro vt_61 wt_61 ot_61 gt_61 yt_61
                             rw [hq_t_61.out] at ot_61
                             obtain ⟨qt_61, ct_61, Bt_61, rfl, pt_61, dt_61, rt_61⟩ := Go.Proofs.Ytpaakpbbahbhcaa.GoN.nest_app hht_61.out h1t_61i.out h4t_61i.out h3t_61i.out h5t_61i.out (own_len nt_59.out Ot_59.out) Dt_59_out_6l1.out gt_61 ot_61 yt_61
                             have Pt_61 := Lib.hid pt_61
                             have Ut_61 := Lib.hid dt_61
                             have Rt_61 := Lib.hid rt_61
                             have Gt_61 := Lib.hid gt_61
                             clear ot_61 gt_61 pt_61 yt_61 dt_61 rt_61
                             have HBwt_61 := Lib.hid (HBw_t_60.out.grown Gt_61.out hst_61 (fun q hq => (h2t_61i.out.lt q hq).1))
                             clear hst_61
                             have Dt_61_t_23 : Hid (∀ y_ ∈ Bt_61, Apart At_23 y_) := Lib.hid (Go.Proofs.Ytpaakpbbahbhcaa.GoN.apart_push Dt_23_out_6l1.out (Apart.symm Dt_59_t_23.out) (fun a_ ha_ => (own_lt Ot_23.out a_ ha_).2) Ut_61.out)
                             replace hct_38_0__171 := cell_other hct_38_0__171 Gt_61.out (apart_old h2t_61i.out ltt_38)
                             replace hct_38_1__172 := cell_other hct_38_1__172 Gt_61.out (apart_old h2t_61i.out ltt_38)
                             replace hct_38_2__173 := cell_other hct_38_2__173 Gt_61.out (apart_old h2t_61i.out ltt_38)
                             replace hct_38_3__174 := cell_other hct_38_3__174 Gt_61.out (apart_old h2t_61i.out ltt_38)
                             replace hct_42_0__175 := cell_other hct_42_0__175 Gt_61.out (apart_old h2t_61i.out ltt_42)
                             replace hct_42_1__176 := cell_other hct_42_1__176 Gt_61.out (apart_old h2t_61i.out ltt_42)
                             replace hct_42_2__177 := cell_other hct_42_2__177 Gt_61.out (apart_old h2t_61i.out ltt_42)
                             replace hct_42_3__178 := cell_other hct_42_3__178 Gt_61.out (apart_old h2t_61i.out ltt_42)
                             replace Ot_23 := Lib.hid (own_other Ot_23.out Gt_61.out (Apart.symm (Dt_23_out_6l1.out _ (Go.Proofs.Ytpaakpbbahbhcaa.GoN.nest_head Oout_6l1.out))))
                             replace Ot_59 := Lib.hid (own_other Ot_59.out Gt_61.out (Apart.symm (Dt_59_out_6l1.out _ (Go.Proofs.Ytpaakpbbahbhcaa.GoN.nest_head Oout_6l1.out))))
                             clear hct_38_0 hct_38_1 hct_38_2 hct_38_3 hct_42_0 hct_42_1 hct_42_2 hct_42_3 hct_38_0__163 hct_38_1__164 hct_38_2__165 hct_38_3__166 hct_42_0__167 hct_42_1__168 hct_42_2__169 hct_42_3__170
                             clear Oout_6l1 Gt_61 h1t_61i h2t_61i h3t_61i h4t_61i h5t_61i
                             clear Ot_59
                             have mmt_61 := Lib.hid Ut_61.out.2.1
                             clear Ut_61
                             clear Rt_61 mmt_61))
                    replace H := let_hid H
                    obtain ⟨t_64, ht_64, H⟩ := H
                    replace H := app_hid H
                    go_wp2_with fail
                    go_roundg m1
                    case measure => omega
                    case rel => exact ⟨_, _, _, _, _, rfl, rfl, H, HBwt_61, Pt_61, Ot_23, Lib.hid Dt_61_t_23.out⟩
end Go.Proofs.Ytpaakpbbahbhcaa.GsDoubtfulPairs

/- loop.example/g01062/impl.DoubtfulPairs as a plain function, and the contract of the program's: where the plain one has an answer, the program has it. Conditions: slices read as lists. -/
namespace Go.Proofs.Ytpaakpbbahbhcaa.GiDoubtfulPairs
set_option linter.unusedVariables false
set_option linter.unusedSimpArgs false
open Go.RowKit
open Go.Proofs.Ytpaakpbbahbhcaa.Rowed Go.Proofs.Ytpaakpbbahbhcaa.Turn Go.Proofs.Ytpaakpbbahbhcaa.Aid Go.Proofs.Ytpaakpbbahbhcaa.GoP Go.Proofs.Ytpaakpbbahbhcaa.GoM

def l1 (list : (List Go.Proofs.Ytpaakpbbahbhcaa.PSighting.Sighting)) (limit : Int) (vheld_11 : (List Int)) (k0 : Nat) (t_20_id : Int) (t_20_year : Int) (t_20_town : ByteArray) (t_20_traits : (List Int)) (s : (List (List Int)) × Int) (nx1 bk1 : (List (List Int)) × Int → Option ((List (List Int)) × Bool)) : Option ((List (List Int)) × Bool) :=
  unp2 s fun pairs_7l1 j_10l1 =>
  letK (decide (j_10l1 < (list.length : Int))) fun (t_31 : Bool) =>
  iteK t_31
  (guardK ((0 : Int) ≤ (k0 : Int) ∧ ((k0 : Int) : Int) < 10) <|
  guardK ((0 : Int) ≤ j_10l1 ∧ (j_10l1 : Int) < 10) <|
  letK (Go.Proofs.Ytpaakpbbahbhcaa.GoA.nth vheld_11 (k0 * 10 + (Int.toNat j_10l1))) fun (t_36 : Int) =>
  letK (decide (limit ≤ t_36)) fun (t_38 : Bool) =>
  joinK (fun (t_48 : Bool) =>
  iteK t_48
  (Option.bind (idx list j_10l1) fun (yt_54 : Go.Proofs.Ytpaakpbbahbhcaa.PSighting.Sighting) =>
  unSighting yt_54 fun (t_54_id : Int) (t_54_year : Int) (t_54_town : ByteArray) (t_54_traits : (List Int)) =>
  letK ([t_20_id, t_54_id]) fun (t_57 : (List Int)) =>
  guardK (pairs_7l1.length ≤ 1099511627776) <|
  letK (pairs_7l1 ++ [t_57]) fun (t_59 : (List (List Int))) =>
  letK (IntKind.i64.wrap (j_10l1 + 1)) fun (t_62 : Int) =>
  appK nx1 (t_59, t_62))
  (letK (IntKind.i64.wrap (j_10l1 + 1)) fun (t_62 : Int) =>
  appK nx1 (pairs_7l1, t_62))) fun jt_48 => iteK t_38 (Option.bind (idx list j_10l1) fun (yt_43 : Go.Proofs.Ytpaakpbbahbhcaa.PSighting.Sighting) =>
  unSighting yt_43 fun (t_43_id : Int) (t_43_year : Int) (t_43_town : ByteArray) (t_43_traits : (List Int)) =>
  Option.bind (Go.Proofs.Ytpaakpbbahbhcaa.GiEvidence.P t_20_id t_20_year t_20_town t_20_traits t_43_id t_43_year t_43_town t_43_traits) fun (t_45 : Int) =>
  letK (decide (t_45 < limit)) fun (t_47 : Bool) =>
  appK jt_48 t_47) (appK jt_48 false))
  (appK bk1 (pairs_7l1, j_10l1))

def e1 (nx0 : ((List (List Int))) → Option ((List (List Int)) × Bool)) (s : (List (List Int)) × Int) : Option ((List (List Int)) × Bool) :=
  unp2 s fun pairs_7l1 j_10l1 =>
  appK nx0 (pairs_7l1)

def l0 (list : (List Go.Proofs.Ytpaakpbbahbhcaa.PSighting.Sighting)) (limit : Int) (fuel : Nat) (vheld_11 : (List Int)) (k0 : Nat) (s : (List (List Int))) (nx0 bk0 : (List (List Int)) → Option ((List (List Int)) × Bool)) : Option ((List (List Int)) × Bool) :=
  letK s fun pairs_7l0 =>
  Option.bind (idx list (k0 : Int)) fun (yt_20 : Go.Proofs.Ytpaakpbbahbhcaa.PSighting.Sighting) =>
  unSighting yt_20 fun (t_20_id : Int) (t_20_year : Int) (t_20_town : ByteArray) (t_20_traits : (List Int)) =>
  letK (IntKind.i64.wrap ((k0 : Int) + 1)) fun (t_26 : Int) =>
  loopK (l1 list limit vheld_11 k0 t_20_id t_20_year t_20_town t_20_traits) fuel (pairs_7l0, t_26) (e1 nx0)

def e0  (s : (List (List Int))) : Option ((List (List Int)) × Bool) :=
  letK s fun pairs_7l0 =>
  some (pairs_7l0, true)

def P (fuel : Nat) (list : (List Go.Proofs.Ytpaakpbbahbhcaa.PSighting.Sighting)) (limit : Int) : Option ((List (List Int)) × Bool) :=
  Option.bind (Go.Proofs.Ytpaakpbbahbhcaa.GiCanJoin.P list limit) fun (t_4 : Bool) =>
  letK (!t_4) fun (t_5 : Bool) =>
  iteK t_5
  (some (([] : List (List Int)), false))
  (Option.bind (Go.Proofs.Ytpaakpbbahbhcaa.GiBondsOf.P list) fun (t_10 : (List Int)) =>
  guardK (t_10.length = 100) <|
  letK (t_10) fun (vheld_11 : (List Int)) =>
  cntK (l0 list limit fuel vheld_11) (list.length) 0 (([] : List (List Int))) (e0 ))

set_option maxRecDepth 100000 in
set_option maxHeartbeats 2000000 in
theorem C (fuel : Nat) (list : (List Go.Proofs.Ytpaakpbbahbhcaa.PSighting.Sighting)) (limit : Int) (A0 : Option Addr) (c0 : Nat)  (w : World) (M0 : Hid (Go.Proofs.Ytpaakpbbahbhcaa.GoV.ReadNest w Go.Proofs.Ytpaakpbbahbhcaa.GoVSighting.lay A0 list)) (N0 : Hid (list.length ≤ 9223372036854775807))  {r0 : (List (List Int))} {r1 : Bool} (H : Hid (P fuel list limit = some (r0, r1))) :
    Calls Try.prog 43 #[.slice A0 list.length c0, .int .i64 limit] w (fun e w' => ∃ A_r0 c_r0, e = .returned (.tuple #[.slice A_r0 r0.length c_r0, .bool r1]) ∧ (∃ B_, Go.Proofs.Ytpaakpbbahbhcaa.GoN.OwnNest w' (w.heap.size) 32 3 1 Go.Proofs.Ytpaakpbbahbhcaa.HelpInt.iv A_r0 c_r0 r0 B_) ∧ Below w.heap.size w w') := by
  have HB := Lib.hid (Below.refl w.heap.size w)
  unfold P at H
  have N0o := N0.out
  obtain ⟨i0_32, hi_32, hz0_32, hz1_32, hz2_32⟩ := Aid.info_parts (P := Try.prog) (T := 32) (z := .slice none 0 0) (s := 1) (b := 24) (by kernel_rfl)
  go_enter Try.func43, Try.ntmps43
  replace H := bind_hid H
  obtain ⟨t_4, qt_4, H⟩ := H
  go_wp2_with fail
  go_at_call 61
  refine (Go.Proofs.Ytpaakpbbahbhcaa.GiCanJoin.C (list) (limit) A0 c0 _   (Lib.hid (Go.Proofs.Ytpaakpbbahbhcaa.GoV.read_below M0.out HB.out)) N0 qt_4).mono ?_
  rintro e_t_4 wt_4 ⟨rfl, bt_4⟩
  have HBwt_4 := Lib.hid (Below.step HB.out bt_4)
  clear bt_4
  cases t_4 with
  | false =>
    replace H := let_hid H
    obtain ⟨t_5, ht_5, H⟩ := H
    obtain rfl : t_5 = true := ht_5.symm
    replace H := ite_t H
    obtain ⟨w_t_6, hw_t_6⟩ : ∃ x, wt_4.alloc (.cells #[] 32) = x := ⟨_, rfl⟩
    have bw_t_6 : Below wt_4.heap.size wt_4 w_t_6 := by rw [← hw_t_6]; exact (Below.refl _ _).alloc (Nat.le_refl _) _
    have Ot_6 : Hid (Go.Proofs.Ytpaakpbbahbhcaa.GoN.OwnNest w_t_6 (w.heap.size) 32 3 1 Go.Proofs.Ytpaakpbbahbhcaa.HelpInt.iv (some ⟨wt_4.heap.size, 0, none⟩) 0 ([] : List (List Int)) [some ⟨wt_4.heap.size, 0, none⟩]) := Lib.hid (by rw [← hw_t_6]; exact Go.Proofs.Ytpaakpbbahbhcaa.GoN.nest_empty HBwt_4.out.size)
    have HBw_t_6 := Lib.hid (Below.step HBwt_4.out bw_t_6)
    clear bw_t_6
    cases ret_hid H
    go_wp2_with fail
    go_ret2
    exact ⟨(some ⟨wt_4.heap.size, 0, none⟩), 0, rfl, ⟨_, Ot_6.out⟩, HBw_t_6.out⟩
  | true =>
    replace H := let_hid H
    obtain ⟨t_5, ht_5, H⟩ := H
    obtain rfl : t_5 = false := ht_5.symm
    replace H := ite_f H
    replace H := bind_hid H
    obtain ⟨t_10, qt_10, H⟩ := H
    go_wp2_with fail
    go_at_call 54
    refine (Go.Proofs.Ytpaakpbbahbhcaa.GiBondsOf.C (list) A0 c0 _   (Lib.hid (Go.Proofs.Ytpaakpbbahbhcaa.GoV.read_below M0.out HBwt_4.out)) N0 qt_10).mono ?_
    rintro e_t_10 wt_10 ⟨rfl, bt_10⟩
    have HBwt_10 := Lib.hid (Below.step HBwt_4.out bt_10)
    clear bt_10
    replace H := guard_hid H
    obtain ⟨hzheld_11, H⟩ := H
    replace H := let_hid H
    obtain ⟨vheld_11, hvheld_11, H⟩ := H
    have nheld_11 : vheld_11.length = 100 := by rw [← hvheld_11]; exact hzheld_11
    clear hzheld_11
    subst hvheld_11
    have hs_held_11 := HBwt_10.out.size
    have nheld_11h := Lib.hid nheld_11
    clear nheld_11
    go_wp2_with (refine Go.Proofs.Ytpaakpbbahbhcaa.GoX.wpList_store_new rfl 62 (.tmp 6) (.tmp 17) rfl 62 _ (Go.Proofs.Ytpaakpbbahbhcaa.HelpInt.iv t_10).toArray rfl rfl (by rw [Go.Proofs.Ytpaakpbbahbhcaa.GoX.iv_size, nheld_11h.out]; kernel_rfl) (by rw [Go.Proofs.Ytpaakpbbahbhcaa.GoX.iv_size, nheld_11h.out]; kernel_rfl) (Go.Proofs.Ytpaakpbbahbhcaa.GoX.iv_one _) ?_; refine stop_in ?_)
    refine stop_out ?_
    obtain ⟨w_held_11, hw_held_11⟩ : ∃ x, wt_10.alloc (.cells (Go.Proofs.Ytpaakpbbahbhcaa.HelpInt.iv t_10).toArray 62) = x := ⟨_, rfl⟩
    have bw_held_11 : Below wt_10.heap.size wt_10 w_held_11 := by rw [← hw_held_11]; exact (Below.refl _ _).alloc (Nat.le_refl _) _
    try simp only [hw_held_11]
    have Oheld_11 : Hid (w_held_11.ownsRow w.heap.size 62 1 (.slice (some ⟨wt_10.heap.size, 0, none⟩) 100 100) 100 (Go.Proofs.Ytpaakpbbahbhcaa.HelpInt.iv t_10)) := Lib.hid (by rw [← hw_held_11]; exact own_laid (n := 100) hs_held_11 rfl (by unfold Go.Proofs.Ytpaakpbbahbhcaa.HelpInt.iv; rw [List.length_map, nheld_11h.out]) (by unfold maxLen; omega))
    clear hs_held_11
    have HBw_held_11 := Lib.hid (Below.step HBwt_10.out bw_held_11)
    clear bw_held_11
    obtain ⟨w_t_13, hw_t_13⟩ : ∃ x, w_held_11.alloc (.cells #[] 32) = x := ⟨_, rfl⟩
    have bw_t_13 : Below w_held_11.heap.size w_held_11 w_t_13 := by rw [← hw_t_13]; exact (Below.refl _ _).alloc (Nat.le_refl _) _
    have Ot_13 : Hid (Go.Proofs.Ytpaakpbbahbhcaa.GoN.OwnNest w_t_13 (w.heap.size) 32 3 1 Go.Proofs.Ytpaakpbbahbhcaa.HelpInt.iv (some ⟨w_held_11.heap.size, 0, none⟩) 0 ([] : List (List Int)) [some ⟨w_held_11.heap.size, 0, none⟩]) := Lib.hid (by rw [← hw_t_13]; exact Go.Proofs.Ytpaakpbbahbhcaa.GoN.nest_empty HBw_held_11.out.size)
    have Dt_13_held_11 := Lib.hid (Go.Proofs.Ytpaakpbbahbhcaa.GoN.nest_one (apart_fresh Oheld_11.out))
    have HBw_t_13 := Lib.hid (Below.step HBw_held_11.out bw_t_13)
    replace Oheld_11 := Lib.hid (own_below Oheld_11.out bw_t_13)
    clear bw_t_13
    go_wp2_with fail
    go_loopg [21, 7] (list.length) (fun m_ v21_ v7_ wr => ∃ (k0 : Nat) (pairs_7l0 : (List (List Int))) (Apairs_7l0 : Option Addr) (cpairs_7l0 : Nat) (Bpairs_7l0 : List (Option Addr)), k0 + m_ = list.length ∧ v21_ = .int .i64 (k0 : Int) ∧ v7_ = .slice Apairs_7l0 pairs_7l0.length cpairs_7l0 ∧ Hid (cntK (l0 list limit fuel t_10) m_ k0 (pairs_7l0) (e0 ) = some (r0, r1)) ∧ Hid (Below w.heap.size w wr) ∧ Hid (Go.Proofs.Ytpaakpbbahbhcaa.GoN.OwnNest wr (w.heap.size) 32 3 1 Go.Proofs.Ytpaakpbbahbhcaa.HelpInt.iv Apairs_7l0 cpairs_7l0 pairs_7l0 Bpairs_7l0) ∧ Hid (wr.ownsRow w.heap.size 62 1 (.slice (some ⟨wt_10.heap.size, 0, none⟩) 100 100) 100 (Go.Proofs.Ytpaakpbbahbhcaa.HelpInt.iv t_10)) ∧ Hid (∀ y_ ∈ Bpairs_7l0, Apart (some ⟨wt_10.heap.size, 0, none⟩) y_))
    case atStart => exact ⟨0, _, _, _, _, by omega, rfl, rfl, H, HBw_t_13, Ot_13, Oheld_11, Lib.hid Dt_13_held_11.out⟩
    case round =>
      obtain ⟨k0, pairs_7l0, Apairs_7l0, cpairs_7l0, Bpairs_7l0, hkm0, rfl, rfl, H, HBwr0, Opairs_7l0, Oheld_11, Dheld_11_pairs_7l0⟩ := hrel
      rename World => wr0
      cases gk with
      | zero =>
        obtain rfl : k0 = list.length := by omega
        have hc0 : decide (((list.length : Nat) : Int) < ((list.length : Nat) : Int)) = false := by simp
        replace H := cnt_zero H
        unfold e0 at H
        replace H := let_hid H
        obtain ⟨_, rfl, H⟩ := H
        cases ret_hid H
        go_wp2_with fail
        go_ret2
        exact ⟨Apairs_7l0, cpairs_7l0, rfl, ⟨_, Opairs_7l0.out⟩, HBwr0.out⟩
      | succ m0 =>
        have hlt0 : k0 < list.length := by omega
        have hc0 : decide ((k0 : Int) < ((list.length : Nat) : Int)) = true := by simp; omega
        replace H := cnt_succ H
        unfold l0 at H
        replace H := let_hid H
        obtain ⟨_, rfl, H⟩ := H
        replace H := idx_hid H
        obtain ⟨nt_20, yt_20, et_20, lt_20, gt_20, H⟩ := H
        obtain rfl : k0 = nt_20 := by omega
        clear et_20
        obtain ⟨t_20_id, t_20_year, t_20_town, t_20_traits⟩ := yt_20
        replace H := unSighting_hid H
        obtain ⟨bbt_20, oot_20, zt_20, Art_20, crt_20, eAt_20, zzt_20, hKt_20, hrt_20, hqt_20, hnt_20⟩ := Go.Proofs.Ytpaakpbbahbhcaa.GoV.nest_at M0.out (k := k0) lt_20
        obtain rfl := Option.some.inj (gt_20.out.symm.trans zzt_20)
        clear zzt_20
        subst eAt_20
        have hct_20_0 : w.cell? ⟨bbt_20, oot_20 + k0 * 4, none⟩ = some (.int .i64 t_20_id) := hKt_20 0 _ rfl
        have hct_20_1 : w.cell? ⟨bbt_20, oot_20 + k0 * 4 + 1, none⟩ = some (.int .i64 t_20_year) := hKt_20 1 _ rfl
        have hct_20_2 : w.cell? ⟨bbt_20, oot_20 + k0 * 4 + 2, none⟩ = some (.string t_20_town) := hKt_20 2 _ rfl
        have hct_20_3 : w.cell? ⟨bbt_20, oot_20 + k0 * 4 + 3, none⟩ = some (.slice Art_20 t_20_traits.length crt_20) := hKt_20 3 _ rfl
        clear hKt_20
        have ltt_20 := cell_lt hct_20_0
        replace hct_20_0 := cell_below HBwr0.out hct_20_0
        replace hct_20_1 := cell_below HBwr0.out hct_20_1
        replace hct_20_2 := cell_below HBwr0.out hct_20_2
        replace hct_20_3 := cell_below HBwr0.out hct_20_3
        have Mrt_20 := Lib.hid hrt_20
        have Qrt_20 := Lib.hid hqt_20
        have Nrt_20 := Lib.hid hnt_20
        clear hrt_20 hqt_20 hnt_20
        have b0t_20 : (0 : Int) ≤ (k0 : Int) := by omega
        have b1t_20 : (k0 : Int) < ((list.length : Nat) : Int) := by omega
        have b2t_20 : ((k0 : Int)).toNat = k0 := by omega
        obtain ⟨w_s_22, hw_s_22⟩ : ∃ x, wr0.alloc (.cells #[.int .i64 t_20_id, .int .i64 t_20_year, .string t_20_town, .slice Art_20 t_20_traits.length crt_20] 67) = x := ⟨_, rfl⟩
        have bw_s_22 : Below wr0.heap.size wr0 w_s_22 := by rw [← hw_s_22]; exact (Below.refl _ _).alloc (Nat.le_refl _) _
        have Ds_22_held_11 := Lib.hid (apart_fresh Oheld_11.out)
        have Ds_22_pairs_7l0 := Lib.hid (Go.Proofs.Ytpaakpbbahbhcaa.GoN.nest_fresh Opairs_7l0.out)
        have HBw_s_22 := Lib.hid (Below.step HBwr0.out bw_s_22)
        have hct_20_0__179 := cell_below bw_s_22 hct_20_0
        have hct_20_1__180 := cell_below bw_s_22 hct_20_1
        have hct_20_2__181 := cell_below bw_s_22 hct_20_2
        have hct_20_3__182 := cell_below bw_s_22 hct_20_3
        replace Oheld_11 := Lib.hid (own_below Oheld_11.out bw_s_22)
        replace Opairs_7l0 := Lib.hid (Go.Proofs.Ytpaakpbbahbhcaa.GoN.nest_below Opairs_7l0.out bw_s_22)
        clear bw_s_22
        have ks_22_0 : w_s_22.cell? ⟨wr0.heap.size, 0, none⟩ = some (.int .i64 t_20_id) := by rw [← hw_s_22]; exact box_new _ _ _ 0 _ rfl
        have ks_22_1 : w_s_22.cell? ⟨wr0.heap.size, 1, none⟩ = some (.int .i64 t_20_year) := by rw [← hw_s_22]; exact box_new _ _ _ 1 _ rfl
        have ks_22_2 : w_s_22.cell? ⟨wr0.heap.size, 2, none⟩ = some (.string t_20_town) := by rw [← hw_s_22]; exact box_new _ _ _ 2 _ rfl
        have ks_22_3 : w_s_22.cell? ⟨wr0.heap.size, 3, none⟩ = some (.slice Art_20 t_20_traits.length crt_20) := by rw [← hw_s_22]; exact box_new _ _ _ 3 _ rfl
        replace H := let_hid H
        obtain ⟨t_26, ht_26, H⟩ := H
        go_wp2_with fail
        clear hct_20_0 hct_20_1 hct_20_2 hct_20_3
        go_loopg [7, 10] (fuel) (fun m_ v7_ v10_ wr => ∃ (pairs_7l1 : (List (List Int))) (j_10l1 : Int) (Apairs_7l1 : Option Addr) (cpairs_7l1 : Nat) (Bpairs_7l1 : List (Option Addr)), v7_ = .slice Apairs_7l1 pairs_7l1.length cpairs_7l1 ∧ v10_ = .int .i64 j_10l1 ∧ Hid (loopK (l1 list limit t_10 k0 t_20_id t_20_year t_20_town t_20_traits) m_ (pairs_7l1, j_10l1) (e1 (fun s' => cntK (l0 list limit fuel t_10) m0 (k0 + 1) s' (e0 ))) = some (r0, r1)) ∧ Hid (Below w.heap.size w wr) ∧ wr.cell? ⟨wr0.heap.size, 0, none⟩ = some (.int .i64 t_20_id) ∧ wr.cell? ⟨wr0.heap.size, 1, none⟩ = some (.int .i64 t_20_year) ∧ wr.cell? ⟨wr0.heap.size, 2, none⟩ = some (.string t_20_town) ∧ wr.cell? ⟨wr0.heap.size, 3, none⟩ = some (.slice Art_20 t_20_traits.length crt_20) ∧ Hid (Go.Proofs.Ytpaakpbbahbhcaa.GoN.OwnNest wr (w.heap.size) 32 3 1 Go.Proofs.Ytpaakpbbahbhcaa.HelpInt.iv Apairs_7l1 cpairs_7l1 pairs_7l1 Bpairs_7l1) ∧ Hid (wr.ownsRow w.heap.size 62 1 (.slice (some ⟨wt_10.heap.size, 0, none⟩) 100 100) 100 (Go.Proofs.Ytpaakpbbahbhcaa.HelpInt.iv t_10)) ∧ Hid (∀ y_ ∈ Bpairs_7l1, Apart (some ⟨wt_10.heap.size, 0, none⟩) y_) ∧ Hid (∀ y_ ∈ Bpairs_7l1, Apart (some ⟨wr0.heap.size, 0, none⟩) y_))
        case atStart => exact ⟨_, _, _, _, _, rfl, rfl, H, HBw_s_22, ks_22_0, ks_22_1, ks_22_2, ks_22_3, Opairs_7l0, Oheld_11, Lib.hid Dheld_11_pairs_7l0.out, Lib.hid Ds_22_pairs_7l0.out⟩
        case round =>
          obtain ⟨pairs_7l1, j_10l1, Apairs_7l1, cpairs_7l1, Bpairs_7l1, rfl, rfl, H, HBwr1, ks_22_0, ks_22_1, ks_22_2, ks_22_3, Opairs_7l1, Oheld_11, Dheld_11_pairs_7l1, Ds_22_pairs_7l1⟩ := hrel
          rename World => wr1
          cases gk with
          | zero => exact (loop_zero H).elim
          | succ m1 =>
            replace H := loop_succ H
            unfold l1 at H
            replace H := unp2_hid H
            replace H := let_hid H
            obtain ⟨t_31, ht_31, H⟩ := H
            cases t_31 with
            | false =>
              replace H := ite_f H
              replace H := app_hid H
              unfold e1 at H
              replace H := unp2_hid H
              replace H := app_hid H
              go_wp2_with fail
              have hnx0_ : t_26 ≤ (k0 : Int) + 1 ∧ (k0 : Int) + 1 ≤ t_26 := by rw [← ht_26, IntWalk.i64_in _ (by omega)]; omega
              go_roundg m0
              case measure => omega
              case rel => exact ⟨k0 + 1, _, _, _, _, by omega, by go_num, rfl, H, HBwr1, Opairs_7l1, Oheld_11, Lib.hid Dheld_11_pairs_7l1.out⟩
            | true =>
              replace H := ite_t H
              go_wp2_with fail
              have Hks_22_0 := Lib.hid ks_22_0
              replace ks_22_0 := cell_regrown ks_22_0
              have Hks_22_1 := Lib.hid ks_22_1
              replace ks_22_1 := cell_regrown ks_22_1
              have Hks_22_2 := Lib.hid ks_22_2
              replace ks_22_2 := cell_regrown ks_22_2
              have Hks_22_3 := Lib.hid ks_22_3
              replace ks_22_3 := cell_regrown ks_22_3
              replace H := guard_hid H
              obtain ⟨hgt_34, H⟩ := H
              have b0t_34 : (0 : Int) ≤ (k0 : Int) := by omega
              have b1t_34 : (k0 : Int) < ((10 : Nat) : Int) := by omega
              have b4t_34 : (k0 : Int) < (10 : Int) := by omega
              have b2t_34 : ((k0 : Int)).toNat = k0 := by omega
              have b3t_34 : k0 < 10 := by omega
              replace H := guard_hid H
              obtain ⟨hgt_35, H⟩ := H
              obtain ⟨Nt_35, eNt_35⟩ : ∃ N : Nat, j_10l1 = (N : Int) := ⟨(j_10l1).toNat, by omega⟩
              subst eNt_35
              have b0t_35 : (0 : Int) ≤ (Nt_35 : Int) := by omega
              have b1t_35 : (Nt_35 : Int) < ((10 : Nat) : Int) := by omega
              have b4t_35 : (Nt_35 : Int) < (10 : Int) := by omega
              have b2t_35 : ((Nt_35 : Int)).toNat = Nt_35 := by omega
              have b3t_35 : Nt_35 < 10 := by omega
              replace H := let_hid H
              obtain ⟨t_36, ht_36, H⟩ := H
              try simp only [Int.toNat_natCast] at ht_36
              replace ht_36 := Lib.hid ht_36
              have kct_36 : wr1.cell? ⟨wt_10.heap.size, k0 * 10 + Nt_35, none⟩ = some (.int .i64 t_36) := by rw [← ht_36.out]; exact Go.Proofs.Ytpaakpbbahbhcaa.GoA.row_at Oheld_11.out nheld_11h.out (k0 * 10 + Nt_35) (by omega)
              have Hkct_36 := Lib.hid kct_36
              replace kct_36 := cell_regrown kct_36
              replace H := let_hid H
              obtain ⟨t_38, ht_38, H⟩ := H
              replace H := join_hid H
              cases t_38 with
              | false =>
                replace H := ite_f H
                replace H := app_hid H
                refine wp_region_quiet_below (by kernel_rfl) (by kernel_rfl) ?_
                repeat (go_big_quiet_step (fail))
                refine wpQuiet_nil ?_
                intro Y11 hY11
                replace hY11 := below_class hY11
                replace ks_22_0 := Hks_22_0.out
                clear Hks_22_0
                replace ks_22_1 := Hks_22_1.out
                clear Hks_22_1
                replace ks_22_2 := Hks_22_2.out
                clear Hks_22_2
                replace ks_22_3 := Hks_22_3.out
                clear Hks_22_3
                replace kct_36 := Hkct_36.out
                clear Hkct_36
                have HBY11 := Lib.hid (Below.step HBwr1.out hY11)
                replace ks_22_0 := cell_below hY11 ks_22_0
                replace ks_22_1 := cell_below hY11 ks_22_1
                replace ks_22_2 := cell_below hY11 ks_22_2
                replace ks_22_3 := cell_below hY11 ks_22_3
                replace kct_36 := cell_below hY11 kct_36
                replace Oheld_11 := Lib.hid (own_below Oheld_11.out hY11)
                replace Opairs_7l1 := Lib.hid (Go.Proofs.Ytpaakpbbahbhcaa.GoN.nest_below Opairs_7l1.out hY11)
                clear hY11
                replace H := ite_f H
                replace H := let_hid H
                obtain ⟨t_62, ht_62, H⟩ := H
                replace H := app_hid H
                go_wp2_with fail
                go_roundg m1
                case measure => omega
                case rel => exact ⟨_, _, _, _, _, rfl, rfl, H, HBY11, ks_22_0, ks_22_1, ks_22_2, ks_22_3, Opairs_7l1, Oheld_11, Lib.hid Dheld_11_pairs_7l1.out, Lib.hid Ds_22_pairs_7l1.out⟩
              | true =>
                replace H := ite_t H
                replace H := idx_hid H
                obtain ⟨nt_43, yt_43, et_43, lt_43, gt_43, H⟩ := H
                obtain rfl : Nt_35 = nt_43 := by omega
                clear et_43
                obtain ⟨t_43_id, t_43_year, t_43_town, t_43_traits⟩ := yt_43
                replace H := unSighting_hid H
                obtain ⟨bbt_43, oot_43, zt_43, Art_43, crt_43, eAt_43, zzt_43, hKt_43, hrt_43, hqt_43, hnt_43⟩ := Go.Proofs.Ytpaakpbbahbhcaa.GoV.nest_at M0.out (k := Nt_35) lt_43
                obtain rfl := Option.some.inj (gt_43.out.symm.trans zzt_43)
                clear zzt_43
                simp only [Option.some.injEq, Addr.mk.injEq] at eAt_43
                obtain ⟨rfl, rfl, _⟩ := eAt_43
                have hct_43_0 : w.cell? ⟨bbt_20, oot_20 + Nt_35 * 4, none⟩ = some (.int .i64 t_43_id) := hKt_43 0 _ rfl
                have hct_43_1 : w.cell? ⟨bbt_20, oot_20 + Nt_35 * 4 + 1, none⟩ = some (.int .i64 t_43_year) := hKt_43 1 _ rfl
                have hct_43_2 : w.cell? ⟨bbt_20, oot_20 + Nt_35 * 4 + 2, none⟩ = some (.string t_43_town) := hKt_43 2 _ rfl
                have hct_43_3 : w.cell? ⟨bbt_20, oot_20 + Nt_35 * 4 + 3, none⟩ = some (.slice Art_43 t_43_traits.length crt_43) := hKt_43 3 _ rfl
                clear hKt_43
                have ltt_43 := cell_lt hct_43_0
                replace hct_43_0 := cell_below HBwr1.out hct_43_0
                replace hct_43_1 := cell_below HBwr1.out hct_43_1
                replace hct_43_2 := cell_below HBwr1.out hct_43_2
                replace hct_43_3 := cell_below HBwr1.out hct_43_3
                have Mrt_43 := Lib.hid hrt_43
                have Qrt_43 := Lib.hid hqt_43
                have Nrt_43 := Lib.hid hnt_43
                clear hrt_43 hqt_43 hnt_43
                have b0t_43 : (0 : Int) ≤ (Nt_35 : Int) := by omega
                have b1t_43 : (Nt_35 : Int) < ((list.length : Nat) : Int) := by omega
                have b2t_43 : ((Nt_35 : Int)).toNat = Nt_35 := by omega
                have Hhct_43_0 := Lib.hid hct_43_0
                replace hct_43_0 := cell_regrown hct_43_0
                have Hhct_43_1 := Lib.hid hct_43_1
                replace hct_43_1 := cell_regrown hct_43_1
                have Hhct_43_2 := Lib.hid hct_43_2
                replace hct_43_2 := cell_regrown hct_43_2
                have Hhct_43_3 := Lib.hid hct_43_3
                replace hct_43_3 := cell_regrown hct_43_3
                replace H := bind_hid H
                obtain ⟨t_45, qt_45, H⟩ := H
                have nt_45 : ∀ d os, Calls Try.prog 59 #[.agg #[.int .i64 t_20_id, .int .i64 t_20_year, .string t_20_town, .slice Art_20 t_20_traits.length crt_20], .agg #[.int .i64 t_43_id, .int .i64 t_43_year, .string t_43_town, .slice Art_43 t_43_traits.length crt_43]] (Go.Sort.grow (redrawn wr1 d) os) fun e w'' => e = .returned (.int .i64 t_45) ∧ ∃ p : Regrown, w'' = Go.Sort.grow (redrawn wr1 p.d) p.os := fun d os => Calls.regrown_of (Go.Proofs.Ytpaakpbbahbhcaa.GiEvidence.C (t_20_id) (t_20_year) (t_20_town) (t_20_traits) (t_43_id) (t_43_year) (t_43_town) (t_43_traits) Art_20 crt_20 Art_43 crt_43 _   (Lib.hid (Cells.below (Cells.below Mrt_20.out HBwr1.out) (below_regrown _ _ _))) Nrt_20 (Lib.hid (Cells.below (Cells.below Mrt_43.out HBwr1.out) (below_regrown _ _ _))) Nrt_43 qt_45)
                replace H := let_hid H
                obtain ⟨t_47, ht_47, H⟩ := H
                replace H := app_hid H
                refine wp_region_quiet_below (by kernel_rfl) (by kernel_rfl) ?_
                repeat (go_big_quiet_step (first | (go_at_call 59; exact nt_45 _ _)))
                refine wpQuiet_nil ?_
                intro Y11 hY11
                replace hY11 := below_class hY11
                clear nt_45
                replace ks_22_0 := Hks_22_0.out
                clear Hks_22_0
                replace ks_22_1 := Hks_22_1.out
                clear Hks_22_1
                replace ks_22_2 := Hks_22_2.out
                clear Hks_22_2
                replace ks_22_3 := Hks_22_3.out
                clear Hks_22_3
                replace kct_36 := Hkct_36.out
                clear Hkct_36
                replace hct_43_0 := Hhct_43_0.out
                clear Hhct_43_0
                replace hct_43_1 := Hhct_43_1.out
                clear Hhct_43_1
                replace hct_43_2 := Hhct_43_2.out
                clear Hhct_43_2
                replace hct_43_3 := Hhct_43_3.out
                clear Hhct_43_3
                have HBY11 := Lib.hid (Below.step HBwr1.out hY11)
                replace ks_22_0 := cell_below hY11 ks_22_0
                replace ks_22_1 := cell_below hY11 ks_22_1
                replace ks_22_2 := cell_below hY11 ks_22_2
                replace ks_22_3 := cell_below hY11 ks_22_3
                replace kct_36 := cell_below hY11 kct_36
                replace hct_43_0 := cell_below hY11 hct_43_0
                replace hct_43_1 := cell_below hY11 hct_43_1
                replace hct_43_2 := cell_below hY11 hct_43_2
                replace hct_43_3 := cell_below hY11 hct_43_3
                replace Oheld_11 := Lib.hid (own_below Oheld_11.out hY11)
                replace Opairs_7l1 := Lib.hid (Go.Proofs.Ytpaakpbbahbhcaa.GoN.nest_below Opairs_7l1.out hY11)
                clear hY11
                cases t_47 with
                | false =>
                  replace H := ite_f H
                  replace H := let_hid H
                  obtain ⟨t_62, ht_62, H⟩ := H
                  replace H := app_hid H
                  go_wp2_with fail
                  go_roundg m1
                  case measure => omega
                  case rel => exact ⟨_, _, _, _, _, rfl, rfl, H, HBY11, ks_22_0, ks_22_1, ks_22_2, ks_22_3, Opairs_7l1, Oheld_11, Lib.hid Dheld_11_pairs_7l1.out, Lib.hid Ds_22_pairs_7l1.out⟩
                | true =>
                  replace H := ite_t H
                  go_wp2_with fail
                  have bd12 : Below Y11.heap.size Y11 Y11.drew := (Below.refl _ _).drew
                  have HBY11.drew := Lib.hid (Below.step HBY11.out bd12)
                  replace ks_22_0 := cell_below bd12 ks_22_0
                  replace ks_22_1 := cell_below bd12 ks_22_1
                  replace ks_22_2 := cell_below bd12 ks_22_2
                  replace ks_22_3 := cell_below bd12 ks_22_3
                  replace kct_36 := cell_below bd12 kct_36
                  replace hct_43_0 := cell_below bd12 hct_43_0
                  replace hct_43_1 := cell_below bd12 hct_43_1
                  replace hct_43_2 := cell_below bd12 hct_43_2
                  replace hct_43_3 := cell_below bd12 hct_43_3
                  replace Oheld_11 := Lib.hid (own_below Oheld_11.out bd12)
                  replace Opairs_7l1 := Lib.hid (Go.Proofs.Ytpaakpbbahbhcaa.GoN.nest_below Opairs_7l1.out bd12)
                  clear bd12
                  replace H := idx_hid H
                  obtain ⟨nt_54, yt_54, et_54, lt_54, gt_54, H⟩ := H
                  obtain rfl : Nt_35 = nt_54 := by omega
                  clear et_54
                  obtain rfl := Option.some.inj (gt_43.out.symm.trans gt_54.out)
                  clear gt_54 lt_54
                  replace H := unSighting_hid H
                  replace H := let_hid H
                  obtain ⟨t_57, ht_57, H⟩ := H
                  obtain ⟨w_t_57, hw_t_57⟩ : ∃ x, Y11.drew.alloc (.cells #[.int .i64 t_20_id, .int .i64 t_43_id] 3) = x := ⟨_, rfl⟩
                  have bw_t_57 : Below Y11.drew.heap.size Y11.drew w_t_57 := by rw [← hw_t_57]; exact (Below.refl _ _).alloc (Nat.le_refl _) _
                  have hs_t_57 := HBY11.drew.out.size
                  have nt_57 : t_57.length = 2 := by rw [← ht_57]; rfl
                  have Ot_57 : Hid (w_t_57.ownsRow w.heap.size 3 1 (.slice (some ⟨Y11.heap.size, 0, none⟩) 2 2) 2 (Go.Proofs.Ytpaakpbbahbhcaa.HelpInt.iv t_57)) := by
                    rw [← hw_t_57, ← ht_57]
                    have e_ : ([.int .i64 t_20_id, .int .i64 t_43_id] : List Value) = (Go.Proofs.Ytpaakpbbahbhcaa.HelpInt.iv ([t_20_id, t_43_id] : List Int)) := rfl
                    exact Lib.hid (own_laid (n := 2) hs_t_57 e_ rfl (by unfold maxLen; omega))
                  clear hs_t_57
                  have hht_57 := Lib.hid ht_57
                  clear ht_57
                  replace nt_57 := Lib.hid nt_57
                  have Dt_57_held_11 := Lib.hid (apart_fresh Oheld_11.out)
                  have Dt_57_pairs_7l1 := Lib.hid (Go.Proofs.Ytpaakpbbahbhcaa.GoN.nest_fresh Opairs_7l1.out)
                  have Dt_57_s_22 := Lib.hid (apart_box ks_22_0)
                  have HBw_t_57 := Lib.hid (Below.step HBY11.drew.out bw_t_57)
                  have ks_22_0__183 := cell_below bw_t_57 ks_22_0
                  have ks_22_1__184 := cell_below bw_t_57 ks_22_1
                  have ks_22_2__185 := cell_below bw_t_57 ks_22_2
                  have ks_22_3__186 := cell_below bw_t_57 ks_22_3
                  have kct_36__187 := cell_below bw_t_57 kct_36
                  have hct_43_0__188 := cell_below bw_t_57 hct_43_0
                  have hct_43_1__189 := cell_below bw_t_57 hct_43_1
                  have hct_43_2__190 := cell_below bw_t_57 hct_43_2
                  have hct_43_3__191 := cell_below bw_t_57 hct_43_3
                  replace Oheld_11 := Lib.hid (own_below Oheld_11.out bw_t_57)
                  replace Opairs_7l1 := Lib.hid (Go.Proofs.Ytpaakpbbahbhcaa.GoN.nest_below Opairs_7l1.out bw_t_57)
                  clear bw_t_57
                  obtain ⟨w_t_58, hw_t_58⟩ : ∃ x, w_t_57.alloc (.cells #[.slice (some ⟨Y11.heap.size, 0, none⟩) 2 2] 32) = x := ⟨_, rfl⟩
                  have bw_t_58 : Below w_t_57.heap.size w_t_57 w_t_58 := by rw [← hw_t_58]; exact (Below.refl _ _).alloc (Nat.le_refl _) _
                  have HBw_t_58 := Lib.hid (Below.step HBw_t_57.out bw_t_58)
                  have ks_22_0__192 := cell_below bw_t_58 ks_22_0__183
                  have ks_22_1__193 := cell_below bw_t_58 ks_22_1__184
                  have ks_22_2__194 := cell_below bw_t_58 ks_22_2__185
                  have ks_22_3__195 := cell_below bw_t_58 ks_22_3__186
                  have kct_36__196 := cell_below bw_t_58 kct_36__187
                  have hct_43_0__197 := cell_below bw_t_58 hct_43_0__188
                  have hct_43_1__198 := cell_below bw_t_58 hct_43_1__189
                  have hct_43_2__199 := cell_below bw_t_58 hct_43_2__190
                  have hct_43_3__200 := cell_below bw_t_58 hct_43_3__191
                  replace Oheld_11 := Lib.hid (own_below Oheld_11.out bw_t_58)
                  replace Opairs_7l1 := Lib.hid (Go.Proofs.Ytpaakpbbahbhcaa.GoN.nest_below Opairs_7l1.out bw_t_58)
                  replace Ot_57 := Lib.hid (own_below Ot_57.out bw_t_58)
                  clear bw_t_58
                  replace H := guard_hid H
                  obtain ⟨hlt_59, H⟩ := H
                  replace H := let_hid H
                  obtain ⟨t_59, ht_59, H⟩ := H
                  have hht_59 := Lib.hid ht_59
                  clear ht_59
                  go_region_held3 (fun w' => w'.cell? ⟨wr0.heap.size, 0, none⟩ = some (.int .i64 t_20_id) ∧ w'.cell? ⟨wr0.heap.size, 1, none⟩ = some (.int .i64 t_20_year) ∧ w'.cell? ⟨wr0.heap.size, 2, none⟩ = some (.string t_20_town) ∧ w'.cell? ⟨wr0.heap.size, 3, none⟩ = some (.slice Art_20 t_20_traits.length crt_20) ∧ w'.cell? ⟨wt_10.heap.size, k0 * 10 + Nt_35, none⟩ = some (.int .i64 t_36) ∧ w'.cell? ⟨bbt_20, oot_20 + Nt_35 * 4, none⟩ = some (.int .i64 t_43_id) ∧ w'.cell? ⟨bbt_20, oot_20 + Nt_35 * 4 + 1, none⟩ = some (.int .i64 t_43_year) ∧ w'.cell? ⟨bbt_20, oot_20 + Nt_35 * 4 + 2, none⟩ = some (.string t_43_town) ∧ w'.cell? ⟨bbt_20, oot_20 + Nt_35 * 4 + 3, none⟩ = some (.slice Art_43 t_43_traits.length crt_43)) (first | exact ⟨ks_22_0, ks_22_1, ks_22_2, ks_22_3, kct_36, hct_43_0, hct_43_1, hct_43_2, hct_43_3⟩ | exact ⟨ks_22_0__183, ks_22_1__184, ks_22_2__185, ks_22_3__186, kct_36__187, hct_43_0__188, hct_43_1__189, hct_43_2__190, hct_43_3__191⟩ | exact ⟨ks_22_0__192, ks_22_1__193, ks_22_2__194, ks_22_3__195, kct_36__196, hct_43_0__197, hct_43_1__198, hct_43_2__199, hct_43_3__200⟩)
                      (first
                        | (have hst_59 := HBw_t_58.out.size
                           obtain ⟨zt_59, h1t_59, h2t_59, h3t_59, h4t_59, h5t_59⟩ := Opairs_7l1.out
                           have h1t_59i := Lib.hid h1t_59
                           have h3t_59i := Lib.hid h3t_59
                           have h4t_59i := Lib.hid h4t_59
                           have h5t_59i := Lib.hid h5t_59
                           clear h1t_59 h3t_59 h4t_59 h5t_59
                           have h2t_59i := Lib.hid h2t_59
                           clear h2t_59
                           have hq_t_59 : Hid ((Value.slice (some ⟨Y11.heap.size, 0, none⟩) 2 2 : Value) = Value.slice (some ⟨Y11.heap.size, 0, none⟩) t_57.length 2) := Lib.hid (by rw [show t_57.length = 2 from nt_57.out])
                           have e1t_59 : pairs_7l1.length + 1 ≤ maxLen := by unfold maxLen; have h_ := hlt_59; (try simp only [List.length_nil, List.length_cons] at h_); omega
                           have e2t_59 : (pairs_7l1.length + 1) * 24 ≤ 140737488355328 := by have h_ := hlt_59; (try simp only [List.length_nil, List.length_cons] at h_); omega
                           have e3t_59 := news_new hw_t_58
                           refine Go.Proofs.Ytpaakpbbahbhcaa.GoH.step_append_own (w := w_t_58) rfl (.tmp 51) (.tmp 60) 29 rfl w.heap.size 32 i0_32 (.slice none 0 0) 1 24 Try.underlying29 hi_32 hz0_32 hz1_32 hz2_32 rfl (by decide) Apairs_7l1 cpairs_7l1 pairs_7l1.length _ rfl h2t_59i.out ⟨w_t_57.heap.size, 0, none⟩ 1 [.slice (some ⟨Y11.heap.size, 0, none⟩) 2 2] rfl rfl e3t_59 (one_cells rfl) e1t_59 e2t_59 hst_59 ?_
                           intro vt_59 wt_59 ot_59 gt_59 yt_59
                           rw [hq_t_59.out] at ot_59
                           obtain ⟨qt_59, ct_59, Bt_59, rfl, pt_59, dt_59, rt_59⟩ := Go.Proofs.Ytpaakpbbahbhcaa.GoN.nest_app hht_59.out h1t_59i.out h4t_59i.out h3t_59i.out h5t_59i.out (own_len nt_57.out Ot_57.out) Dt_57_pairs_7l1.out gt_59 ot_59 yt_59
                           have Pt_59 := Lib.hid pt_59
                           have Ut_59 := Lib.hid dt_59
                           have Rt_59 := Lib.hid rt_59
                           have Gt_59 := Lib.hid gt_59
                           clear ot_59 gt_59 pt_59 yt_59 dt_59 rt_59
                           have HBwt_59 := Lib.hid (HBw_t_58.out.grown Gt_59.out hst_59 (fun q hq => (h2t_59i.out.lt q hq).1))
                           clear hst_59
                           have Dt_59_held_11 : Hid (∀ y_ ∈ Bt_59, Apart (some ⟨wt_10.heap.size, 0, none⟩) y_) := Lib.hid (Go.Proofs.Ytpaakpbbahbhcaa.GoN.apart_push Dheld_11_pairs_7l1.out (Apart.symm Dt_57_held_11.out) (fun a_ ha_ => (own_lt Oheld_11.out a_ ha_).2) Ut_59.out)
                           have Dt_59_s_22 : Hid (∀ y_ ∈ Bt_59, Apart (some ⟨wr0.heap.size, 0, none⟩) y_) := Lib.hid (Go.Proofs.Ytpaakpbbahbhcaa.GoN.apart_push Ds_22_pairs_7l1.out (Apart.symm Dt_57_s_22.out) (fun a_ ha_ => by cases ha_; exact cell_lt ks_22_0__192) Ut_59.out)
                           replace ks_22_0__192 := cell_other ks_22_0__192 Gt_59.out (Apart.symm (Ds_22_pairs_7l1.out _ (Go.Proofs.Ytpaakpbbahbhcaa.GoN.nest_head Opairs_7l1.out)))
                           replace ks_22_1__193 := cell_other ks_22_1__193 Gt_59.out (Apart.symm (Ds_22_pairs_7l1.out _ (Go.Proofs.Ytpaakpbbahbhcaa.GoN.nest_head Opairs_7l1.out)))
                           replace ks_22_2__194 := cell_other ks_22_2__194 Gt_59.out (Apart.symm (Ds_22_pairs_7l1.out _ (Go.Proofs.Ytpaakpbbahbhcaa.GoN.nest_head Opairs_7l1.out)))
                           replace ks_22_3__195 := cell_other ks_22_3__195 Gt_59.out (Apart.symm (Ds_22_pairs_7l1.out _ (Go.Proofs.Ytpaakpbbahbhcaa.GoN.nest_head Opairs_7l1.out)))
                           replace kct_36__196 := cell_other kct_36__196 Gt_59.out (Apart.symm (Dheld_11_pairs_7l1.out _ (Go.Proofs.Ytpaakpbbahbhcaa.GoN.nest_head Opairs_7l1.out)))
                           replace hct_43_0__197 := cell_other hct_43_0__197 Gt_59.out (apart_old h2t_59i.out ltt_43)
                           replace hct_43_1__198 := cell_other hct_43_1__198 Gt_59.out (apart_old h2t_59i.out ltt_43)
                           replace hct_43_2__199 := cell_other hct_43_2__199 Gt_59.out (apart_old h2t_59i.out ltt_43)
                           replace hct_43_3__200 := cell_other hct_43_3__200 Gt_59.out (apart_old h2t_59i.out ltt_43)
                           replace Oheld_11 := Lib.hid (own_other Oheld_11.out Gt_59.out (Apart.symm (Dheld_11_pairs_7l1.out _ (Go.Proofs.Ytpaakpbbahbhcaa.GoN.nest_head Opairs_7l1.out))))
                           replace Ot_57 := Lib.hid (own_other Ot_57.out Gt_59.out (Apart.symm (Dt_57_pairs_7l1.out _ (Go.Proofs.Ytpaakpbbahbhcaa.GoN.nest_head Opairs_7l1.out))))
                           clear ks_22_0 ks_22_1 ks_22_2 ks_22_3 kct_36 hct_43_0 hct_43_1 hct_43_2 hct_43_3 ks_22_0__183 ks_22_1__184 ks_22_2__185 ks_22_3__186 kct_36__187 hct_43_0__188 hct_43_1__189 hct_43_2__190 hct_43_3__191
                           clear Opairs_7l1 Gt_59 h1t_59i h2t_59i h3t_59i h4t_59i h5t_59i
                           clear Ot_57
                           have mmt_59 := Lib.hid Ut_59.out.2.1
                           clear Ut_59
                           clear Rt_59 mmt_59))
                  replace H := let_hid H
                  obtain ⟨t_62, ht_62, H⟩ := H
                  replace H := app_hid H
                  go_wp2_with fail
                  go_roundg m1
                  case measure => omega
                  case rel => exact ⟨_, _, _, _, _, rfl, rfl, H, HBwt_59, ks_22_0__192, ks_22_1__193, ks_22_2__194, ks_22_3__195, Pt_59, Oheld_11, Lib.hid Dt_59_held_11.out, Lib.hid Dt_59_s_22.out⟩
end Go.Proofs.Ytpaakpbbahbhcaa.GiDoubtfulPairs

/- loop.example/g01062/laws.FnExactDoubtfulPairs as a plain function, and the contract of the program's: where the plain one has an answer, the program has it. Conditions: slices read as lists. -/
namespace Go.Proofs.Ytpaakpbbahbhcaa.GlFnExactDoubtfulPairs
set_option linter.unusedVariables false
set_option linter.unusedSimpArgs false
open Go.RowKit
open Go.Proofs.Ytpaakpbbahbhcaa.Rowed Go.Proofs.Ytpaakpbbahbhcaa.Turn Go.Proofs.Ytpaakpbbahbhcaa.Aid Go.Proofs.Ytpaakpbbahbhcaa.GoP Go.Proofs.Ytpaakpbbahbhcaa.GoM

def P (fuel : Nat) (aList : (List Go.Proofs.Ytpaakpbbahbhcaa.PSighting.Sighting)) (aLimit : Int) : Option (Bool) :=
  Option.bind (Go.Proofs.Ytpaakpbbahbhcaa.GlSzSightingS.P aList 1048576) fun (t_4 : Int) =>
  letK (decide (t_4 < 0)) fun (t_7 : Bool) =>
  iteK t_7
  (some true)
  (Option.bind (Go.Proofs.Ytpaakpbbahbhcaa.GlToSightingS.P aList) fun (t_10 : (List Go.Proofs.Ytpaakpbbahbhcaa.PSighting.Sighting)) =>
  bind2 (Go.Proofs.Ytpaakpbbahbhcaa.GsDoubtfulPairs.P fuel t_10 aLimit) fun (t_12a : (List (List Int))) (t_12b : Bool) =>
  Option.bind (Go.Proofs.Ytpaakpbbahbhcaa.GlToSightingS.P aList) fun (t_19 : (List Go.Proofs.Ytpaakpbbahbhcaa.PSighting.Sighting)) =>
  bind2 (Go.Proofs.Ytpaakpbbahbhcaa.GiDoubtfulPairs.P fuel t_19 aLimit) fun (t_23a : (List (List Int))) (t_23b : Bool) =>
  Option.bind (Go.Proofs.Ytpaakpbbahbhcaa.GlEqIntSS.P t_23a t_12a) fun (t_31 : Bool) =>
  letK (!t_31) fun (t_32 : Bool) =>
  joinK (fun (t_37 : Bool) =>
  iteK t_37
  (some false)
  (Option.bind (Go.Proofs.Ytpaakpbbahbhcaa.GlToSightingS.P aList) fun (t_41 : (List Go.Proofs.Ytpaakpbbahbhcaa.PSighting.Sighting)) =>
  Option.bind (Go.Proofs.Ytpaakpbbahbhcaa.GlEqSightingS.P t_19 t_41) fun (t_42 : Bool) =>
  letK (!t_42) fun (t_43 : Bool) =>
  iteK t_43
  (some false)
  (bind2 (Go.Proofs.Ytpaakpbbahbhcaa.GlMarkSightingS.P t_19 1) fun (t_48 : Int) (lt_48 : (List Go.Proofs.Ytpaakpbbahbhcaa.PSighting.Sighting)) =>
  letK (decide (t_48 < 0)) fun (t_51 : Bool) =>
  joinK (fun (t_57 : Bool) =>
  joinK (fun (t_62 : Bool) =>
  iteK t_62
  (some false)
  (bind2 (Go.Proofs.Ytpaakpbbahbhcaa.GlMarkIntSS.P t_23a 1) fun (t_67 : Int) (lt_67 : (List (List Int))) =>
  Option.bind (Go.Proofs.Ytpaakpbbahbhcaa.GlHeldIntSS.P lt_67 1) fun (t_72 : Int) =>
  letK (decide (t_72 < 0)) fun (t_75 : Bool) =>
  iteK t_75
  (some false)
  (letK (t_72 != t_67) fun (t_79 : Bool) =>
  iteK t_79
  (some false)
  (Option.bind (Go.Proofs.Ytpaakpbbahbhcaa.GlToSightingS.P aList) fun (t_82 : (List Go.Proofs.Ytpaakpbbahbhcaa.PSighting.Sighting)) =>
  bind2 (Go.Proofs.Ytpaakpbbahbhcaa.GiDoubtfulPairs.P fuel t_82 aLimit) fun (t_84a : (List (List Int))) (t_84b : Bool) =>
  Option.bind (Go.Proofs.Ytpaakpbbahbhcaa.GlEqIntSS.P t_84a t_12a) fun (t_92 : Bool) =>
  letK (!t_92) fun (t_93 : Bool) =>
  joinK (fun (t_98 : Bool) =>
  iteK t_98
  (some false)
  (Option.bind (Go.Proofs.Ytpaakpbbahbhcaa.GlHeldIntSS.P lt_67 1) fun (t_103 : Int) =>
  letK (decide (t_103 < 0)) fun (t_106 : Bool) =>
  iteK t_106
  (some false)
  (letK (t_103 != t_67) fun (t_110 : Bool) =>
  iteK t_110
  (some false)
  (some true)))) fun jt_98 => iteK t_93 (appK jt_98 true) (letK (!(t_84b == t_12b)) fun (t_97 : Bool) =>
  appK jt_98 t_97))))) fun jt_62 => iteK t_57 (appK jt_62 true) (letK (!(t_23b == t_12b)) fun (t_61 : Bool) =>
  appK jt_62 t_61)) fun jt_57 => iteK t_51 (appK jt_57 true) (Option.bind (Go.Proofs.Ytpaakpbbahbhcaa.GlEqIntSS.P t_23a t_12a) fun (t_55 : Bool) =>
  letK (!t_55) fun (t_56 : Bool) =>
  appK jt_57 t_56)))) fun jt_37 => iteK t_32 (appK jt_37 true) (letK (!(t_23b == t_12b)) fun (t_36 : Bool) =>
  appK jt_37 t_36))

set_option maxRecDepth 100000 in
set_option maxHeartbeats 2000000 in
theorem C (fuel : Nat) (aList : (List Go.Proofs.Ytpaakpbbahbhcaa.PSighting.Sighting)) (aLimit : Int) (A0 : Option Addr) (c0 : Nat)  (w : World) (M0 : Hid (Go.Proofs.Ytpaakpbbahbhcaa.GoV.ReadNest w Go.Proofs.Ytpaakpbbahbhcaa.GoVSighting.lay A0 aList)) (N0 : Hid (aList.length ≤ 9223372036854775807))  {r : Bool} (H : Hid (P fuel aList aLimit = some r)) :
    Calls Try.prog 9 #[.slice A0 aList.length c0, .int .i64 aLimit] w (Gives (.bool r) w) := by
  have HB := Lib.hid (Below.refl w.heap.size w)
  unfold P at H
  have N0o := N0.out
  go_enter Try.func9, Try.ntmps9
  replace H := bind_hid H
  obtain ⟨t_4, qt_4, H⟩ := H
  go_wp2_with fail
  go_at_call 30
  refine (Go.Proofs.Ytpaakpbbahbhcaa.GlSzSightingS.C (aList) (1048576) A0 c0 _   (Lib.hid (Go.Proofs.Ytpaakpbbahbhcaa.GoV.read_below M0.out HB.out)) N0 qt_4).mono ?_
  rintro e_t_4 wt_4 ⟨rfl, bt_4⟩
  have HBwt_4 := Lib.hid (Below.step HB.out bt_4)
  clear bt_4
  replace H := let_hid H
  obtain ⟨t_7, ht_7, H⟩ := H
  cases t_7 with
  | false =>
    replace H := ite_f H
    replace H := bind_hid H
    obtain ⟨t_10, qt_10, H⟩ := H
    go_wp2_with fail
    go_at_call 31
    refine (Go.Proofs.Ytpaakpbbahbhcaa.GlToSightingS.C (aList) A0 c0 _   (Lib.hid (Go.Proofs.Ytpaakpbbahbhcaa.GoV.read_below M0.out HBwt_4.out)) N0 qt_10).mono ?_
    rintro e_t_10 wt_10 ⟨At_10, ct_10, rfl, ⟨Bt_10, ot_10⟩, bt_10⟩
    have Ot_10 := Lib.hid (Go.Proofs.Ytpaakpbbahbhcaa.GoV.nest_lower ot_10 HBwt_4.out.size)
    clear ot_10
    have HBwt_10 := Lib.hid (Below.step HBwt_4.out bt_10)
    clear bt_10
    replace H := bind2_hid H
    obtain ⟨t_12a, t_12b, qt_12, H⟩ := H
    go_wp2_with fail
    go_at_call 42
    refine (Go.Proofs.Ytpaakpbbahbhcaa.GsDoubtfulPairs.C fuel (t_10) (aLimit) At_10 ct_10 _   (Lib.hid (Go.Proofs.Ytpaakpbbahbhcaa.GoV.nest_read Ot_10.out)) (Lib.hid (Go.Proofs.Ytpaakpbbahbhcaa.GoV.nest_max Ot_10.out)) qt_12).mono ?_
    rintro e_t_12 wt_12 ⟨At_12a, ct_12a, rfl, ⟨Bt_12a, ot_12a⟩, bt_12⟩
    have Dt_12a_t_10 := Lib.hid (Go.Proofs.Ytpaakpbbahbhcaa.GoV.lts_apart (Go.Proofs.Ytpaakpbbahbhcaa.GoN.nest_lt ot_12a) (Go.Proofs.Ytpaakpbbahbhcaa.GoV.nest_lt Ot_10.out))
    have Ot_12a := Lib.hid (Go.Proofs.Ytpaakpbbahbhcaa.GoN.nest_lower ot_12a HBwt_10.out.size)
    clear ot_12a
    have HBwt_12 := Lib.hid (Below.step HBwt_10.out bt_12)
    replace Ot_10 := Lib.hid (Go.Proofs.Ytpaakpbbahbhcaa.GoV.nest_below Ot_10.out bt_12)
    clear bt_12
    replace H := bind_hid H
    obtain ⟨t_19, qt_19, H⟩ := H
    go_wp2_with fail
    go_at_call 31
    refine (Go.Proofs.Ytpaakpbbahbhcaa.GlToSightingS.C (aList) A0 c0 _   (Lib.hid (Go.Proofs.Ytpaakpbbahbhcaa.GoV.read_below M0.out HBwt_12.out)) N0 qt_19).mono ?_
    rintro e_t_19 wt_19 ⟨At_19, ct_19, rfl, ⟨Bt_19, ot_19⟩, bt_19⟩
    have Dt_19_t_10 := Lib.hid (Go.Proofs.Ytpaakpbbahbhcaa.GoV.lts_apart (Go.Proofs.Ytpaakpbbahbhcaa.GoV.nest_lt ot_19) (Go.Proofs.Ytpaakpbbahbhcaa.GoV.nest_lt Ot_10.out))
    have Dt_19_t_12a := Lib.hid (Go.Proofs.Ytpaakpbbahbhcaa.GoV.lts_apart (Go.Proofs.Ytpaakpbbahbhcaa.GoV.nest_lt ot_19) (Go.Proofs.Ytpaakpbbahbhcaa.GoN.nest_lt Ot_12a.out))
    have Ot_19 := Lib.hid (Go.Proofs.Ytpaakpbbahbhcaa.GoV.nest_lower ot_19 HBwt_12.out.size)
    clear ot_19
    have HBwt_19 := Lib.hid (Below.step HBwt_12.out bt_19)
    replace Ot_10 := Lib.hid (Go.Proofs.Ytpaakpbbahbhcaa.GoV.nest_below Ot_10.out bt_19)
    replace Ot_12a := Lib.hid (Go.Proofs.Ytpaakpbbahbhcaa.GoN.nest_below Ot_12a.out bt_19)
    clear bt_19
    replace H := bind2_hid H
    obtain ⟨t_23a, t_23b, qt_23, H⟩ := H
    go_wp2_with fail
    go_at_call 43
    refine (Go.Proofs.Ytpaakpbbahbhcaa.GiDoubtfulPairs.C fuel (t_19) (aLimit) At_19 ct_19 _   (Lib.hid (Go.Proofs.Ytpaakpbbahbhcaa.GoV.nest_read Ot_19.out)) (Lib.hid (Go.Proofs.Ytpaakpbbahbhcaa.GoV.nest_max Ot_19.out)) qt_23).mono ?_
    rintro e_t_23 wt_23 ⟨At_23a, ct_23a, rfl, ⟨Bt_23a, ot_23a⟩, bt_23⟩
    have Dt_23a_t_10 := Lib.hid (Go.Proofs.Ytpaakpbbahbhcaa.GoV.lts_apart (Go.Proofs.Ytpaakpbbahbhcaa.GoN.nest_lt ot_23a) (Go.Proofs.Ytpaakpbbahbhcaa.GoV.nest_lt Ot_10.out))
    have Dt_23a_t_12a := Lib.hid (Go.Proofs.Ytpaakpbbahbhcaa.GoN.nest_callnest ot_23a Ot_12a.out)
    have Dt_23a_t_19 := Lib.hid (Go.Proofs.Ytpaakpbbahbhcaa.GoV.lts_apart (Go.Proofs.Ytpaakpbbahbhcaa.GoN.nest_lt ot_23a) (Go.Proofs.Ytpaakpbbahbhcaa.GoV.nest_lt Ot_19.out))
    have Ot_23a := Lib.hid (Go.Proofs.Ytpaakpbbahbhcaa.GoN.nest_lower ot_23a HBwt_19.out.size)
    clear ot_23a
    have HBwt_23 := Lib.hid (Below.step HBwt_19.out bt_23)
    replace Ot_10 := Lib.hid (Go.Proofs.Ytpaakpbbahbhcaa.GoV.nest_below Ot_10.out bt_23)
    replace Ot_12a := Lib.hid (Go.Proofs.Ytpaakpbbahbhcaa.GoN.nest_below Ot_12a.out bt_23)
    replace Ot_19 := Lib.hid (Go.Proofs.Ytpaakpbbahbhcaa.GoV.nest_below Ot_19.out bt_23)
    clear bt_23
    replace H := bind_hid H
    obtain ⟨t_31, qt_31, H⟩ := H
    go_wp2_with fail
    go_at_call 33
    refine (Go.Proofs.Ytpaakpbbahbhcaa.GlEqIntSS.C (t_23a) (t_12a) At_23a ct_23a At_12a ct_12a _   (Lib.hid (Go.Proofs.Ytpaakpbbahbhcaa.GoN.nest_read Ot_23a.out)) (Lib.hid (Go.Proofs.Ytpaakpbbahbhcaa.GoN.nest_max Ot_23a.out)) (Lib.hid (Go.Proofs.Ytpaakpbbahbhcaa.GoN.nest_read Ot_12a.out)) (Lib.hid (Go.Proofs.Ytpaakpbbahbhcaa.GoN.nest_max Ot_12a.out)) qt_31).mono ?_
    rintro e_t_31 wt_31 ⟨rfl, bt_31⟩
    have HBwt_31 := Lib.hid (Below.step HBwt_23.out bt_31)
    replace Ot_10 := Lib.hid (Go.Proofs.Ytpaakpbbahbhcaa.GoV.nest_below Ot_10.out bt_31)
    replace Ot_12a := Lib.hid (Go.Proofs.Ytpaakpbbahbhcaa.GoN.nest_below Ot_12a.out bt_31)
    replace Ot_19 := Lib.hid (Go.Proofs.Ytpaakpbbahbhcaa.GoV.nest_below Ot_19.out bt_31)
    replace Ot_23a := Lib.hid (Go.Proofs.Ytpaakpbbahbhcaa.GoN.nest_below Ot_23a.out bt_31)
    clear bt_31
    cases t_31 with
    | false =>
      replace H := let_hid H
      obtain ⟨t_32, ht_32, H⟩ := H
      obtain rfl : t_32 = true := ht_32.symm
      replace H := join_hid H
      replace H := ite_t H
      replace H := app_hid H
      replace H := ite_t H
      obtain rfl := ret_hid H
      go_wp2_with fail
      go_ret
      exact ⟨rfl, HBwt_31.out⟩
    | true =>
      replace H := let_hid H
      obtain ⟨t_32, ht_32, H⟩ := H
      obtain rfl : t_32 = false := ht_32.symm
      replace H := join_hid H
      replace H := ite_f H
      replace H := let_hid H
      obtain ⟨t_36, ht_36, H⟩ := H
      replace H := app_hid H
      cases t_36 with
      | false =>
        replace H := ite_f H
        replace H := bind_hid H
        obtain ⟨t_41, qt_41, H⟩ := H
        go_wp2_with fail
        go_at_call 31
        refine (Go.Proofs.Ytpaakpbbahbhcaa.GlToSightingS.C (aList) A0 c0 _   (Lib.hid (Go.Proofs.Ytpaakpbbahbhcaa.GoV.read_below M0.out HBwt_31.out)) N0 qt_41).mono ?_
        rintro e_t_41 wt_41 ⟨At_41, ct_41, rfl, ⟨Bt_41, ot_41⟩, bt_41⟩
        have Dt_41_t_10 := Lib.hid (Go.Proofs.Ytpaakpbbahbhcaa.GoV.lts_apart (Go.Proofs.Ytpaakpbbahbhcaa.GoV.nest_lt ot_41) (Go.Proofs.Ytpaakpbbahbhcaa.GoV.nest_lt Ot_10.out))
        have Dt_41_t_12a := Lib.hid (Go.Proofs.Ytpaakpbbahbhcaa.GoV.lts_apart (Go.Proofs.Ytpaakpbbahbhcaa.GoV.nest_lt ot_41) (Go.Proofs.Ytpaakpbbahbhcaa.GoN.nest_lt Ot_12a.out))
        have Dt_41_t_19 := Lib.hid (Go.Proofs.Ytpaakpbbahbhcaa.GoV.lts_apart (Go.Proofs.Ytpaakpbbahbhcaa.GoV.nest_lt ot_41) (Go.Proofs.Ytpaakpbbahbhcaa.GoV.nest_lt Ot_19.out))
        have Dt_41_t_23a := Lib.hid (Go.Proofs.Ytpaakpbbahbhcaa.GoV.lts_apart (Go.Proofs.Ytpaakpbbahbhcaa.GoV.nest_lt ot_41) (Go.Proofs.Ytpaakpbbahbhcaa.GoN.nest_lt Ot_23a.out))
        have Ot_41 := Lib.hid (Go.Proofs.Ytpaakpbbahbhcaa.GoV.nest_lower ot_41 HBwt_31.out.size)
        clear ot_41
        have HBwt_41 := Lib.hid (Below.step HBwt_31.out bt_41)
        replace Ot_10 := Lib.hid (Go.Proofs.Ytpaakpbbahbhcaa.GoV.nest_below Ot_10.out bt_41)
        replace Ot_12a := Lib.hid (Go.Proofs.Ytpaakpbbahbhcaa.GoN.nest_below Ot_12a.out bt_41)
        replace Ot_19 := Lib.hid (Go.Proofs.Ytpaakpbbahbhcaa.GoV.nest_below Ot_19.out bt_41)
        replace Ot_23a := Lib.hid (Go.Proofs.Ytpaakpbbahbhcaa.GoN.nest_below Ot_23a.out bt_41)
        clear bt_41
        replace H := bind_hid H
        obtain ⟨t_42, qt_42, H⟩ := H
        go_wp2_with fail
        go_at_call 32
        refine (Go.Proofs.Ytpaakpbbahbhcaa.GlEqSightingS.C (t_19) (t_41) At_19 ct_19 At_41 ct_41 _   (Lib.hid (Go.Proofs.Ytpaakpbbahbhcaa.GoV.nest_read Ot_19.out)) (Lib.hid (Go.Proofs.Ytpaakpbbahbhcaa.GoV.nest_max Ot_19.out)) (Lib.hid (Go.Proofs.Ytpaakpbbahbhcaa.GoV.nest_read Ot_41.out)) (Lib.hid (Go.Proofs.Ytpaakpbbahbhcaa.GoV.nest_max Ot_41.out)) qt_42).mono ?_
        rintro e_t_42 wt_42 ⟨rfl, bt_42⟩
        have HBwt_42 := Lib.hid (Below.step HBwt_41.out bt_42)
        replace Ot_10 := Lib.hid (Go.Proofs.Ytpaakpbbahbhcaa.GoV.nest_below Ot_10.out bt_42)
        replace Ot_12a := Lib.hid (Go.Proofs.Ytpaakpbbahbhcaa.GoN.nest_below Ot_12a.out bt_42)
        replace Ot_19 := Lib.hid (Go.Proofs.Ytpaakpbbahbhcaa.GoV.nest_below Ot_19.out bt_42)
        replace Ot_23a := Lib.hid (Go.Proofs.Ytpaakpbbahbhcaa.GoN.nest_below Ot_23a.out bt_42)
        replace Ot_41 := Lib.hid (Go.Proofs.Ytpaakpbbahbhcaa.GoV.nest_below Ot_41.out bt_42)
        clear bt_42
        cases t_42 with
        | false =>
          replace H := let_hid H
          obtain ⟨t_43, ht_43, H⟩ := H
          obtain rfl : t_43 = true := ht_43.symm
          replace H := ite_t H
          obtain rfl := ret_hid H
          go_wp2_with fail
          go_ret
          exact ⟨rfl, HBwt_42.out⟩
        | true =>
          replace H := let_hid H
          obtain ⟨t_43, ht_43, H⟩ := H
          obtain rfl : t_43 = false := ht_43.symm
          replace H := ite_f H
          replace H := bind2_hid H
          obtain ⟨t_48, lt_48, qt_48, H⟩ := H
          go_wp2_with fail
          go_at_call 34
          refine (Go.Proofs.Ytpaakpbbahbhcaa.GlMarkSightingS.C (t_19) (1) At_19 ct_19 w.heap.size Bt_19 _   Ot_19 (Lib.hid (Go.Proofs.Ytpaakpbbahbhcaa.GoV.nest_max Ot_19.out))   qt_48).mono ?_
          rintro e_t_48 wt_48 ⟨rfl, ot_48, nt_48, gt_48⟩
          have Pt_48 := Lib.hid ot_48
          have Gt_48 := Lib.hid gt_48
          replace nt_48 := Lib.hid nt_48
          clear ot_48 gt_48
          have HBwt_48 := Lib.hid (Go.Proofs.Ytpaakpbbahbhcaa.GoN.below_nest HBwt_42.out Gt_48.out HBwt_42.out.size (Go.Proofs.Ytpaakpbbahbhcaa.GoV.nest_lt Ot_19.out))
          replace Ot_10 := Lib.hid (Go.Proofs.Ytpaakpbbahbhcaa.GoV.nest_otherN Ot_10.out Gt_48.out (Go.Proofs.Ytpaakpbbahbhcaa.GoN.nest_flip Dt_19_t_10.out))
          replace Ot_12a := Lib.hid (Go.Proofs.Ytpaakpbbahbhcaa.GoN.nest_otherN Ot_12a.out Gt_48.out (Go.Proofs.Ytpaakpbbahbhcaa.GoN.nest_flip Dt_19_t_12a.out))
          replace Ot_23a := Lib.hid (Go.Proofs.Ytpaakpbbahbhcaa.GoN.nest_otherN Ot_23a.out Gt_48.out Dt_23a_t_19.out)
          replace Ot_41 := Lib.hid (Go.Proofs.Ytpaakpbbahbhcaa.GoV.nest_otherN Ot_41.out Gt_48.out Dt_41_t_19.out)
          clear Ot_19 Gt_48
          replace H := let_hid H
          obtain ⟨t_51, ht_51, H⟩ := H
          replace H := join_hid H
          cases t_51 with
          | false =>
            replace H := ite_f H
            replace H := bind_hid H
            obtain ⟨t_55, qt_55, H⟩ := H
            go_wp2_with fail
            go_at_call 33
            refine (Go.Proofs.Ytpaakpbbahbhcaa.GlEqIntSS.C (t_23a) (t_12a) At_23a ct_23a At_12a ct_12a _   (Lib.hid (Go.Proofs.Ytpaakpbbahbhcaa.GoN.nest_read Ot_23a.out)) (Lib.hid (Go.Proofs.Ytpaakpbbahbhcaa.GoN.nest_max Ot_23a.out)) (Lib.hid (Go.Proofs.Ytpaakpbbahbhcaa.GoN.nest_read Ot_12a.out)) (Lib.hid (Go.Proofs.Ytpaakpbbahbhcaa.GoN.nest_max Ot_12a.out)) qt_55).mono ?_
            rintro e_t_55 wt_55 ⟨rfl, bt_55⟩
            have HBwt_55 := Lib.hid (Below.step HBwt_48.out bt_55)
            replace Ot_10 := Lib.hid (Go.Proofs.Ytpaakpbbahbhcaa.GoV.nest_below Ot_10.out bt_55)
            replace Ot_12a := Lib.hid (Go.Proofs.Ytpaakpbbahbhcaa.GoN.nest_below Ot_12a.out bt_55)
            replace Pt_48 := Lib.hid (Go.Proofs.Ytpaakpbbahbhcaa.GoV.nest_below Pt_48.out bt_55)
            replace Ot_23a := Lib.hid (Go.Proofs.Ytpaakpbbahbhcaa.GoN.nest_below Ot_23a.out bt_55)
            replace Ot_41 := Lib.hid (Go.Proofs.Ytpaakpbbahbhcaa.GoV.nest_below Ot_41.out bt_55)
            clear bt_55
            cases t_55 with
            | false =>
              replace H := let_hid H
              obtain ⟨t_56, ht_56, H⟩ := H
              obtain rfl : t_56 = true := ht_56.symm
              replace H := app_hid H
              replace H := join_hid H
              replace H := ite_t H
              replace H := app_hid H
              replace H := ite_t H
              obtain rfl := ret_hid H
              go_wp2_with fail
              go_ret
              exact ⟨rfl, HBwt_55.out⟩
            | true =>
              replace H := let_hid H
              obtain ⟨t_56, ht_56, H⟩ := H
              obtain rfl : t_56 = false := ht_56.symm
              replace H := app_hid H
              replace H := join_hid H
              replace H := ite_f H
              replace H := let_hid H
              obtain ⟨t_61, ht_61, H⟩ := H
              obtain rfl := ht_36.symm.trans ht_61
              replace H := app_hid H
              replace H := ite_f H
              replace H := bind2_hid H
              obtain ⟨t_67, lt_67, qt_67, H⟩ := H
              go_wp2_with fail
              go_at_call 35
              refine (Go.Proofs.Ytpaakpbbahbhcaa.GlMarkIntSS.C (t_23a) (1) At_23a ct_23a w.heap.size Bt_23a _   Ot_23a (Lib.hid (Go.Proofs.Ytpaakpbbahbhcaa.GoN.nest_max Ot_23a.out))   qt_67).mono ?_
              rintro e_t_67 wt_67 ⟨rfl, ot_67, nt_67, gt_67⟩
              have Pt_67 := Lib.hid ot_67
              have Gt_67 := Lib.hid gt_67
              replace nt_67 := Lib.hid nt_67
              clear ot_67 gt_67
              have HBwt_67 := Lib.hid (Go.Proofs.Ytpaakpbbahbhcaa.GoN.below_nest HBwt_55.out Gt_67.out HBwt_55.out.size (Go.Proofs.Ytpaakpbbahbhcaa.GoN.nest_lt Ot_23a.out))
              replace Ot_10 := Lib.hid (Go.Proofs.Ytpaakpbbahbhcaa.GoV.nest_otherN Ot_10.out Gt_67.out (Go.Proofs.Ytpaakpbbahbhcaa.GoN.nest_flip Dt_23a_t_10.out))
              replace Ot_12a := Lib.hid (Go.Proofs.Ytpaakpbbahbhcaa.GoN.nest_otherN Ot_12a.out Gt_67.out (Go.Proofs.Ytpaakpbbahbhcaa.GoN.nest_flip Dt_23a_t_12a.out))
              replace Pt_48 := Lib.hid (Go.Proofs.Ytpaakpbbahbhcaa.GoV.nest_otherN Pt_48.out Gt_67.out (Go.Proofs.Ytpaakpbbahbhcaa.GoN.nest_flip Dt_23a_t_19.out))
              replace Ot_41 := Lib.hid (Go.Proofs.Ytpaakpbbahbhcaa.GoV.nest_otherN Ot_41.out Gt_67.out Dt_41_t_23a.out)
              clear Ot_23a Gt_67
              replace H := bind_hid H
              obtain ⟨t_72, qt_72, H⟩ := H
              go_wp2_with fail
              have hc_ := nt_67.out
              have hv_ : (Value.slice At_23a t_23a.length ct_23a : Value) = Value.slice At_23a lt_67.length ct_23a := by rw [hc_]
              try rw [hv_]
              clear hc_ hv_
              go_wp2_with fail
              go_at_call 36
              refine (Go.Proofs.Ytpaakpbbahbhcaa.GlHeldIntSS.C (lt_67) (1) At_23a ct_23a _   (Lib.hid (Go.Proofs.Ytpaakpbbahbhcaa.GoN.nest_read Pt_67.out)) (Lib.hid (Go.Proofs.Ytpaakpbbahbhcaa.GoN.nest_max Pt_67.out)) qt_72).mono ?_
              rintro e_t_72 wt_72 ⟨rfl, bt_72⟩
              have HBwt_72 := Lib.hid (Below.step HBwt_67.out bt_72)
              replace Ot_10 := Lib.hid (Go.Proofs.Ytpaakpbbahbhcaa.GoV.nest_below Ot_10.out bt_72)
              replace Ot_12a := Lib.hid (Go.Proofs.Ytpaakpbbahbhcaa.GoN.nest_below Ot_12a.out bt_72)
              replace Pt_48 := Lib.hid (Go.Proofs.Ytpaakpbbahbhcaa.GoV.nest_below Pt_48.out bt_72)
              replace Pt_67 := Lib.hid (Go.Proofs.Ytpaakpbbahbhcaa.GoN.nest_below Pt_67.out bt_72)
              replace Ot_41 := Lib.hid (Go.Proofs.Ytpaakpbbahbhcaa.GoV.nest_below Ot_41.out bt_72)
              clear bt_72
              replace H := let_hid H
              obtain ⟨t_75, ht_75, H⟩ := H
              cases t_75 with
              | false =>
                replace H := ite_f H
                replace H := let_hid H
                obtain ⟨t_79, ht_79, H⟩ := H
                cases t_79 with
                | false =>
                  replace H := ite_f H
                  replace H := bind_hid H
                  obtain ⟨t_82, qt_82, H⟩ := H
                  go_wp2_with fail
                  go_at_call 31
                  refine (Go.Proofs.Ytpaakpbbahbhcaa.GlToSightingS.C (aList) A0 c0 _   (Lib.hid (Go.Proofs.Ytpaakpbbahbhcaa.GoV.read_below M0.out HBwt_72.out)) N0 qt_82).mono ?_
                  rintro e_t_82 wt_82 ⟨At_82, ct_82, rfl, ⟨Bt_82, ot_82⟩, bt_82⟩
                  have Dt_82_t_10 := Lib.hid (Go.Proofs.Ytpaakpbbahbhcaa.GoV.lts_apart (Go.Proofs.Ytpaakpbbahbhcaa.GoV.nest_lt ot_82) (Go.Proofs.Ytpaakpbbahbhcaa.GoV.nest_lt Ot_10.out))
                  have Dt_82_t_12a := Lib.hid (Go.Proofs.Ytpaakpbbahbhcaa.GoV.lts_apart (Go.Proofs.Ytpaakpbbahbhcaa.GoV.nest_lt ot_82) (Go.Proofs.Ytpaakpbbahbhcaa.GoN.nest_lt Ot_12a.out))
                  have Dt_82_t_19 := Lib.hid (Go.Proofs.Ytpaakpbbahbhcaa.GoV.lts_apart (Go.Proofs.Ytpaakpbbahbhcaa.GoV.nest_lt ot_82) (Go.Proofs.Ytpaakpbbahbhcaa.GoV.nest_lt Pt_48.out))
                  have Dt_82_t_23a := Lib.hid (Go.Proofs.Ytpaakpbbahbhcaa.GoV.lts_apart (Go.Proofs.Ytpaakpbbahbhcaa.GoV.nest_lt ot_82) (Go.Proofs.Ytpaakpbbahbhcaa.GoN.nest_lt Pt_67.out))
                  have Dt_82_t_41 := Lib.hid (Go.Proofs.Ytpaakpbbahbhcaa.GoV.lts_apart (Go.Proofs.Ytpaakpbbahbhcaa.GoV.nest_lt ot_82) (Go.Proofs.Ytpaakpbbahbhcaa.GoV.nest_lt Ot_41.out))
                  have Ot_82 := Lib.hid (Go.Proofs.Ytpaakpbbahbhcaa.GoV.nest_lower ot_82 HBwt_72.out.size)
                  clear ot_82
                  have HBwt_82 := Lib.hid (Below.step HBwt_72.out bt_82)
                  replace Ot_10 := Lib.hid (Go.Proofs.Ytpaakpbbahbhcaa.GoV.nest_below Ot_10.out bt_82)
                  replace Ot_12a := Lib.hid (Go.Proofs.Ytpaakpbbahbhcaa.GoN.nest_below Ot_12a.out bt_82)
                  replace Pt_48 := Lib.hid (Go.Proofs.Ytpaakpbbahbhcaa.GoV.nest_below Pt_48.out bt_82)
                  replace Pt_67 := Lib.hid (Go.Proofs.Ytpaakpbbahbhcaa.GoN.nest_below Pt_67.out bt_82)
                  replace Ot_41 := Lib.hid (Go.Proofs.Ytpaakpbbahbhcaa.GoV.nest_below Ot_41.out bt_82)
                  clear bt_82
                  replace H := bind2_hid H
                  obtain ⟨t_84a, t_84b, qt_84, H⟩ := H
                  go_wp2_with fail
                  go_at_call 43
                  refine (Go.Proofs.Ytpaakpbbahbhcaa.GiDoubtfulPairs.C fuel (t_82) (aLimit) At_82 ct_82 _   (Lib.hid (Go.Proofs.Ytpaakpbbahbhcaa.GoV.nest_read Ot_82.out)) (Lib.hid (Go.Proofs.Ytpaakpbbahbhcaa.GoV.nest_max Ot_82.out)) qt_84).mono ?_
                  rintro e_t_84 wt_84 ⟨At_84a, ct_84a, rfl, ⟨Bt_84a, ot_84a⟩, bt_84⟩
                  have Dt_84a_t_10 := Lib.hid (Go.Proofs.Ytpaakpbbahbhcaa.GoV.lts_apart (Go.Proofs.Ytpaakpbbahbhcaa.GoN.nest_lt ot_84a) (Go.Proofs.Ytpaakpbbahbhcaa.GoV.nest_lt Ot_10.out))
                  have Dt_84a_t_12a := Lib.hid (Go.Proofs.Ytpaakpbbahbhcaa.GoN.nest_callnest ot_84a Ot_12a.out)
                  have Dt_84a_t_19 := Lib.hid (Go.Proofs.Ytpaakpbbahbhcaa.GoV.lts_apart (Go.Proofs.Ytpaakpbbahbhcaa.GoN.nest_lt ot_84a) (Go.Proofs.Ytpaakpbbahbhcaa.GoV.nest_lt Pt_48.out))
                  have Dt_84a_t_23a := Lib.hid (Go.Proofs.Ytpaakpbbahbhcaa.GoN.nest_callnest ot_84a Pt_67.out)
                  have Dt_84a_t_41 := Lib.hid (Go.Proofs.Ytpaakpbbahbhcaa.GoV.lts_apart (Go.Proofs.Ytpaakpbbahbhcaa.GoN.nest_lt ot_84a) (Go.Proofs.Ytpaakpbbahbhcaa.GoV.nest_lt Ot_41.out))
                  have Dt_84a_t_82 := Lib.hid (Go.Proofs.Ytpaakpbbahbhcaa.GoV.lts_apart (Go.Proofs.Ytpaakpbbahbhcaa.GoN.nest_lt ot_84a) (Go.Proofs.Ytpaakpbbahbhcaa.GoV.nest_lt Ot_82.out))
                  have Ot_84a := Lib.hid (Go.Proofs.Ytpaakpbbahbhcaa.GoN.nest_lower ot_84a HBwt_82.out.size)
                  clear ot_84a
                  have HBwt_84 := Lib.hid (Below.step HBwt_82.out bt_84)
                  replace Ot_10 := Lib.hid (Go.Proofs.Ytpaakpbbahbhcaa.GoV.nest_below Ot_10.out bt_84)
                  replace Ot_12a := Lib.hid (Go.Proofs.Ytpaakpbbahbhcaa.GoN.nest_below Ot_12a.out bt_84)
                  replace Pt_48 := Lib.hid (Go.Proofs.Ytpaakpbbahbhcaa.GoV.nest_below Pt_48.out bt_84)
                  replace Pt_67 := Lib.hid (Go.Proofs.Ytpaakpbbahbhcaa.GoN.nest_below Pt_67.out bt_84)
                  replace Ot_41 := Lib.hid (Go.Proofs.Ytpaakpbbahbhcaa.GoV.nest_below Ot_41.out bt_84)
                  replace Ot_82 := Lib.hid (Go.Proofs.Ytpaakpbbahbhcaa.GoV.nest_below Ot_82.out bt_84)
                  clear bt_84
                  replace H := bind_hid H
                  obtain ⟨t_92, qt_92, H⟩ := H
                  go_wp2_with fail
                  go_at_call 33
                  refine (Go.Proofs.Ytpaakpbbahbhcaa.GlEqIntSS.C (t_84a) (t_12a) At_84a ct_84a At_12a ct_12a _   (Lib.hid (Go.Proofs.Ytpaakpbbahbhcaa.GoN.nest_read Ot_84a.out)) (Lib.hid (Go.Proofs.Ytpaakpbbahbhcaa.GoN.nest_max Ot_84a.out)) (Lib.hid (Go.Proofs.Ytpaakpbbahbhcaa.GoN.nest_read Ot_12a.out)) (Lib.hid (Go.Proofs.Ytpaakpbbahbhcaa.GoN.nest_max Ot_12a.out)) qt_92).mono ?_
                  rintro e_t_92 wt_92 ⟨rfl, bt_92⟩
                  have HBwt_92 := Lib.hid (Below.step HBwt_84.out bt_92)
                  replace Ot_10 := Lib.hid (Go.Proofs.Ytpaakpbbahbhcaa.GoV.nest_below Ot_10.out bt_92)
                  replace Ot_12a := Lib.hid (Go.Proofs.Ytpaakpbbahbhcaa.GoN.nest_below Ot_12a.out bt_92)
                  replace Pt_48 := Lib.hid (Go.Proofs.Ytpaakpbbahbhcaa.GoV.nest_below Pt_48.out bt_92)
                  replace Pt_67 := Lib.hid (Go.Proofs.Ytpaakpbbahbhcaa.GoN.nest_below Pt_67.out bt_92)
                  replace Ot_41 := Lib.hid (Go.Proofs.Ytpaakpbbahbhcaa.GoV.nest_below Ot_41.out bt_92)
                  replace Ot_82 := Lib.hid (Go.Proofs.Ytpaakpbbahbhcaa.GoV.nest_below Ot_82.out bt_92)
                  replace Ot_84a := Lib.hid (Go.Proofs.Ytpaakpbbahbhcaa.GoN.nest_below Ot_84a.out bt_92)
                  clear bt_92
                  cases t_92 with
                  | false =>
                    replace H := let_hid H
                    obtain ⟨t_93, ht_93, H⟩ := H
                    obtain rfl : t_93 = true := ht_93.symm
                    replace H := join_hid H
                    replace H := ite_t H
                    replace H := app_hid H
                    replace H := ite_t H
                    obtain rfl := ret_hid H
                    go_wp2_with fail
                    go_ret
                    exact ⟨rfl, HBwt_92.out⟩
                  | true =>
                    replace H := let_hid H
                    obtain ⟨t_93, ht_93, H⟩ := H
                    obtain rfl : t_93 = false := ht_93.symm
                    replace H := join_hid H
                    replace H := ite_f H
                    replace H := let_hid H
                    obtain ⟨t_97, ht_97, H⟩ := H
                    replace H := app_hid H
                    cases t_97 with
                    | false =>
                      replace H := ite_f H
                      replace H := bind_hid H
                      obtain ⟨t_103, qt_103, H⟩ := H
                      go_wp2_with fail
                      go_at_call 36
                      refine (Go.Proofs.Ytpaakpbbahbhcaa.GlHeldIntSS.C (lt_67) (1) At_23a ct_23a _   (Lib.hid (Go.Proofs.Ytpaakpbbahbhcaa.GoN.nest_read Pt_67.out)) (Lib.hid (Go.Proofs.Ytpaakpbbahbhcaa.GoN.nest_max Pt_67.out)) qt_103).mono ?_
                      rintro e_t_103 wt_103 ⟨rfl, bt_103⟩
                      have HBwt_103 := Lib.hid (Below.step HBwt_92.out bt_103)
                      replace Ot_10 := Lib.hid (Go.Proofs.Ytpaakpbbahbhcaa.GoV.nest_below Ot_10.out bt_103)
                      replace Ot_12a := Lib.hid (Go.Proofs.Ytpaakpbbahbhcaa.GoN.nest_below Ot_12a.out bt_103)
                      replace Pt_48 := Lib.hid (Go.Proofs.Ytpaakpbbahbhcaa.GoV.nest_below Pt_48.out bt_103)
                      replace Pt_67 := Lib.hid (Go.Proofs.Ytpaakpbbahbhcaa.GoN.nest_below Pt_67.out bt_103)
                      replace Ot_41 := Lib.hid (Go.Proofs.Ytpaakpbbahbhcaa.GoV.nest_below Ot_41.out bt_103)
                      replace Ot_82 := Lib.hid (Go.Proofs.Ytpaakpbbahbhcaa.GoV.nest_below Ot_82.out bt_103)
                      replace Ot_84a := Lib.hid (Go.Proofs.Ytpaakpbbahbhcaa.GoN.nest_below Ot_84a.out bt_103)
                      clear bt_103
                      replace H := let_hid H
                      obtain ⟨t_106, ht_106, H⟩ := H
                      cases t_106 with
                      | false =>
                        replace H := ite_f H
                        replace H := let_hid H
                        obtain ⟨t_110, ht_110, H⟩ := H
                        cases t_110 with
                        | false =>
                          replace H := ite_f H
                          obtain rfl := ret_hid H
                          go_wp2_with fail
                          go_ret
                          exact ⟨rfl, HBwt_103.out⟩
                        | true =>
                          replace H := ite_t H
                          obtain rfl := ret_hid H
                          go_wp2_with fail
                          go_ret
                          exact ⟨rfl, HBwt_103.out⟩
                      | true =>
                        replace H := ite_t H
                        obtain rfl := ret_hid H
                        go_wp2_with fail
                        go_ret
                        exact ⟨rfl, HBwt_103.out⟩
                    | true =>
                      replace H := ite_t H
                      obtain rfl := ret_hid H
                      go_wp2_with fail
                      go_ret
                      exact ⟨rfl, HBwt_92.out⟩
                | true =>
                  replace H := ite_t H
                  obtain rfl := ret_hid H
                  go_wp2_with fail
                  go_ret
                  exact ⟨rfl, HBwt_72.out⟩
              | true =>
                replace H := ite_t H
                obtain rfl := ret_hid H
                go_wp2_with fail
                go_ret
                exact ⟨rfl, HBwt_72.out⟩
          | true =>
            replace H := ite_t H
            replace H := app_hid H
            replace H := join_hid H
            replace H := ite_t H
            replace H := app_hid H
            replace H := ite_t H
            obtain rfl := ret_hid H
            go_wp2_with fail
            go_ret
            exact ⟨rfl, HBwt_48.out⟩
      | true =>
        replace H := ite_t H
        obtain rfl := ret_hid H
        go_wp2_with fail
        go_ret
        exact ⟨rfl, HBwt_31.out⟩
  | true =>
    replace H := ite_t H
    obtain rfl := ret_hid H
    go_wp2_with fail
    go_ret
    exact ⟨rfl, HBwt_4.out⟩
end Go.Proofs.Ytpaakpbbahbhcaa.GlFnExactDoubtfulPairs

