/- The texts on which the proof of FnExactKindText stands, one behind the other (2 of 3). No condition of their own. -/
import Derived.Test.YtekacbjnpeglhaaDoorChecked
import Derived.Test.YtekacbjnpeglhaaDoorFnExactKindTextP1
import Derived.WalkKit
import Derived.WalkSpells
import Derived.WalkLawsBesides
import Derived.BigQuiet
import Derived.OwnWalk
import Derived.Deep.LoopGhost
import Derived.Deep.QuietTactic
import Derived.IntWalk
import Derived.Lib.QuietBelow
import Derived.Deep.RegionHeld3
import Derived.Test.YtekacbjnpeglhaaDoorRows
import Derived.LaidSub
import Derived.Lib.LaidTab
import Derived.Lib.ItoaNum
import Derived.KernelRfl
/- loop.example/g01062/spec.l6Free as a plain function, and the contract of the program's: where the plain one has an answer, the program has it. Conditions: slices read as lists. -/
namespace Go.Proofs.YtekacbjnpeglhaaDoor.GsL6Free
set_option linter.unusedVariables false
set_option linter.unusedSimpArgs false
open Go.RowKit
open Go.Proofs.YtekacbjnpeglhaaDoor.Rowed Go.Proofs.YtekacbjnpeglhaaDoor.Turn Go.Proofs.YtekacbjnpeglhaaDoor.Aid Go.Proofs.YtekacbjnpeglhaaDoor.GoP Go.Proofs.YtekacbjnpeglhaaDoor.GoM

def l0 (t_bans : (List Go.Proofs.YtekacbjnpeglhaaDoor.PBan.Ban)) (kind : (List Int)) (s : Int) (nx0 bk0 : Int → Option (Bool)) : Option (Bool) :=
  letK s fun i_5l0 =>
  letK (decide (i_5l0 < (t_bans.length : Int))) fun (t_7 : Bool) =>
  iteK t_7
  (Option.bind (idx t_bans i_5l0) fun (yt_11 : Go.Proofs.YtekacbjnpeglhaaDoor.PBan.Ban) =>
  unBan yt_11 fun (t_11_a : Int) (t_11_x : Int) (t_11_b : Int) (t_11_y : Int) =>
  Option.bind (idx kind t_11_a) fun (yt_18 : Int) =>
  letK (yt_18 == t_11_x) fun (t_22 : Bool) =>
  joinK (fun (t_32 : Bool) =>
  iteK t_32
  (some false)
  (letK (IntKind.i64.wrap (i_5l0 + 1)) fun (t_35 : Int) =>
  appK nx0 (t_35))) fun jt_32 => iteK t_22 (Option.bind (idx kind t_11_b) fun (yt_27 : Int) =>
  letK (yt_27 == t_11_y) fun (t_31 : Bool) =>
  appK jt_32 t_31) (appK jt_32 false))
  (appK bk0 (i_5l0))

def e0  (s : Int) : Option (Bool) :=
  letK s fun i_5l0 =>
  some true

def P (fuel : Nat) (t_sizes : (List Int)) (t_bans : (List Go.Proofs.YtekacbjnpeglhaaDoor.PBan.Ban)) (kind : (List Int)) : Option (Bool) :=
  loopK (l0 t_bans kind) fuel (0) (e0 )

set_option maxRecDepth 100000 in
set_option maxHeartbeats 2000000 in
theorem C (fuel : Nat) (t_sizes : (List Int)) (t_bans : (List Go.Proofs.YtekacbjnpeglhaaDoor.PBan.Ban)) (kind : (List Int)) (A0_0 : Option Addr) (c0_0 : Nat) (A0_1 : Option Addr) (c0_1 : Nat) (A1 : Option Addr) (c1 : Nat)  (w : World) (M0_0 : Hid (Cells w 1 A0_0 t_sizes.length (Go.Proofs.YtekacbjnpeglhaaDoor.HelpInt.iv t_sizes))) (N0_0 : Hid (t_sizes.length ≤ 9223372036854775807)) (M0_1 : Hid (Cells w 4 A0_1 t_bans.length (Go.Proofs.YtekacbjnpeglhaaDoor.PBan.flat t_bans))) (N0_1 : Hid (t_bans.length ≤ 9223372036854775807)) (M1 : Hid (Cells w 1 A1 kind.length (Go.Proofs.YtekacbjnpeglhaaDoor.HelpInt.iv kind))) (N1 : Hid (kind.length ≤ 9223372036854775807))  {r : Bool} (H : Hid (P fuel t_sizes t_bans kind = some r)) :
    Calls Tryd.prog 31 #[.agg #[.slice A0_0 t_sizes.length c0_0, .slice A0_1 t_bans.length c0_1], .slice A1 kind.length c1] w (Gives (.bool r) w) := by
  have HB := Lib.hid (Below.refl w.heap.size w)
  unfold P at H
  have N0_0o := N0_0.out
  have N0_1o := N0_1.out
  have N1o := N1.out
  go_enter Tryd.func31, Tryd.ntmps31
  obtain ⟨w_t_0, hw_t_0⟩ : ∃ x, w.alloc (.cells #[.slice A0_0 t_sizes.length c0_0, .slice A0_1 t_bans.length c0_1] 31) = x := ⟨_, rfl⟩
  have bw_t_0 : Below w.heap.size w w_t_0 := by rw [← hw_t_0]; exact (Below.refl _ _).alloc (Nat.le_refl _) _
  have HBw_t_0 := Lib.hid (Below.step HB.out bw_t_0)
  clear bw_t_0
  have kt_0_0 : w_t_0.cell? ⟨w.heap.size, 0, none⟩ = some (.slice A0_0 t_sizes.length c0_0) := by rw [← hw_t_0]; exact box_new _ _ _ 0 _ rfl
  have kt_0_1 : w_t_0.cell? ⟨w.heap.size, 1, none⟩ = some (.slice A0_1 t_bans.length c0_1) := by rw [← hw_t_0]; exact box_new _ _ _ 1 _ rfl
  go_wp2_with fail
  go_loopg [5] (fuel) (fun m_ v5_ wr => ∃ (i_5l0 : Int), v5_ = .int .i64 i_5l0 ∧ Hid (loopK (l0 t_bans kind) m_ (i_5l0) (e0 ) = some r) ∧ Hid (Below w.heap.size w wr) ∧ wr.cell? ⟨w.heap.size, 0, none⟩ = some (.slice A0_0 t_sizes.length c0_0) ∧ wr.cell? ⟨w.heap.size, 1, none⟩ = some (.slice A0_1 t_bans.length c0_1))
  case atStart => exact ⟨_, rfl, H, HBw_t_0, kt_0_0, kt_0_1⟩
  case round =>
    obtain ⟨i_5l0, rfl, H, HBwr0, kt_0_0, kt_0_1⟩ := hrel
    rename World => wr0
    cases gk with
    | zero => exact (loop_zero H).elim
    | succ m0 =>
      replace H := loop_succ H
      unfold l0 at H
      replace H := let_hid H
      obtain ⟨_, rfl, H⟩ := H
      replace H := let_hid H
      obtain ⟨t_7, ht_7, H⟩ := H
      cases t_7 with
      | false =>
        replace H := ite_f H
        replace H := app_hid H
        unfold e0 at H
        replace H := let_hid H
        obtain ⟨_, rfl, H⟩ := H
        obtain rfl := ret_hid H
        go_wp2_with fail
        go_ret
        exact ⟨rfl, HBwr0.out⟩
      | true =>
        replace H := ite_t H
        replace H := idx_hid H
        obtain ⟨nt_11, yt_11, et_11, lt_11, gt_11, H⟩ := H
        subst et_11
        have nc_107 : nt_11 < t_bans.length := by have := of_decide_eq_true ht_7; omega
        obtain ⟨t_11_a, t_11_x, t_11_b, t_11_y⟩ := yt_11
        replace H := unBan_hid H
        obtain ⟨ab_t_11, ao_t_11, zt_11, At_11, z_t_11, ct_11_0, ct_11_1, ct_11_2, ct_11_3⟩ := Go.Proofs.YtekacbjnpeglhaaDoor.OBan.at_ M0_1.out lt_11
        obtain rfl := Option.some.inj (gt_11.out.symm.trans z_t_11)
        subst At_11
        have ltt_11 := cell_lt ct_11_0
        replace ct_11_0 := cell_below HBwr0.out ct_11_0
        replace ct_11_1 := cell_below HBwr0.out ct_11_1
        replace ct_11_2 := cell_below HBwr0.out ct_11_2
        replace ct_11_3 := cell_below HBwr0.out ct_11_3
        clear z_t_11
        have b0t_11 : (0 : Int) ≤ (nt_11 : Int) := by omega
        have b1t_11 : (nt_11 : Int) < ((t_bans.length : Nat) : Int) := by omega
        have b2t_11 : ((nt_11 : Int)).toNat = nt_11 := by omega
        obtain ⟨w_b_13, hw_b_13⟩ : ∃ x, wr0.alloc (.cells #[.int .i64 t_11_a, .int .i64 t_11_x, .int .i64 t_11_b, .int .i64 t_11_y] 63) = x := ⟨_, rfl⟩
        have bw_b_13 : Below wr0.heap.size wr0 w_b_13 := by rw [← hw_b_13]; exact (Below.refl _ _).alloc (Nat.le_refl _) _
        have HBw_b_13 := Lib.hid (Below.step HBwr0.out bw_b_13)
        have kt_0_0__108 := cell_below bw_b_13 kt_0_0
        have kt_0_1__109 := cell_below bw_b_13 kt_0_1
        have ct_11_0__110 := cell_below bw_b_13 ct_11_0
        have ct_11_1__111 := cell_below bw_b_13 ct_11_1
        have ct_11_2__112 := cell_below bw_b_13 ct_11_2
        have ct_11_3__113 := cell_below bw_b_13 ct_11_3
        clear bw_b_13
        have kb_13_0 : w_b_13.cell? ⟨wr0.heap.size, 0, none⟩ = some (.int .i64 t_11_a) := by rw [← hw_b_13]; exact box_new _ _ _ 0 _ rfl
        have kb_13_1 : w_b_13.cell? ⟨wr0.heap.size, 1, none⟩ = some (.int .i64 t_11_x) := by rw [← hw_b_13]; exact box_new _ _ _ 1 _ rfl
        have kb_13_2 : w_b_13.cell? ⟨wr0.heap.size, 2, none⟩ = some (.int .i64 t_11_b) := by rw [← hw_b_13]; exact box_new _ _ _ 2 _ rfl
        have kb_13_3 : w_b_13.cell? ⟨wr0.heap.size, 3, none⟩ = some (.int .i64 t_11_y) := by rw [← hw_b_13]; exact box_new _ _ _ 3 _ rfl
        go_wp2_with fail
        clear kt_0_0 kt_0_1 ct_11_0 ct_11_1 ct_11_2 ct_11_3
        have Hkt_0_0__108 := Lib.hid kt_0_0__108
        replace kt_0_0__108 := cell_regrown kt_0_0__108
        have Hkt_0_1__109 := Lib.hid kt_0_1__109
        replace kt_0_1__109 := cell_regrown kt_0_1__109
        have Hct_11_0__110 := Lib.hid ct_11_0__110
        replace ct_11_0__110 := cell_regrown ct_11_0__110
        have Hct_11_1__111 := Lib.hid ct_11_1__111
        replace ct_11_1__111 := cell_regrown ct_11_1__111
        have Hct_11_2__112 := Lib.hid ct_11_2__112
        replace ct_11_2__112 := cell_regrown ct_11_2__112
        have Hct_11_3__113 := Lib.hid ct_11_3__113
        replace ct_11_3__113 := cell_regrown ct_11_3__113
        have Hkb_13_0 := Lib.hid kb_13_0
        replace kb_13_0 := cell_regrown kb_13_0
        have Hkb_13_1 := Lib.hid kb_13_1
        replace kb_13_1 := cell_regrown kb_13_1
        have Hkb_13_2 := Lib.hid kb_13_2
        replace kb_13_2 := cell_regrown kb_13_2
        have Hkb_13_3 := Lib.hid kb_13_3
        replace kb_13_3 := cell_regrown kb_13_3
        replace H := idx_hid H
        obtain ⟨nt_18, yt_18, et_18, lt_18, gt_18, H⟩ := H
        subst et_18
        obtain ⟨ab_t_18, ao_t_18, zt_18, At_18, z_t_18, ct_18_0⟩ := Go.Proofs.YtekacbjnpeglhaaDoor.HelpInt.Ints.at_ M1.out lt_18
        obtain rfl := Option.some.inj (gt_18.out.symm.trans z_t_18)
        subst At_18
        have ltt_18 := cell_lt ct_18_0
        replace ct_18_0 := cell_below HBw_b_13.out ct_18_0
        clear z_t_18
        have b0t_18 : (0 : Int) ≤ (nt_18 : Int) := by omega
        have b1t_18 : (nt_18 : Int) < ((kind.length : Nat) : Int) := by omega
        have b2t_18 : ((nt_18 : Int)).toNat = nt_18 := by omega
        have Hct_18_0 := Lib.hid ct_18_0
        replace ct_18_0 := cell_regrown ct_18_0
        replace H := let_hid H
        obtain ⟨t_22, ht_22, H⟩ := H
        replace H := join_hid H
        cases t_22 with
        | false =>
          replace H := ite_f H
          replace H := app_hid H
          refine wp_region_quiet_below (by kernel_rfl) (by kernel_rfl) ?_
          repeat (go_big_quiet_step (fail))
          refine wpQuiet_nil ?_
          intro Y5 hY5
          replace hY5 := below_class hY5
          replace kt_0_0__108 := Hkt_0_0__108.out
          clear Hkt_0_0__108
          replace kt_0_1__109 := Hkt_0_1__109.out
          clear Hkt_0_1__109
          replace ct_11_0__110 := Hct_11_0__110.out
          clear Hct_11_0__110
          replace ct_11_1__111 := Hct_11_1__111.out
          clear Hct_11_1__111
          replace ct_11_2__112 := Hct_11_2__112.out
          clear Hct_11_2__112
          replace ct_11_3__113 := Hct_11_3__113.out
          clear Hct_11_3__113
          replace kb_13_0 := Hkb_13_0.out
          clear Hkb_13_0
          replace kb_13_1 := Hkb_13_1.out
          clear Hkb_13_1
          replace kb_13_2 := Hkb_13_2.out
          clear Hkb_13_2
          replace kb_13_3 := Hkb_13_3.out
          clear Hkb_13_3
          replace ct_18_0 := Hct_18_0.out
          clear Hct_18_0
          have HBY5 := Lib.hid (Below.step HBw_b_13.out hY5)
          replace kt_0_0__108 := cell_below hY5 kt_0_0__108
          replace kt_0_1__109 := cell_below hY5 kt_0_1__109
          replace ct_11_0__110 := cell_below hY5 ct_11_0__110
          replace ct_11_1__111 := cell_below hY5 ct_11_1__111
          replace ct_11_2__112 := cell_below hY5 ct_11_2__112
          replace ct_11_3__113 := cell_below hY5 ct_11_3__113
          replace kb_13_0 := cell_below hY5 kb_13_0
          replace kb_13_1 := cell_below hY5 kb_13_1
          replace kb_13_2 := cell_below hY5 kb_13_2
          replace kb_13_3 := cell_below hY5 kb_13_3
          replace ct_18_0 := cell_below hY5 ct_18_0
          clear hY5
          replace H := ite_f H
          replace H := let_hid H
          obtain ⟨t_35, ht_35, H⟩ := H
          replace H := app_hid H
          go_wp2_with fail
          go_roundg m0
          case measure => omega
          case rel => exact ⟨_, rfl, H, HBY5, kt_0_0__108, kt_0_1__109⟩
        | true =>
          replace H := ite_t H
          replace H := idx_hid H
          obtain ⟨nt_27, yt_27, et_27, lt_27, gt_27, H⟩ := H
          subst et_27
          obtain ⟨ab_t_27, ao_t_27, zt_27, At_27, z_t_27, ct_27_0⟩ := Go.Proofs.YtekacbjnpeglhaaDoor.HelpInt.Ints.at_ M1.out lt_27
          obtain rfl := Option.some.inj (gt_27.out.symm.trans z_t_27)
          simp only [Option.some.injEq, Addr.mk.injEq] at At_27
          obtain ⟨rfl, rfl, _⟩ := At_27
          have ltt_27 := cell_lt ct_27_0
          replace ct_27_0 := cell_below HBw_b_13.out ct_27_0
          clear z_t_27
          have b0t_27 : (0 : Int) ≤ (nt_27 : Int) := by omega
          have b1t_27 : (nt_27 : Int) < ((kind.length : Nat) : Int) := by omega
          have b2t_27 : ((nt_27 : Int)).toNat = nt_27 := by omega
          have Hct_27_0 := Lib.hid ct_27_0
          replace ct_27_0 := cell_regrown ct_27_0
          replace H := let_hid H
          obtain ⟨t_31, ht_31, H⟩ := H
          replace H := app_hid H
          refine wp_region_quiet_below (by kernel_rfl) (by kernel_rfl) ?_
          repeat (go_big_quiet_step (fail))
          refine wpQuiet_nil ?_
          intro Y5 hY5
          replace hY5 := below_class hY5
          replace kt_0_0__108 := Hkt_0_0__108.out
          clear Hkt_0_0__108
          replace kt_0_1__109 := Hkt_0_1__109.out
          clear Hkt_0_1__109
          replace ct_11_0__110 := Hct_11_0__110.out
          clear Hct_11_0__110
          replace ct_11_1__111 := Hct_11_1__111.out
          clear Hct_11_1__111
          replace ct_11_2__112 := Hct_11_2__112.out
          clear Hct_11_2__112
          replace ct_11_3__113 := Hct_11_3__113.out
          clear Hct_11_3__113
          replace kb_13_0 := Hkb_13_0.out
          clear Hkb_13_0
          replace kb_13_1 := Hkb_13_1.out
          clear Hkb_13_1
          replace kb_13_2 := Hkb_13_2.out
          clear Hkb_13_2
          replace kb_13_3 := Hkb_13_3.out
          clear Hkb_13_3
          replace ct_18_0 := Hct_18_0.out
          clear Hct_18_0
          replace ct_27_0 := Hct_27_0.out
          clear Hct_27_0
          have HBY5 := Lib.hid (Below.step HBw_b_13.out hY5)
          replace kt_0_0__108 := cell_below hY5 kt_0_0__108
          replace kt_0_1__109 := cell_below hY5 kt_0_1__109
          replace ct_11_0__110 := cell_below hY5 ct_11_0__110
          replace ct_11_1__111 := cell_below hY5 ct_11_1__111
          replace ct_11_2__112 := cell_below hY5 ct_11_2__112
          replace ct_11_3__113 := cell_below hY5 ct_11_3__113
          replace kb_13_0 := cell_below hY5 kb_13_0
          replace kb_13_1 := cell_below hY5 kb_13_1
          replace kb_13_2 := cell_below hY5 kb_13_2
          replace kb_13_3 := cell_below hY5 kb_13_3
          replace ct_18_0 := cell_below hY5 ct_18_0
          replace ct_27_0 := cell_below hY5 ct_27_0
          clear hY5
          cases t_31 with
          | false =>
            replace H := ite_f H
            replace H := let_hid H
            obtain ⟨t_35, ht_35, H⟩ := H
            replace H := app_hid H
            go_wp2_with fail
            go_roundg m0
            case measure => omega
            case rel => exact ⟨_, rfl, H, HBY5, kt_0_0__108, kt_0_1__109⟩
          | true =>
            replace H := ite_t H
            obtain rfl := ret_hid H
            go_wp2_with fail
            go_ret
            exact ⟨rfl, HBY5.out⟩
end Go.Proofs.YtekacbjnpeglhaaDoor.GsL6Free

/- loop.example/g01062/spec.l6Kind as a plain function, and the contract of the program's: where the plain one has an answer, the program has it. Conditions: slices read as lists. -/
namespace Go.Proofs.YtekacbjnpeglhaaDoor.GsL6Kind
set_option linter.unusedVariables false
set_option linter.unusedSimpArgs false
open Go.RowKit
open Go.Proofs.YtekacbjnpeglhaaDoor.Rowed Go.Proofs.YtekacbjnpeglhaaDoor.Turn Go.Proofs.YtekacbjnpeglhaaDoor.Aid Go.Proofs.YtekacbjnpeglhaaDoor.GoP Go.Proofs.YtekacbjnpeglhaaDoor.GoM

def l0 (t_sizes : (List Int)) (kind : (List Int)) (k0 : Nat) (s : Unit) (nx0 bk0 : Unit → Option (Bool)) : Option (Bool) :=
  
  Option.bind (idx kind (k0 : Int)) fun (yt_16 : Int) =>
  Option.bind (idx t_sizes (k0 : Int)) fun (yt_21 : Int) =>
  letK (IntKind.i64.wrap (yt_21 - 1)) fun (t_23 : Int) =>
  Option.bind (Go.Proofs.YtekacbjnpeglhaaDoor.GsL1In.P yt_16 0 t_23) fun (t_24 : Bool) =>
  letK (!t_24) fun (t_25 : Bool) =>
  iteK t_25
  (some false)
  (appK nx0 ())

def e0  (s : Unit) : Option (Bool) :=
  
  some true

def P (t_sizes : (List Int)) (t_bans : (List Go.Proofs.YtekacbjnpeglhaaDoor.PBan.Ban)) (kind : (List Int)) : Option (Bool) :=
  letK ((kind.length : Int) != (t_sizes.length : Int)) fun (t_7 : Bool) =>
  iteK t_7
  (some false)
  (cntK (l0 t_sizes kind) (kind.length) 0 () (e0 ))

set_option maxRecDepth 100000 in
set_option maxHeartbeats 2000000 in
theorem C (t_sizes : (List Int)) (t_bans : (List Go.Proofs.YtekacbjnpeglhaaDoor.PBan.Ban)) (kind : (List Int)) (A0_0 : Option Addr) (c0_0 : Nat) (A0_1 : Option Addr) (c0_1 : Nat) (A1 : Option Addr) (c1 : Nat)  (w : World) (M0_0 : Hid (Cells w 1 A0_0 t_sizes.length (Go.Proofs.YtekacbjnpeglhaaDoor.HelpInt.iv t_sizes))) (N0_0 : Hid (t_sizes.length ≤ 9223372036854775807)) (M0_1 : Hid (Cells w 4 A0_1 t_bans.length (Go.Proofs.YtekacbjnpeglhaaDoor.PBan.flat t_bans))) (N0_1 : Hid (t_bans.length ≤ 9223372036854775807)) (M1 : Hid (Cells w 1 A1 kind.length (Go.Proofs.YtekacbjnpeglhaaDoor.HelpInt.iv kind))) (N1 : Hid (kind.length ≤ 9223372036854775807))  {r : Bool} (H : Hid (P t_sizes t_bans kind = some r)) :
    Calls Tryd.prog 29 #[.agg #[.slice A0_0 t_sizes.length c0_0, .slice A0_1 t_bans.length c0_1], .slice A1 kind.length c1] w (Gives (.bool r) w) := by
  have HB := Lib.hid (Below.refl w.heap.size w)
  unfold P at H
  have N0_0o := N0_0.out
  have N0_1o := N0_1.out
  have N1o := N1.out
  go_enter Tryd.func29, Tryd.ntmps29
  obtain ⟨w_t_0, hw_t_0⟩ : ∃ x, w.alloc (.cells #[.slice A0_0 t_sizes.length c0_0, .slice A0_1 t_bans.length c0_1] 31) = x := ⟨_, rfl⟩
  have bw_t_0 : Below w.heap.size w w_t_0 := by rw [← hw_t_0]; exact (Below.refl _ _).alloc (Nat.le_refl _) _
  have HBw_t_0 := Lib.hid (Below.step HB.out bw_t_0)
  clear bw_t_0
  have kt_0_0 : w_t_0.cell? ⟨w.heap.size, 0, none⟩ = some (.slice A0_0 t_sizes.length c0_0) := by rw [← hw_t_0]; exact box_new _ _ _ 0 _ rfl
  have kt_0_1 : w_t_0.cell? ⟨w.heap.size, 1, none⟩ = some (.slice A0_1 t_bans.length c0_1) := by rw [← hw_t_0]; exact box_new _ _ _ 1 _ rfl
  replace H := let_hid H
  obtain ⟨t_7, ht_7, H⟩ := H
  cases t_7 with
  | false =>
    have Hht_7 : Hid (kind.length = t_sizes.length) := Lib.hid (by have := bne_eq_false_iff_eq.1 ht_7; omega)
    have nht_7 : (kind.length == t_sizes.length) = true := beq_iff_eq.2 Hht_7.out
    replace H := ite_f H
    go_wp2_with fail
    go_loopg [5] (kind.length) (fun m_ v5_ wr => ∃ (k0 : Nat) , k0 + m_ = kind.length ∧ v5_ = .int .i64 (k0 : Int) ∧ Hid (cntK (l0 t_sizes kind) m_ k0 () (e0 ) = some r) ∧ Hid (Below w.heap.size w wr) ∧ wr.cell? ⟨w.heap.size, 0, none⟩ = some (.slice A0_0 t_sizes.length c0_0) ∧ wr.cell? ⟨w.heap.size, 1, none⟩ = some (.slice A0_1 t_bans.length c0_1))
    case atStart => exact ⟨0, by omega, rfl, H, HBw_t_0, kt_0_0, kt_0_1⟩
    case round =>
      obtain ⟨k0, hkm0, rfl, H, HBwr0, kt_0_0, kt_0_1⟩ := hrel
      rename World => wr0
      cases gk with
      | zero =>
        obtain rfl : k0 = kind.length := by omega
        have hc0 : decide (((kind.length : Nat) : Int) < ((kind.length : Nat) : Int)) = false := by simp
        replace H := cnt_zero H
        unfold e0 at H
        obtain rfl := ret_hid H
        go_wp2_with fail
        go_ret
        exact ⟨rfl, HBwr0.out⟩
      | succ m0 =>
        have hlt0 : k0 < kind.length := by omega
        have hc0 : decide ((k0 : Int) < ((kind.length : Nat) : Int)) = true := by simp; omega
        replace H := cnt_succ H
        unfold l0 at H
        go_wp2_with fail
        have Hkt_0_0 := Lib.hid kt_0_0
        replace kt_0_0 := cell_regrown kt_0_0
        have Hkt_0_1 := Lib.hid kt_0_1
        replace kt_0_1 := cell_regrown kt_0_1
        replace H := idx_hid H
        obtain ⟨nt_16, yt_16, et_16, lt_16, gt_16, H⟩ := H
        obtain rfl : k0 = nt_16 := by omega
        clear et_16
        obtain ⟨ab_t_16, ao_t_16, zt_16, At_16, z_t_16, ct_16_0⟩ := Go.Proofs.YtekacbjnpeglhaaDoor.HelpInt.Ints.at_ M1.out lt_16
        obtain rfl := Option.some.inj (gt_16.out.symm.trans z_t_16)
        subst At_16
        have ltt_16 := cell_lt ct_16_0
        replace ct_16_0 := cell_below HBwr0.out ct_16_0
        clear z_t_16
        have b0t_16 : (0 : Int) ≤ (k0 : Int) := by omega
        have b1t_16 : (k0 : Int) < ((kind.length : Nat) : Int) := by omega
        have b2t_16 : ((k0 : Int)).toNat = k0 := by omega
        have Hct_16_0 := Lib.hid ct_16_0
        replace ct_16_0 := cell_regrown ct_16_0
        replace H := idx_hid H
        obtain ⟨nt_21, yt_21, et_21, lt_21, gt_21, H⟩ := H
        obtain rfl : k0 = nt_21 := by omega
        clear et_21
        obtain ⟨ab_t_21, ao_t_21, zt_21, At_21, z_t_21, ct_21_0⟩ := Go.Proofs.YtekacbjnpeglhaaDoor.HelpInt.Ints.at_ M0_0.out lt_21
        obtain rfl := Option.some.inj (gt_21.out.symm.trans z_t_21)
        subst At_21
        have ltt_21 := cell_lt ct_21_0
        replace ct_21_0 := cell_below HBwr0.out ct_21_0
        clear z_t_21
        have b0t_21 : (0 : Int) ≤ (k0 : Int) := by omega
        have b1t_21 : (k0 : Int) < ((t_sizes.length : Nat) : Int) := by omega
        have b2t_21 : ((k0 : Int)).toNat = k0 := by omega
        have Hct_21_0 := Lib.hid ct_21_0
        replace ct_21_0 := cell_regrown ct_21_0
        replace H := let_hid H
        obtain ⟨t_23, ht_23, H⟩ := H
        replace H := bind_hid H
        obtain ⟨t_24, qt_24, H⟩ := H
        have nt_24 : ∀ d os, Calls Tryd.prog 51 #[.int .i64 yt_16, .int .i64 0, .int .i64 t_23] (Go.Sort.grow (redrawn wr0 d) os) fun e w'' => e = .returned (.bool t_24) ∧ ∃ p : Regrown, w'' = Go.Sort.grow (redrawn wr0 p.d) p.os := fun d os => Calls.regrown_of (Go.Proofs.YtekacbjnpeglhaaDoor.GsL1In.C (yt_16) (0) (t_23)  _    qt_24)
        cases t_24 with
        | false =>
          replace H := let_hid H
          obtain ⟨t_25, ht_25, H⟩ := H
          obtain rfl : t_25 = true := ht_25.symm
          refine wp_region_quiet_below (by kernel_rfl) (by kernel_rfl) ?_
          repeat (go_big_quiet_step (first | (go_at_call 51; exact nt_24 _ _)))
          refine wpQuiet_nil ?_
          intro Y6 hY6
          replace hY6 := below_class hY6
          clear nt_24
          replace kt_0_0 := Hkt_0_0.out
          clear Hkt_0_0
          replace kt_0_1 := Hkt_0_1.out
          clear Hkt_0_1
          replace ct_16_0 := Hct_16_0.out
          clear Hct_16_0
          replace ct_21_0 := Hct_21_0.out
          clear Hct_21_0
          have HBY6 := Lib.hid (Below.step HBwr0.out hY6)
          replace kt_0_0 := cell_below hY6 kt_0_0
          replace kt_0_1 := cell_below hY6 kt_0_1
          replace ct_16_0 := cell_below hY6 ct_16_0
          replace ct_21_0 := cell_below hY6 ct_21_0
          clear hY6
          replace H := ite_t H
          obtain rfl := ret_hid H
          go_wp2_with fail
          go_ret
          exact ⟨rfl, HBY6.out⟩
        | true =>
          replace H := let_hid H
          obtain ⟨t_25, ht_25, H⟩ := H
          obtain rfl : t_25 = false := ht_25.symm
          refine wp_region_quiet_below (by kernel_rfl) (by kernel_rfl) ?_
          repeat (go_big_quiet_step (first | (go_at_call 51; exact nt_24 _ _)))
          refine wpQuiet_nil ?_
          intro Y6 hY6
          replace hY6 := below_class hY6
          clear nt_24
          replace kt_0_0 := Hkt_0_0.out
          clear Hkt_0_0
          replace kt_0_1 := Hkt_0_1.out
          clear Hkt_0_1
          replace ct_16_0 := Hct_16_0.out
          clear Hct_16_0
          replace ct_21_0 := Hct_21_0.out
          clear Hct_21_0
          have HBY6 := Lib.hid (Below.step HBwr0.out hY6)
          replace kt_0_0 := cell_below hY6 kt_0_0
          replace kt_0_1 := cell_below hY6 kt_0_1
          replace ct_16_0 := cell_below hY6 ct_16_0
          replace ct_21_0 := cell_below hY6 ct_21_0
          clear hY6
          replace H := ite_f H
          replace H := app_hid H
          go_wp2_with fail
          go_roundg m0
          case measure => omega
          case rel => exact ⟨k0 + 1, by omega, by go_num, H, HBY6, kt_0_0, kt_0_1⟩
  | true =>
    have nht_7 : ¬ (kind.length = t_sizes.length) := by have := bne_iff_ne.1 ht_7; omega
    replace H := ite_t H
    obtain rfl := ret_hid H
    go_wp2_with fail
    go_ret
    exact ⟨rfl, HBw_t_0.out⟩
end Go.Proofs.YtekacbjnpeglhaaDoor.GsL6Kind

/- loop.example/g01062/spec.KindText as a plain function, and the contract of the program's: where the plain one has an answer, the program has it. Conditions: slices read as lists. -/
namespace Go.Proofs.YtekacbjnpeglhaaDoor.GsKindText
set_option linter.unusedVariables false
set_option linter.unusedSimpArgs false
open Go.RowKit
open Go.Proofs.YtekacbjnpeglhaaDoor.Rowed Go.Proofs.YtekacbjnpeglhaaDoor.Turn Go.Proofs.YtekacbjnpeglhaaDoor.Aid Go.Proofs.YtekacbjnpeglhaaDoor.GoP Go.Proofs.YtekacbjnpeglhaaDoor.GoM

def j0 (kind : (List Int)) (nx0 : (ByteArray) → Option (ByteArray × Bool)) (k0 : Nat) (s : ByteArray) : Option (ByteArray × Bool) :=
  Option.bind (idx kind (k0 : Int)) fun (yt_28 : Int) =>
  Option.bind (Go.Proofs.YtekacbjnpeglhaaDoor.GsL1Num.P yt_28) fun (t_30 : ByteArray) =>
  guardK (s.size + t_30.size ≤ maxLen) <|
  letK (s ++ t_30) fun (t_31 : ByteArray) =>
  appK nx0 (t_31)

def l0 (kind : (List Int)) (k0 : Nat) (s : ByteArray) (nx0 bk0 : ByteArray → Option (ByteArray × Bool)) : Option (ByteArray × Bool) :=
  letK s fun s_6l0 =>
  letK (decide (0 < (k0 : Int))) fun (t_21 : Bool) =>
  iteK t_21
  (guardK (s_6l0.size + (⟨#[45]⟩ : ByteArray).size ≤ maxLen) <|
  letK (s_6l0 ++ (⟨#[45]⟩ : ByteArray)) fun (t_23 : ByteArray) =>
  j0 kind nx0 k0 (t_23))
  (j0 kind nx0 k0 (s_6l0))

def j1  (s : ByteArray) : Option (ByteArray × Bool) :=
  some (s, true)

def e0 (t_sizes : (List Int)) (t_bans : (List Go.Proofs.YtekacbjnpeglhaaDoor.PBan.Ban)) (kind : (List Int)) (fuel : Nat) (s : ByteArray) : Option (ByteArray × Bool) :=
  letK s fun s_6l0 =>
  Option.bind (Go.Proofs.YtekacbjnpeglhaaDoor.GsL6Free.P fuel t_sizes t_bans kind) fun (t_38 : Bool) =>
  letK (!t_38) fun (t_39 : Bool) =>
  iteK t_39
  (guardK (s_6l0.size + (⟨#[33]⟩ : ByteArray).size ≤ maxLen) <|
  letK (s_6l0 ++ (⟨#[33]⟩ : ByteArray)) fun (t_41 : ByteArray) =>
  j1  (t_41))
  (j1  (s_6l0))

def P (fuel : Nat) (t_sizes : (List Int)) (t_bans : (List Go.Proofs.YtekacbjnpeglhaaDoor.PBan.Ban)) (kind : (List Int)) : Option (ByteArray × Bool) :=
  Option.bind (Go.Proofs.YtekacbjnpeglhaaDoor.GsL6Good.P fuel t_sizes t_bans) fun (t_4 : Bool) =>
  letK (!t_4) fun (t_5 : Bool) =>
  joinK (fun (t_11 : Bool) =>
  iteK t_11
  (some ((⟨#[]⟩ : ByteArray), false))
  (cntK (l0 kind) (kind.length) 0 ((⟨#[]⟩ : ByteArray)) (e0 t_sizes t_bans kind fuel))) fun jt_11 => iteK t_5 (appK jt_11 true) (Option.bind (Go.Proofs.YtekacbjnpeglhaaDoor.GsL6Kind.P t_sizes t_bans kind) fun (t_9 : Bool) =>
  letK (!t_9) fun (t_10 : Bool) =>
  appK jt_11 t_10)

set_option maxRecDepth 100000 in
set_option maxHeartbeats 2000000 in
theorem C (fuel : Nat) (t_sizes : (List Int)) (t_bans : (List Go.Proofs.YtekacbjnpeglhaaDoor.PBan.Ban)) (kind : (List Int)) (A0_0 : Option Addr) (c0_0 : Nat) (A0_1 : Option Addr) (c0_1 : Nat) (A1 : Option Addr) (c1 : Nat)  (w : World) (M0_0 : Hid (Cells w 1 A0_0 t_sizes.length (Go.Proofs.YtekacbjnpeglhaaDoor.HelpInt.iv t_sizes))) (N0_0 : Hid (t_sizes.length ≤ 9223372036854775807)) (M0_1 : Hid (Cells w 4 A0_1 t_bans.length (Go.Proofs.YtekacbjnpeglhaaDoor.PBan.flat t_bans))) (N0_1 : Hid (t_bans.length ≤ 9223372036854775807)) (M1 : Hid (Cells w 1 A1 kind.length (Go.Proofs.YtekacbjnpeglhaaDoor.HelpInt.iv kind))) (N1 : Hid (kind.length ≤ 9223372036854775807))  {r0 : ByteArray} {r1 : Bool} (H : Hid (P fuel t_sizes t_bans kind = some (r0, r1))) :
    Calls Tryd.prog 6 #[.agg #[.slice A0_0 t_sizes.length c0_0, .slice A0_1 t_bans.length c0_1], .slice A1 kind.length c1] w (Gives (.tuple #[.string r0, .bool r1]) w) := by
  have HB := Lib.hid (Below.refl w.heap.size w)
  unfold P at H
  have N0_0o := N0_0.out
  have N0_1o := N0_1.out
  have N1o := N1.out
  go_enter Tryd.func6, Tryd.ntmps6
  obtain ⟨w_t_0, hw_t_0⟩ : ∃ x, w.alloc (.cells #[.slice A0_0 t_sizes.length c0_0, .slice A0_1 t_bans.length c0_1] 31) = x := ⟨_, rfl⟩
  have bw_t_0 : Below w.heap.size w w_t_0 := by rw [← hw_t_0]; exact (Below.refl _ _).alloc (Nat.le_refl _) _
  have HBw_t_0 := Lib.hid (Below.step HB.out bw_t_0)
  clear bw_t_0
  have kt_0_0 : w_t_0.cell? ⟨w.heap.size, 0, none⟩ = some (.slice A0_0 t_sizes.length c0_0) := by rw [← hw_t_0]; exact box_new _ _ _ 0 _ rfl
  have kt_0_1 : w_t_0.cell? ⟨w.heap.size, 1, none⟩ = some (.slice A0_1 t_bans.length c0_1) := by rw [← hw_t_0]; exact box_new _ _ _ 1 _ rfl
  replace H := bind_hid H
  obtain ⟨t_4, qt_4, H⟩ := H
  go_wp2_with fail
  go_at_call 28
  refine (Go.Proofs.YtekacbjnpeglhaaDoor.GsL6Good.C fuel (t_sizes) (t_bans) A0_0 c0_0 A0_1 c0_1 _   (Lib.hid (Cells.below M0_0.out HBw_t_0.out)) N0_0 (Lib.hid (Cells.below M0_1.out HBw_t_0.out)) N0_1 qt_4).mono ?_
  rintro e_t_4 wt_4 ⟨rfl, bt_4⟩
  have HBwt_4 := Lib.hid (Below.step HBw_t_0.out bt_4)
  replace kt_0_0 := cell_below bt_4 kt_0_0
  replace kt_0_1 := cell_below bt_4 kt_0_1
  clear bt_4
  cases t_4 with
  | false =>
    replace H := let_hid H
    obtain ⟨t_5, ht_5, H⟩ := H
    obtain rfl : t_5 = true := ht_5.symm
    replace H := join_hid H
    replace H := ite_t H
    replace H := app_hid H
    replace H := ite_t H
    cases ret_hid H
    go_wp2_with fail
    go_ret2
    exact ⟨rfl, HBwt_4.out⟩
  | true =>
    replace H := let_hid H
    obtain ⟨t_5, ht_5, H⟩ := H
    obtain rfl : t_5 = false := ht_5.symm
    replace H := join_hid H
    replace H := ite_f H
    replace H := bind_hid H
    obtain ⟨t_9, qt_9, H⟩ := H
    go_wp2_with fail
    go_at_call 29
    refine (Go.Proofs.YtekacbjnpeglhaaDoor.GsL6Kind.C (t_sizes) (t_bans) (kind) A0_0 c0_0 A0_1 c0_1 A1 c1 _   (Lib.hid (Cells.below M0_0.out HBwt_4.out)) N0_0 (Lib.hid (Cells.below M0_1.out HBwt_4.out)) N0_1 (Lib.hid (Cells.below M1.out HBwt_4.out)) N1 qt_9).mono ?_
    rintro e_t_9 wt_9 ⟨rfl, bt_9⟩
    have HBwt_9 := Lib.hid (Below.step HBwt_4.out bt_9)
    replace kt_0_0 := cell_below bt_9 kt_0_0
    replace kt_0_1 := cell_below bt_9 kt_0_1
    clear bt_9
    cases t_9 with
    | false =>
      replace H := let_hid H
      obtain ⟨t_10, ht_10, H⟩ := H
      obtain rfl : t_10 = true := ht_10.symm
      replace H := app_hid H
      replace H := ite_t H
      cases ret_hid H
      go_wp2_with fail
      go_ret2
      exact ⟨rfl, HBwt_9.out⟩
    | true =>
      replace H := let_hid H
      obtain ⟨t_10, ht_10, H⟩ := H
      obtain rfl : t_10 = false := ht_10.symm
      replace H := app_hid H
      replace H := ite_f H
      go_wp2_with fail
      go_loopg [7, 6] (kind.length) (fun m_ v7_ v6_ wr => ∃ (k0 : Nat) (s_6l0 : ByteArray), k0 + m_ = kind.length ∧ v7_ = .int .i64 (k0 : Int) ∧ v6_ = .string s_6l0 ∧ Hid (cntK (l0 kind) m_ k0 (s_6l0) (e0 t_sizes t_bans kind fuel) = some (r0, r1)) ∧ Hid (Below w.heap.size w wr) ∧ wr.cell? ⟨w.heap.size, 0, none⟩ = some (.slice A0_0 t_sizes.length c0_0) ∧ wr.cell? ⟨w.heap.size, 1, none⟩ = some (.slice A0_1 t_bans.length c0_1))
      case atStart => exact ⟨0, _, by omega, rfl, rfl, H, HBwt_9, kt_0_0, kt_0_1⟩
      case round =>
        obtain ⟨k0, s_6l0, hkm0, rfl, rfl, H, HBwr0, kt_0_0, kt_0_1⟩ := hrel
        rename World => wr0
        cases gk with
        | zero =>
          obtain rfl : k0 = kind.length := by omega
          have hc0 : decide (((kind.length : Nat) : Int) < ((kind.length : Nat) : Int)) = false := by simp
          replace H := cnt_zero H
          unfold e0 at H
          replace H := let_hid H
          obtain ⟨_, rfl, H⟩ := H
          replace H := bind_hid H
          obtain ⟨t_38, qt_38, H⟩ := H
          go_wp2_with fail
          go_at_call 31
          refine (Go.Proofs.YtekacbjnpeglhaaDoor.GsL6Free.C fuel (t_sizes) (t_bans) (kind) A0_0 c0_0 A0_1 c0_1 A1 c1 _   (Lib.hid (Cells.below M0_0.out HBwr0.out)) N0_0 (Lib.hid (Cells.below M0_1.out HBwr0.out)) N0_1 (Lib.hid (Cells.below M1.out HBwr0.out)) N1 qt_38).mono ?_
          rintro e_t_38 wt_38 ⟨rfl, bt_38⟩
          have HBwt_38 := Lib.hid (Below.step HBwr0.out bt_38)
          replace kt_0_0 := cell_below bt_38 kt_0_0
          replace kt_0_1 := cell_below bt_38 kt_0_1
          clear bt_38
          cases t_38 with
          | false =>
            replace H := let_hid H
            obtain ⟨t_39, ht_39, H⟩ := H
            obtain rfl : t_39 = true := ht_39.symm
            replace H := ite_t H
            replace H := guard_hid H
            obtain ⟨hl_t_41, H⟩ := H
            replace H := let_hid H
            obtain ⟨t_41, ht_41, H⟩ := H
            have ct_41 := cat_rule (P := Tryd.prog) ht_41 hl_t_41
            clear hl_t_41
            have hht_41 := Lib.hid ht_41
            clear ht_41
            unfold j1 at H
            cases ret_hid H
            go_wp2_with fail
            go_ret2
            exact ⟨rfl, HBwt_38.out⟩
          | true =>
            replace H := let_hid H
            obtain ⟨t_39, ht_39, H⟩ := H
            obtain rfl : t_39 = false := ht_39.symm
            replace H := ite_f H
            unfold j1 at H
            cases ret_hid H
            go_wp2_with fail
            go_ret2
            exact ⟨rfl, HBwt_38.out⟩
        | succ m0 =>
          have hlt0 : k0 < kind.length := by omega
          have hc0 : decide ((k0 : Int) < ((kind.length : Nat) : Int)) = true := by simp; omega
          replace H := cnt_succ H
          unfold l0 at H
          replace H := let_hid H
          obtain ⟨_, rfl, H⟩ := H
          replace H := let_hid H
          obtain ⟨t_21, ht_21, H⟩ := H
          cases t_21 with
          | false =>
            have nht_21 : ¬ (0 < k0) := by have := of_decide_eq_false ht_21; omega
            replace H := ite_f H
            unfold j0 at H
            replace H := idx_hid H
            obtain ⟨nt_28, yt_28, et_28, lt_28, gt_28, H⟩ := H
            obtain rfl : k0 = nt_28 := by omega
            clear et_28
            obtain ⟨ab_t_28, ao_t_28, zt_28, At_28, z_t_28, ct_28_0⟩ := Go.Proofs.YtekacbjnpeglhaaDoor.HelpInt.Ints.at_ M1.out lt_28
            obtain rfl := Option.some.inj (gt_28.out.symm.trans z_t_28)
            subst At_28
            have ltt_28 := cell_lt ct_28_0
            replace ct_28_0 := cell_below HBwr0.out ct_28_0
            clear z_t_28
            have b0t_28 : (0 : Int) ≤ (k0 : Int) := by omega
            have b1t_28 : (k0 : Int) < ((kind.length : Nat) : Int) := by omega
            have b2t_28 : ((k0 : Int)).toNat = k0 := by omega
            replace H := bind_hid H
            obtain ⟨t_30, qt_30, H⟩ := H
            go_wp2_with fail
            go_at_call 30
            refine (Go.Proofs.YtekacbjnpeglhaaDoor.GsL1Num.C (yt_28)  _    qt_30).mono ?_
            rintro e_t_30 wt_30 ⟨rfl, bt_30⟩
            have HBwt_30 := Lib.hid (Below.step HBwr0.out bt_30)
            replace kt_0_0 := cell_below bt_30 kt_0_0
            replace kt_0_1 := cell_below bt_30 kt_0_1
            replace ct_28_0 := cell_below bt_30 ct_28_0
            clear bt_30
            replace H := guard_hid H
            obtain ⟨hl_t_31, H⟩ := H
            replace H := let_hid H
            obtain ⟨t_31, ht_31, H⟩ := H
            have ct_31 := cat_rule (P := Tryd.prog) ht_31 hl_t_31
            clear hl_t_31
            have hht_31 := Lib.hid ht_31
            clear ht_31
            replace H := app_hid H
            go_wp2_with fail
            go_roundg m0
            case measure => omega
            case rel => exact ⟨k0 + 1, _, by omega, by go_num, rfl, H, HBwt_30, kt_0_0, kt_0_1⟩
          | true =>
            have nht_21 : 0 < k0 := by have := of_decide_eq_true ht_21; omega
            replace H := ite_t H
            replace H := guard_hid H
            obtain ⟨hl_t_23, H⟩ := H
            replace H := let_hid H
            obtain ⟨t_23, ht_23, H⟩ := H
            have ct_23 := cat_rule (P := Tryd.prog) ht_23 hl_t_23
            clear hl_t_23
            have hht_23 := Lib.hid ht_23
            clear ht_23
            unfold j0 at H
            replace H := idx_hid H
            obtain ⟨nt_28, yt_28, et_28, lt_28, gt_28, H⟩ := H
            obtain rfl : k0 = nt_28 := by omega
            clear et_28
            obtain ⟨ab_t_28, ao_t_28, zt_28, At_28, z_t_28, ct_28_0⟩ := Go.Proofs.YtekacbjnpeglhaaDoor.HelpInt.Ints.at_ M1.out lt_28
            obtain rfl := Option.some.inj (gt_28.out.symm.trans z_t_28)
            subst At_28
            have ltt_28 := cell_lt ct_28_0
            replace ct_28_0 := cell_below HBwr0.out ct_28_0
            clear z_t_28
            have b0t_28 : (0 : Int) ≤ (k0 : Int) := by omega
            have b1t_28 : (k0 : Int) < ((kind.length : Nat) : Int) := by omega
            have b2t_28 : ((k0 : Int)).toNat = k0 := by omega
            replace H := bind_hid H
            obtain ⟨t_30, qt_30, H⟩ := H
            go_wp2_with fail
            go_at_call 30
            refine (Go.Proofs.YtekacbjnpeglhaaDoor.GsL1Num.C (yt_28)  _    qt_30).mono ?_
            rintro e_t_30 wt_30 ⟨rfl, bt_30⟩
            have HBwt_30 := Lib.hid (Below.step HBwr0.out bt_30)
            replace kt_0_0 := cell_below bt_30 kt_0_0
            replace kt_0_1 := cell_below bt_30 kt_0_1
            replace ct_28_0 := cell_below bt_30 ct_28_0
            clear bt_30
            replace H := guard_hid H
            obtain ⟨hl_t_31, H⟩ := H
            replace H := let_hid H
            obtain ⟨t_31, ht_31, H⟩ := H
            have ct_31 := cat_rule (P := Tryd.prog) ht_31 hl_t_31
            clear hl_t_31
            have hht_31 := Lib.hid ht_31
            clear ht_31
            replace H := app_hid H
            go_wp2_with fail
            go_roundg m0
            case measure => omega
            case rel => exact ⟨k0 + 1, _, by omega, by go_num, rfl, H, HBwt_30, kt_0_0, kt_0_1⟩
end Go.Proofs.YtekacbjnpeglhaaDoor.GsKindText

/- loop.example/g01062/impl.within as a plain function, and the contract of the program's: where the plain one has an answer, the program has it. Conditions: slices read as lists. -/
namespace Go.Proofs.YtekacbjnpeglhaaDoor.GiWithin
set_option linter.unusedVariables false
set_option linter.unusedSimpArgs false
open Go.RowKit
open Go.Proofs.YtekacbjnpeglhaaDoor.Rowed Go.Proofs.YtekacbjnpeglhaaDoor.Turn Go.Proofs.YtekacbjnpeglhaaDoor.Aid Go.Proofs.YtekacbjnpeglhaaDoor.GoP Go.Proofs.YtekacbjnpeglhaaDoor.GoM

def P (n_0 : Int) (low : Int) (high : Int) : Option (Bool) :=
  letK (decide (low ≤ n_0)) fun (t_3 : Bool) =>
  joinK (fun (t_8 : Bool) =>
  some t_8) fun jt_8 => iteK t_3 (letK (decide (n_0 ≤ high)) fun (t_7 : Bool) =>
  appK jt_8 t_7) (appK jt_8 false)

set_option maxRecDepth 100000 in
set_option maxHeartbeats 2000000 in
theorem C (n_0 : Int) (low : Int) (high : Int)   (w : World)   {r : Bool} (H : Hid (P n_0 low high = some r)) :
    Calls Tryd.prog 39 #[.int .i64 n_0, .int .i64 low, .int .i64 high] w (Gives (.bool r) w) := by
  have HB := Lib.hid (Below.refl w.heap.size w)
  unfold P at H
  go_enter Tryd.func39, Tryd.ntmps39
  replace H := let_hid H
  obtain ⟨t_3, ht_3, H⟩ := H
  replace H := join_hid H
  cases t_3 with
  | false =>
    replace H := ite_f H
    replace H := app_hid H
    obtain rfl := ret_hid H
    go_wp2_with fail
    go_ret
    exact ⟨rfl, HB.out⟩
  | true =>
    replace H := ite_t H
    replace H := let_hid H
    obtain ⟨t_7, ht_7, H⟩ := H
    replace H := app_hid H
    obtain rfl := ret_hid H
    go_wp2_with fail
    go_ret
    exact ⟨rfl, HB.out⟩

set_option maxRecDepth 100000 in
set_option maxHeartbeats 2000000 in
theorem C0 (n_0 : Int) (low : Int) (high : Int)   (w : World)   {r : Bool} (H : Hid (P n_0 low high = some r)) :
    Calls Tryd.prog 39 #[.int .i64 n_0, .int .i64 low, .int .i64 high] w (fun e w'' => e = .returned (.bool r) ∧ w'' = w) := by
  have HB := Lib.hid (Below.refl w.heap.size w)
  unfold P at H
  go_enter Tryd.func39, Tryd.ntmps39
  replace H := let_hid H
  obtain ⟨t_3, ht_3, H⟩ := H
  replace H := join_hid H
  cases t_3 with
  | false =>
    replace H := ite_f H
    replace H := app_hid H
    obtain rfl := ret_hid H
    go_wp2_with fail
    go_ret
    exact ⟨rfl, rfl⟩
  | true =>
    replace H := ite_t H
    replace H := let_hid H
    obtain ⟨t_7, ht_7, H⟩ := H
    replace H := app_hid H
    obtain rfl := ret_hid H
    go_wp2_with fail
    go_ret
    exact ⟨rfl, rfl⟩
end Go.Proofs.YtekacbjnpeglhaaDoor.GiWithin

/- loop.example/g01062/impl.hasValue as a plain function, and the contract of the program's: where the plain one has an answer, the program has it. Conditions: slices read as lists. -/
namespace Go.Proofs.YtekacbjnpeglhaaDoor.GiHasValue
set_option linter.unusedVariables false
set_option linter.unusedSimpArgs false
open Go.RowKit
open Go.Proofs.YtekacbjnpeglhaaDoor.Rowed Go.Proofs.YtekacbjnpeglhaaDoor.Turn Go.Proofs.YtekacbjnpeglhaaDoor.Aid Go.Proofs.YtekacbjnpeglhaaDoor.GoP Go.Proofs.YtekacbjnpeglhaaDoor.GoM

def P (sizes : (List Int)) (trait : Int) (value : Int) : Option (Bool) :=
  letK (IntKind.i64.wrap ((sizes.length : Int) - 1)) fun (t_4 : Int) =>
  Option.bind (Go.Proofs.YtekacbjnpeglhaaDoor.GiWithin.P trait 0 t_4) fun (t_5 : Bool) =>
  joinK (fun (t_14 : Bool) =>
  some t_14) fun jt_14 => iteK t_5 (Option.bind (idx sizes trait) fun (yt_10 : Int) =>
  letK (IntKind.i64.wrap (yt_10 - 1)) fun (t_12 : Int) =>
  Option.bind (Go.Proofs.YtekacbjnpeglhaaDoor.GiWithin.P value 0 t_12) fun (t_13 : Bool) =>
  appK jt_14 t_13) (appK jt_14 false)

set_option maxRecDepth 100000 in
set_option maxHeartbeats 2000000 in
theorem C (sizes : (List Int)) (trait : Int) (value : Int) (A0 : Option Addr) (c0 : Nat)  (w : World) (M0 : Hid (Cells w 1 A0 sizes.length (Go.Proofs.YtekacbjnpeglhaaDoor.HelpInt.iv sizes))) (N0 : Hid (sizes.length ≤ 9223372036854775807))  {r : Bool} (H : Hid (P sizes trait value = some r)) :
    Calls Tryd.prog 63 #[.slice A0 sizes.length c0, .int .i64 trait, .int .i64 value] w (Gives (.bool r) w) := by
  have HB := Lib.hid (Below.refl w.heap.size w)
  unfold P at H
  have N0o := N0.out
  go_enter Tryd.func63, Tryd.ntmps63
  replace H := let_hid H
  obtain ⟨t_4, ht_4, H⟩ := H
  try have hv_t_4 : (sizes.length : Int) - 1 = t_4 := by rw [← ht_4]; exact (IntWalk.i64_in _ (by omega)).symm
  try have hv2_t_4 : IntKind.i64.wrap t_4 = t_4 := by rw [← hv_t_4]; exact IntWalk.i64_in _ (by omega)
  replace H := bind_hid H
  obtain ⟨t_5, qt_5, H⟩ := H
  go_wp2_with fail
  go_at_call 39
  refine (Go.Proofs.YtekacbjnpeglhaaDoor.GiWithin.C (trait) (0) (t_4)  _    qt_5).mono ?_
  rintro e_t_5 wt_5 ⟨rfl, bt_5⟩
  have HBwt_5 := Lib.hid (Below.step HB.out bt_5)
  clear bt_5
  replace H := join_hid H
  cases t_5 with
  | false =>
    replace H := ite_f H
    replace H := app_hid H
    obtain rfl := ret_hid H
    go_wp2_with fail
    go_ret
    exact ⟨rfl, HBwt_5.out⟩
  | true =>
    replace H := ite_t H
    replace H := idx_hid H
    obtain ⟨nt_10, yt_10, et_10, lt_10, gt_10, H⟩ := H
    subst et_10
    obtain ⟨ab_t_10, ao_t_10, zt_10, At_10, z_t_10, ct_10_0⟩ := Go.Proofs.YtekacbjnpeglhaaDoor.HelpInt.Ints.at_ M0.out lt_10
    obtain rfl := Option.some.inj (gt_10.out.symm.trans z_t_10)
    subst At_10
    have ltt_10 := cell_lt ct_10_0
    replace ct_10_0 := cell_below HBwt_5.out ct_10_0
    clear z_t_10
    have b0t_10 : (0 : Int) ≤ (nt_10 : Int) := by omega
    have b1t_10 : (nt_10 : Int) < ((sizes.length : Nat) : Int) := by omega
    have b2t_10 : ((nt_10 : Int)).toNat = nt_10 := by omega
    replace H := let_hid H
    obtain ⟨t_12, ht_12, H⟩ := H
    replace H := bind_hid H
    obtain ⟨t_13, qt_13, H⟩ := H
    go_wp2_with fail
    go_at_call 39
    refine (Go.Proofs.YtekacbjnpeglhaaDoor.GiWithin.C (value) (0) (t_12)  _    qt_13).mono ?_
    rintro e_t_13 wt_13 ⟨rfl, bt_13⟩
    have HBwt_13 := Lib.hid (Below.step HBwt_5.out bt_13)
    replace ct_10_0 := cell_below bt_13 ct_10_0
    clear bt_13
    replace H := app_hid H
    obtain rfl := ret_hid H
    go_wp2_with fail
    go_ret
    exact ⟨rfl, HBwt_13.out⟩
end Go.Proofs.YtekacbjnpeglhaaDoor.GiHasValue

/- loop.example/g01062/impl.isBan as a plain function, and the contract of the program's: where the plain one has an answer, the program has it. Conditions: slices read as lists. -/
namespace Go.Proofs.YtekacbjnpeglhaaDoor.GiIsBan
set_option linter.unusedVariables false
set_option linter.unusedSimpArgs false
open Go.RowKit
open Go.Proofs.YtekacbjnpeglhaaDoor.Rowed Go.Proofs.YtekacbjnpeglhaaDoor.Turn Go.Proofs.YtekacbjnpeglhaaDoor.Aid Go.Proofs.YtekacbjnpeglhaaDoor.GoP Go.Proofs.YtekacbjnpeglhaaDoor.GoM

def P (sizes : (List Int)) (b : Go.Proofs.YtekacbjnpeglhaaDoor.PBan.Ban) : Option (Bool) :=
  unBan b fun (b_a : Int) (b_x : Int) (b_b : Int) (b_y : Int) =>
  letK (decide (b_a < b_b)) fun (t_6 : Bool) =>
  joinK (fun (t_14 : Bool) =>
  joinK (fun (t_22 : Bool) =>
  some t_22) fun jt_22 => iteK t_14 (Option.bind (Go.Proofs.YtekacbjnpeglhaaDoor.GiHasValue.P sizes b_b b_y) fun (t_21 : Bool) =>
  appK jt_22 t_21) (appK jt_22 false)) fun jt_14 => iteK t_6 (Option.bind (Go.Proofs.YtekacbjnpeglhaaDoor.GiHasValue.P sizes b_a b_x) fun (t_13 : Bool) =>
  appK jt_14 t_13) (appK jt_14 false)

set_option maxRecDepth 100000 in
set_option maxHeartbeats 2000000 in
theorem C (sizes : (List Int)) (b : Go.Proofs.YtekacbjnpeglhaaDoor.PBan.Ban) (A0 : Option Addr) (c0 : Nat)  (w : World) (M0 : Hid (Cells w 1 A0 sizes.length (Go.Proofs.YtekacbjnpeglhaaDoor.HelpInt.iv sizes))) (N0 : Hid (sizes.length ≤ 9223372036854775807))  {r : Bool} (H : Hid (P sizes b = some r)) :
    Calls Tryd.prog 40 #[.slice A0 sizes.length c0, b.val] w (Gives (.bool r) w) := by
  have HB := Lib.hid (Below.refl w.heap.size w)
  unfold P at H
  obtain ⟨b_a, b_x, b_b, b_y⟩ := b
  replace H := unBan_hid H
  unfold Go.Proofs.YtekacbjnpeglhaaDoor.PBan.Ban.val
  have N0o := N0.out
  go_enter Tryd.func40, Tryd.ntmps40
  obtain ⟨w_b_0, hw_b_0⟩ : ∃ x, w.alloc (.cells #[.int .i64 b_a, .int .i64 b_x, .int .i64 b_b, .int .i64 b_y] 63) = x := ⟨_, rfl⟩
  have bw_b_0 : Below w.heap.size w w_b_0 := by rw [← hw_b_0]; exact (Below.refl _ _).alloc (Nat.le_refl _) _
  have HBw_b_0 := Lib.hid (Below.step HB.out bw_b_0)
  clear bw_b_0
  have kb_0_0 : w_b_0.cell? ⟨w.heap.size, 0, none⟩ = some (.int .i64 b_a) := by rw [← hw_b_0]; exact box_new _ _ _ 0 _ rfl
  have kb_0_1 : w_b_0.cell? ⟨w.heap.size, 1, none⟩ = some (.int .i64 b_x) := by rw [← hw_b_0]; exact box_new _ _ _ 1 _ rfl
  have kb_0_2 : w_b_0.cell? ⟨w.heap.size, 2, none⟩ = some (.int .i64 b_b) := by rw [← hw_b_0]; exact box_new _ _ _ 2 _ rfl
  have kb_0_3 : w_b_0.cell? ⟨w.heap.size, 3, none⟩ = some (.int .i64 b_y) := by rw [← hw_b_0]; exact box_new _ _ _ 3 _ rfl
  replace H := let_hid H
  obtain ⟨t_6, ht_6, H⟩ := H
  replace H := join_hid H
  cases t_6 with
  | false =>
    replace H := ite_f H
    replace H := app_hid H
    replace H := join_hid H
    replace H := ite_f H
    replace H := app_hid H
    obtain rfl := ret_hid H
    go_wp2_with fail
    go_ret
    exact ⟨rfl, HBw_b_0.out⟩
  | true =>
    replace H := ite_t H
    replace H := bind_hid H
    obtain ⟨t_13, qt_13, H⟩ := H
    go_wp2_with fail
    go_at_call 63
    refine (Go.Proofs.YtekacbjnpeglhaaDoor.GiHasValue.C (sizes) (b_a) (b_x) A0 c0 _   (Lib.hid (Cells.below M0.out HBw_b_0.out)) N0 qt_13).mono ?_
    rintro e_t_13 wt_13 ⟨rfl, bt_13⟩
    have HBwt_13 := Lib.hid (Below.step HBw_b_0.out bt_13)
    replace kb_0_0 := cell_below bt_13 kb_0_0
    replace kb_0_1 := cell_below bt_13 kb_0_1
    replace kb_0_2 := cell_below bt_13 kb_0_2
    replace kb_0_3 := cell_below bt_13 kb_0_3
    clear bt_13
    replace H := app_hid H
    replace H := join_hid H
    cases t_13 with
    | false =>
      replace H := ite_f H
      replace H := app_hid H
      obtain rfl := ret_hid H
      go_wp2_with fail
      go_ret
      exact ⟨rfl, HBwt_13.out⟩
    | true =>
      replace H := ite_t H
      replace H := bind_hid H
      obtain ⟨t_21, qt_21, H⟩ := H
      go_wp2_with fail
      go_at_call 63
      refine (Go.Proofs.YtekacbjnpeglhaaDoor.GiHasValue.C (sizes) (b_b) (b_y) A0 c0 _   (Lib.hid (Cells.below M0.out HBwt_13.out)) N0 qt_21).mono ?_
      rintro e_t_21 wt_21 ⟨rfl, bt_21⟩
      have HBwt_21 := Lib.hid (Below.step HBwt_13.out bt_21)
      replace kb_0_0 := cell_below bt_21 kb_0_0
      replace kb_0_1 := cell_below bt_21 kb_0_1
      replace kb_0_2 := cell_below bt_21 kb_0_2
      replace kb_0_3 := cell_below bt_21 kb_0_3
      clear bt_21
      replace H := app_hid H
      obtain rfl := ret_hid H
      go_wp2_with fail
      go_ret
      exact ⟨rfl, HBwt_21.out⟩
end Go.Proofs.YtekacbjnpeglhaaDoor.GiIsBan

/- cmp.isNaN[int] as a plain function, and the contract of the program's: where the plain one has an answer, the program has it. Conditions: slices read as lists. -/
namespace Go.Proofs.YtekacbjnpeglhaaDoor.GxCmpIsNaNInt
set_option linter.unusedVariables false
set_option linter.unusedSimpArgs false
open Go.RowKit
open Go.Proofs.YtekacbjnpeglhaaDoor.Rowed Go.Proofs.YtekacbjnpeglhaaDoor.Turn Go.Proofs.YtekacbjnpeglhaaDoor.Aid Go.Proofs.YtekacbjnpeglhaaDoor.GoP Go.Proofs.YtekacbjnpeglhaaDoor.GoM

def P (x : Int) : Option (Bool) :=
  some false

set_option maxRecDepth 100000 in
set_option maxHeartbeats 2000000 in
theorem C (x : Int)   (w : World)   {r : Bool} (H : Hid (P x = some r)) :
    Calls Tryd.prog 77 #[.int .i64 x] w (Gives (.bool r) w) := by
  have HB := Lib.hid (Below.refl w.heap.size w)
  unfold P at H
  go_enter Tryd.func77, Tryd.ntmps77
  obtain rfl := ret_hid H
  go_wp2_with fail
  go_ret
  exact ⟨rfl, HB.out⟩

set_option maxRecDepth 100000 in
set_option maxHeartbeats 2000000 in
theorem C0 (x : Int)   (w : World)   {r : Bool} (H : Hid (P x = some r)) :
    Calls Tryd.prog 77 #[.int .i64 x] w (fun e w'' => e = .returned (.bool r) ∧ w'' = w) := by
  have HB := Lib.hid (Below.refl w.heap.size w)
  unfold P at H
  go_enter Tryd.func77, Tryd.ntmps77
  obtain rfl := ret_hid H
  go_wp2_with fail
  go_ret
  exact ⟨rfl, rfl⟩
end Go.Proofs.YtekacbjnpeglhaaDoor.GxCmpIsNaNInt

/- cmp.Compare[int] as a plain function, and the contract of the program's: where the plain one has an answer, the program has it. Conditions: slices read as lists. -/
namespace Go.Proofs.YtekacbjnpeglhaaDoor.GxCmpCompareInt
set_option linter.unusedVariables false
set_option linter.unusedSimpArgs false
open Go.RowKit
open Go.Proofs.YtekacbjnpeglhaaDoor.Rowed Go.Proofs.YtekacbjnpeglhaaDoor.Turn Go.Proofs.YtekacbjnpeglhaaDoor.Aid Go.Proofs.YtekacbjnpeglhaaDoor.GoP Go.Proofs.YtekacbjnpeglhaaDoor.GoM

def P (x : Int) (y : Int) : Option (Int) :=
  Option.bind (Go.Proofs.YtekacbjnpeglhaaDoor.GxCmpIsNaNInt.P x) fun (t_2 : Bool) =>
  Option.bind (Go.Proofs.YtekacbjnpeglhaaDoor.GxCmpIsNaNInt.P y) fun (t_5 : Bool) =>
  iteK t_2
  (iteK t_5
  (some 0)
  (some (-1)))
  (iteK t_5
  (some 1)
  (letK (decide (x < y)) fun (t_15 : Bool) =>
  iteK t_15
  (some (-1))
  (letK (decide (y < x)) fun (t_19 : Bool) =>
  iteK t_19
  (some 1)
  (some 0))))

set_option maxRecDepth 100000 in
set_option maxHeartbeats 2000000 in
theorem C (x : Int) (y : Int)   (w : World)   {r : Int} (H : Hid (P x y = some r)) :
    Calls Tryd.prog 65 #[.int .i64 x, .int .i64 y] w (Gives (.int .i64 r) w) := by
  have HB := Lib.hid (Below.refl w.heap.size w)
  unfold P at H
  go_enter Tryd.func65, Tryd.ntmps65
  replace H := bind_hid H
  obtain ⟨t_2, qt_2, H⟩ := H
  go_wp2_with fail
  go_at_call 77
  refine (Go.Proofs.YtekacbjnpeglhaaDoor.GxCmpIsNaNInt.C (x)  _    qt_2).mono ?_
  rintro e_t_2 wt_2 ⟨rfl, bt_2⟩
  have HBwt_2 := Lib.hid (Below.step HB.out bt_2)
  clear bt_2
  replace H := bind_hid H
  obtain ⟨t_5, qt_5, H⟩ := H
  go_wp2_with fail
  go_at_call 77
  refine (Go.Proofs.YtekacbjnpeglhaaDoor.GxCmpIsNaNInt.C (y)  _    qt_5).mono ?_
  rintro e_t_5 wt_5 ⟨rfl, bt_5⟩
  have HBwt_5 := Lib.hid (Below.step HBwt_2.out bt_5)
  clear bt_5
  cases t_2 with
  | false =>
    replace H := ite_f H
    cases t_5 with
    | false =>
      replace H := ite_f H
      replace H := let_hid H
      obtain ⟨t_15, ht_15, H⟩ := H
      cases t_15 with
      | false =>
        replace H := ite_f H
        replace H := let_hid H
        obtain ⟨t_19, ht_19, H⟩ := H
        cases t_19 with
        | false =>
          replace H := ite_f H
          obtain rfl := ret_hid H
          go_wp2_with fail
          go_ret
          exact ⟨rfl, HBwt_5.out⟩
        | true =>
          replace H := ite_t H
          obtain rfl := ret_hid H
          go_wp2_with fail
          go_ret
          exact ⟨rfl, HBwt_5.out⟩
      | true =>
        replace H := ite_t H
        obtain rfl := ret_hid H
        go_wp2_with fail
        go_ret
        exact ⟨rfl, HBwt_5.out⟩
    | true =>
      replace H := ite_t H
      obtain rfl := ret_hid H
      go_wp2_with fail
      go_ret
      exact ⟨rfl, HBwt_5.out⟩
  | true =>
    replace H := ite_t H
    cases t_5 with
    | false =>
      replace H := ite_f H
      obtain rfl := ret_hid H
      go_wp2_with fail
      go_ret
      exact ⟨rfl, HBwt_5.out⟩
    | true =>
      replace H := ite_t H
      obtain rfl := ret_hid H
      go_wp2_with fail
      go_ret
      exact ⟨rfl, HBwt_5.out⟩
end Go.Proofs.YtekacbjnpeglhaaDoor.GxCmpCompareInt

/- cmp.Or[int] as a plain function, and the contract of the program's: where the plain one has an answer, the program has it. Conditions: slices read as lists. -/
namespace Go.Proofs.YtekacbjnpeglhaaDoor.GxCmpOrInt
set_option linter.unusedVariables false
set_option linter.unusedSimpArgs false
open Go.RowKit
open Go.Proofs.YtekacbjnpeglhaaDoor.Rowed Go.Proofs.YtekacbjnpeglhaaDoor.Turn Go.Proofs.YtekacbjnpeglhaaDoor.Aid Go.Proofs.YtekacbjnpeglhaaDoor.GoP Go.Proofs.YtekacbjnpeglhaaDoor.GoM

def l0 (vals : (List Int)) (k0 : Nat) (s : Unit) (nx0 bk0 : Unit → Option (Int)) : Option (Int) :=
  
  Option.bind (idx vals (k0 : Int)) fun (yt_6 : Int) =>
  letK (yt_6 != 0) fun (t_11 : Bool) =>
  iteK t_11
  (some yt_6)
  (appK nx0 ())

def e0  (s : Unit) : Option (Int) :=
  
  some 0

def P (vals : (List Int)) : Option (Int) :=
  cntK (l0 vals) (vals.length) 0 () (e0 )

set_option maxRecDepth 100000 in
set_option maxHeartbeats 2000000 in
theorem C (vals : (List Int)) (A0 : Option Addr) (c0 : Nat)  (w : World) (M0 : Hid (Cells w 1 A0 vals.length (Go.Proofs.YtekacbjnpeglhaaDoor.HelpInt.iv vals))) (N0 : Hid (vals.length ≤ 9223372036854775807))  {r : Int} (H : Hid (P vals = some r)) :
    Calls Tryd.prog 64 #[.slice A0 vals.length c0] w (Gives (.int .i64 r) w) := by
  have HB := Lib.hid (Below.refl w.heap.size w)
  unfold P at H
  have N0o := N0.out
  go_enter Tryd.func64, Tryd.ntmps64
  go_wp2_with fail
  go_loopg [8] (vals.length) (fun m_ v8_ wr => ∃ (k0 : Nat) , k0 + m_ = vals.length ∧ v8_ = .int .i64 (k0 : Int) ∧ Hid (cntK (l0 vals) m_ k0 () (e0 ) = some r) ∧ Hid (Below w.heap.size w wr))
  case atStart => exact ⟨0, by omega, rfl, H, HB⟩
  case round =>
    obtain ⟨k0, hkm0, rfl, H, HBwr0⟩ := hrel
    rename World => wr0
    cases gk with
    | zero =>
      obtain rfl : k0 = vals.length := by omega
      have hc0 : decide (((vals.length : Nat) : Int) < ((vals.length : Nat) : Int)) = false := by simp
      replace H := cnt_zero H
      unfold e0 at H
      obtain rfl := ret_hid H
      go_wp2_with fail
      go_ret
      exact ⟨rfl, HBwr0.out⟩
    | succ m0 =>
      have hlt0 : k0 < vals.length := by omega
      have hc0 : decide ((k0 : Int) < ((vals.length : Nat) : Int)) = true := by simp; omega
      replace H := cnt_succ H
      unfold l0 at H
      replace H := idx_hid H
      obtain ⟨nt_6, yt_6, et_6, lt_6, gt_6, H⟩ := H
      obtain rfl : k0 = nt_6 := by omega
      clear et_6
      obtain ⟨ab_t_6, ao_t_6, zt_6, At_6, z_t_6, ct_6_0⟩ := Go.Proofs.YtekacbjnpeglhaaDoor.HelpInt.Ints.at_ M0.out lt_6
      obtain rfl := Option.some.inj (gt_6.out.symm.trans z_t_6)
      subst At_6
      have ltt_6 := cell_lt ct_6_0
      replace ct_6_0 := cell_below HBwr0.out ct_6_0
      clear z_t_6
      have b0t_6 : (0 : Int) ≤ (k0 : Int) := by omega
      have b1t_6 : (k0 : Int) < ((vals.length : Nat) : Int) := by omega
      have b2t_6 : ((k0 : Int)).toNat = k0 := by omega
      replace H := let_hid H
      obtain ⟨t_11, ht_11, H⟩ := H
      cases t_11 with
      | false =>
        replace H := ite_f H
        replace H := app_hid H
        go_wp2_with fail
        go_roundg m0
        case measure => omega
        case rel => exact ⟨k0 + 1, by omega, by go_num, H, HBwr0⟩
      | true =>
        replace H := ite_t H
        obtain rfl := ret_hid H
        go_wp2_with fail
        go_ret
        exact ⟨rfl, HBwr0.out⟩
end Go.Proofs.YtekacbjnpeglhaaDoor.GxCmpOrInt

/- loop.example/g01062/impl.compareBans as a plain function, and the contract of the program's: where the plain one has an answer, the program has it. Conditions: slices read as lists. -/
namespace Go.Proofs.YtekacbjnpeglhaaDoor.GiCompareBans
set_option linter.unusedVariables false
set_option linter.unusedSimpArgs false
open Go.RowKit
open Go.Proofs.YtekacbjnpeglhaaDoor.Rowed Go.Proofs.YtekacbjnpeglhaaDoor.Turn Go.Proofs.YtekacbjnpeglhaaDoor.Aid Go.Proofs.YtekacbjnpeglhaaDoor.GoP Go.Proofs.YtekacbjnpeglhaaDoor.GoM

def P (a : Go.Proofs.YtekacbjnpeglhaaDoor.PBan.Ban) (b : Go.Proofs.YtekacbjnpeglhaaDoor.PBan.Ban) : Option (Int) :=
  unBan a fun (a_a : Int) (a_x : Int) (a_b : Int) (a_y : Int) =>
  unBan b fun (b_a : Int) (b_x : Int) (b_b : Int) (b_y : Int) =>
  Option.bind (Go.Proofs.YtekacbjnpeglhaaDoor.GxCmpCompareInt.P a_a b_a) fun (t_7 : Int) =>
  Option.bind (Go.Proofs.YtekacbjnpeglhaaDoor.GxCmpCompareInt.P a_x b_x) fun (t_12 : Int) =>
  Option.bind (Go.Proofs.YtekacbjnpeglhaaDoor.GxCmpCompareInt.P a_b b_b) fun (t_17 : Int) =>
  Option.bind (Go.Proofs.YtekacbjnpeglhaaDoor.GxCmpCompareInt.P a_y b_y) fun (t_22 : Int) =>
  letK ([t_7, t_12, t_17, t_22]) fun (t_23 : (List Int)) =>
  Option.bind (Go.Proofs.YtekacbjnpeglhaaDoor.GxCmpOrInt.P t_23) fun (t_24 : Int) =>
  some t_24

set_option maxRecDepth 100000 in
set_option maxHeartbeats 2000000 in
theorem C (a : Go.Proofs.YtekacbjnpeglhaaDoor.PBan.Ban) (b : Go.Proofs.YtekacbjnpeglhaaDoor.PBan.Ban)   (w : World)   {r : Int} (H : Hid (P a b = some r)) :
    Calls Tryd.prog 41 #[a.val, b.val] w (Gives (.int .i64 r) w) := by
  have HB := Lib.hid (Below.refl w.heap.size w)
  unfold P at H
  obtain ⟨a_a, a_x, a_b, a_y⟩ := a
  replace H := unBan_hid H
  obtain ⟨b_a, b_x, b_b, b_y⟩ := b
  replace H := unBan_hid H
  unfold Go.Proofs.YtekacbjnpeglhaaDoor.PBan.Ban.val
  go_enter Tryd.func41, Tryd.ntmps41
  obtain ⟨w_a_0, hw_a_0⟩ : ∃ x, w.alloc (.cells #[.int .i64 a_a, .int .i64 a_x, .int .i64 a_b, .int .i64 a_y] 63) = x := ⟨_, rfl⟩
  have bw_a_0 : Below w.heap.size w w_a_0 := by rw [← hw_a_0]; exact (Below.refl _ _).alloc (Nat.le_refl _) _
  have HBw_a_0 := Lib.hid (Below.step HB.out bw_a_0)
  clear bw_a_0
  have ka_0_0 : w_a_0.cell? ⟨w.heap.size, 0, none⟩ = some (.int .i64 a_a) := by rw [← hw_a_0]; exact box_new _ _ _ 0 _ rfl
  have ka_0_1 : w_a_0.cell? ⟨w.heap.size, 1, none⟩ = some (.int .i64 a_x) := by rw [← hw_a_0]; exact box_new _ _ _ 1 _ rfl
  have ka_0_2 : w_a_0.cell? ⟨w.heap.size, 2, none⟩ = some (.int .i64 a_b) := by rw [← hw_a_0]; exact box_new _ _ _ 2 _ rfl
  have ka_0_3 : w_a_0.cell? ⟨w.heap.size, 3, none⟩ = some (.int .i64 a_y) := by rw [← hw_a_0]; exact box_new _ _ _ 3 _ rfl
  obtain ⟨w_b_1, hw_b_1⟩ : ∃ x, w_a_0.alloc (.cells #[.int .i64 b_a, .int .i64 b_x, .int .i64 b_b, .int .i64 b_y] 63) = x := ⟨_, rfl⟩
  have bw_b_1 : Below w_a_0.heap.size w_a_0 w_b_1 := by rw [← hw_b_1]; exact (Below.refl _ _).alloc (Nat.le_refl _) _
  have HBw_b_1 := Lib.hid (Below.step HBw_a_0.out bw_b_1)
  have ka_0_0__114 := cell_below bw_b_1 ka_0_0
  have ka_0_1__115 := cell_below bw_b_1 ka_0_1
  have ka_0_2__116 := cell_below bw_b_1 ka_0_2
  have ka_0_3__117 := cell_below bw_b_1 ka_0_3
  clear bw_b_1
  have kb_1_0 : w_b_1.cell? ⟨w_a_0.heap.size, 0, none⟩ = some (.int .i64 b_a) := by rw [← hw_b_1]; exact box_new _ _ _ 0 _ rfl
  have kb_1_1 : w_b_1.cell? ⟨w_a_0.heap.size, 1, none⟩ = some (.int .i64 b_x) := by rw [← hw_b_1]; exact box_new _ _ _ 1 _ rfl
  have kb_1_2 : w_b_1.cell? ⟨w_a_0.heap.size, 2, none⟩ = some (.int .i64 b_b) := by rw [← hw_b_1]; exact box_new _ _ _ 2 _ rfl
  have kb_1_3 : w_b_1.cell? ⟨w_a_0.heap.size, 3, none⟩ = some (.int .i64 b_y) := by rw [← hw_b_1]; exact box_new _ _ _ 3 _ rfl
  go_wp2_with fail
  clear ka_0_0 ka_0_1 ka_0_2 ka_0_3
  have bd1 : Below w_b_1.heap.size w_b_1 w_b_1.drew := (Below.refl _ _).drew
  have HBw_b_1.drew := Lib.hid (Below.step HBw_b_1.out bd1)
  replace ka_0_0__114 := cell_below bd1 ka_0_0__114
  replace ka_0_1__115 := cell_below bd1 ka_0_1__115
  replace ka_0_2__116 := cell_below bd1 ka_0_2__116
  replace ka_0_3__117 := cell_below bd1 ka_0_3__117
  replace kb_1_0 := cell_below bd1 kb_1_0
  replace kb_1_1 := cell_below bd1 kb_1_1
  replace kb_1_2 := cell_below bd1 kb_1_2
  replace kb_1_3 := cell_below bd1 kb_1_3
  clear bd1
  replace H := bind_hid H
  obtain ⟨t_7, qt_7, H⟩ := H
  replace H := bind_hid H
  obtain ⟨t_12, qt_12, H⟩ := H
  replace H := bind_hid H
  obtain ⟨t_17, qt_17, H⟩ := H
  replace H := bind_hid H
  obtain ⟨t_22, qt_22, H⟩ := H
  replace H := let_hid H
  obtain ⟨t_23, ht_23, H⟩ := H
  replace H := bind_hid H
  obtain ⟨t_24, qt_24, H⟩ := H
  go_region_held3 (fun w' => w'.cell? ⟨w.heap.size, 0, none⟩ = some (.int .i64 a_a) ∧ w'.cell? ⟨w.heap.size, 1, none⟩ = some (.int .i64 a_x) ∧ w'.cell? ⟨w.heap.size, 2, none⟩ = some (.int .i64 a_b) ∧ w'.cell? ⟨w.heap.size, 3, none⟩ = some (.int .i64 a_y) ∧ w'.cell? ⟨w_a_0.heap.size, 0, none⟩ = some (.int .i64 b_a) ∧ w'.cell? ⟨w_a_0.heap.size, 1, none⟩ = some (.int .i64 b_x) ∧ w'.cell? ⟨w_a_0.heap.size, 2, none⟩ = some (.int .i64 b_b) ∧ w'.cell? ⟨w_a_0.heap.size, 3, none⟩ = some (.int .i64 b_y)) (first | exact ⟨ka_0_0__114, ka_0_1__115, ka_0_2__116, ka_0_3__117, kb_1_0, kb_1_1, kb_1_2, kb_1_3⟩ | exact ⟨ka_0_0__118, ka_0_1__119, ka_0_2__120, ka_0_3__121, kb_1_0__122, kb_1_1__123, kb_1_2__124, kb_1_3__125⟩)
      (first
        | (go_at_call 65
           refine (Go.Proofs.YtekacbjnpeglhaaDoor.GxCmpCompareInt.C (a_a) (b_a)  _    qt_7).mono ?_
           rintro e_t_7 wt_7 ⟨rfl, bt_7⟩
           have HBwt_7 := Lib.hid (Below.step HBw_b_1.drew.out bt_7)
           replace ka_0_0__114 := cell_below bt_7 ka_0_0__114
           replace ka_0_1__115 := cell_below bt_7 ka_0_1__115
           replace ka_0_2__116 := cell_below bt_7 ka_0_2__116
           replace ka_0_3__117 := cell_below bt_7 ka_0_3__117
           replace kb_1_0 := cell_below bt_7 kb_1_0
           replace kb_1_1 := cell_below bt_7 kb_1_1
           replace kb_1_2 := cell_below bt_7 kb_1_2
           replace kb_1_3 := cell_below bt_7 kb_1_3
           clear bt_7
           clear qt_7)
        | (go_at_call 65
           refine (Go.Proofs.YtekacbjnpeglhaaDoor.GxCmpCompareInt.C (a_x) (b_x)  _    qt_12).mono ?_
           rintro e_t_12 wt_12 ⟨rfl, bt_12⟩
           have HBwt_12 := Lib.hid (Below.step HBwt_7.out bt_12)
           replace ka_0_0__114 := cell_below bt_12 ka_0_0__114
           replace ka_0_1__115 := cell_below bt_12 ka_0_1__115
           replace ka_0_2__116 := cell_below bt_12 ka_0_2__116
           replace ka_0_3__117 := cell_below bt_12 ka_0_3__117
           replace kb_1_0 := cell_below bt_12 kb_1_0
           replace kb_1_1 := cell_below bt_12 kb_1_1
           replace kb_1_2 := cell_below bt_12 kb_1_2
           replace kb_1_3 := cell_below bt_12 kb_1_3
           clear bt_12
           clear qt_12)
        | (go_at_call 65
           refine (Go.Proofs.YtekacbjnpeglhaaDoor.GxCmpCompareInt.C (a_b) (b_b)  _    qt_17).mono ?_
           rintro e_t_17 wt_17 ⟨rfl, bt_17⟩
           have HBwt_17 := Lib.hid (Below.step HBwt_12.out bt_17)
           replace ka_0_0__114 := cell_below bt_17 ka_0_0__114
           replace ka_0_1__115 := cell_below bt_17 ka_0_1__115
           replace ka_0_2__116 := cell_below bt_17 ka_0_2__116
           replace ka_0_3__117 := cell_below bt_17 ka_0_3__117
           replace kb_1_0 := cell_below bt_17 kb_1_0
           replace kb_1_1 := cell_below bt_17 kb_1_1
           replace kb_1_2 := cell_below bt_17 kb_1_2
           replace kb_1_3 := cell_below bt_17 kb_1_3
           clear bt_17
           clear qt_17)
        | (go_at_call 65
           refine (Go.Proofs.YtekacbjnpeglhaaDoor.GxCmpCompareInt.C (a_y) (b_y)  _    qt_22).mono ?_
           rintro e_t_22 wt_22 ⟨rfl, bt_22⟩
           have HBwt_22 := Lib.hid (Below.step HBwt_17.out bt_22)
           replace ka_0_0__114 := cell_below bt_22 ka_0_0__114
           replace ka_0_1__115 := cell_below bt_22 ka_0_1__115
           replace ka_0_2__116 := cell_below bt_22 ka_0_2__116
           replace ka_0_3__117 := cell_below bt_22 ka_0_3__117
           replace kb_1_0 := cell_below bt_22 kb_1_0
           replace kb_1_1 := cell_below bt_22 kb_1_1
           replace kb_1_2 := cell_below bt_22 kb_1_2
           replace kb_1_3 := cell_below bt_22 kb_1_3
           clear bt_22
           clear qt_22
           obtain ⟨w_t_23, hw_t_23⟩ : ∃ x, wt_22.alloc (.cells #[.int .i64 t_7, .int .i64 t_12, .int .i64 t_17, .int .i64 t_22] 3) = x := ⟨_, rfl⟩
           have bw_t_23 : Below wt_22.heap.size wt_22 w_t_23 := by rw [← hw_t_23]; exact (Below.refl _ _).alloc (Nat.le_refl _) _
           have hs_t_23 := HBwt_22.out.size
           have nt_23 : t_23.length = 4 := by rw [← ht_23]; rfl
           have Ot_23 : Hid (w_t_23.ownsRow w.heap.size 3 1 (.slice (some ⟨wt_22.heap.size, 0, none⟩) 4 4) 4 (Go.Proofs.YtekacbjnpeglhaaDoor.HelpInt.iv t_23)) := by
             rw [← hw_t_23, ← ht_23]
             have e_ : ([.int .i64 t_7, .int .i64 t_12, .int .i64 t_17, .int .i64 t_22] : List Value) = (Go.Proofs.YtekacbjnpeglhaaDoor.HelpInt.iv ([t_7, t_12, t_17, t_22] : List Int)) := rfl
             exact Lib.hid (own_laid (n := 4) hs_t_23 e_ rfl (by unfold maxLen; omega))
           clear hs_t_23
           have hht_23 := Lib.hid ht_23
           clear ht_23
           replace nt_23 := Lib.hid nt_23
           have Dt_23_a_0 := Lib.hid (apart_box ka_0_0__114)
           have Dt_23_b_1 := Lib.hid (apart_box kb_1_0)
           have HBw_t_23 := Lib.hid (Below.step HBwt_22.out bw_t_23)
           have ka_0_0__118 := cell_below bw_t_23 ka_0_0__114
           have ka_0_1__119 := cell_below bw_t_23 ka_0_1__115
           have ka_0_2__120 := cell_below bw_t_23 ka_0_2__116
           have ka_0_3__121 := cell_below bw_t_23 ka_0_3__117
           have kb_1_0__122 := cell_below bw_t_23 kb_1_0
           have kb_1_1__123 := cell_below bw_t_23 kb_1_1
           have kb_1_2__124 := cell_below bw_t_23 kb_1_2
           have kb_1_3__125 := cell_below bw_t_23 kb_1_3
           clear bw_t_23)
        | (have hc0_ := nt_23.out
           have Oct_24_1 := Lib.hid (own_len hc0_ Ot_23.out)
           have con_ := Go.Proofs.YtekacbjnpeglhaaDoor.GxCmpOrInt.C (t_23) (some ⟨wt_22.heap.size, 0, none⟩) 4 _   (Lib.hid (own_cells Oct_24_1.out)) (Lib.hid (own_max Oct_24_1.out)) qt_24
           rw [hc0_] at con_
           clear hc0_ Oct_24_1
           go_at_call 64
           refine con_.mono ?_
           rintro e_t_24 wt_24 ⟨rfl, bt_24⟩
           have HBwt_24 := Lib.hid (Below.step HBw_t_23.out bt_24)
           replace ka_0_0__118 := cell_below bt_24 ka_0_0__118
           replace ka_0_1__119 := cell_below bt_24 ka_0_1__119
           replace ka_0_2__120 := cell_below bt_24 ka_0_2__120
           replace ka_0_3__121 := cell_below bt_24 ka_0_3__121
           replace kb_1_0__122 := cell_below bt_24 kb_1_0__122
           replace kb_1_1__123 := cell_below bt_24 kb_1_1__123
           replace kb_1_2__124 := cell_below bt_24 kb_1_2__124
           replace kb_1_3__125 := cell_below bt_24 kb_1_3__125
           replace Ot_23 := Lib.hid (own_below Ot_23.out bt_24)
           clear bt_24
           clear qt_24))
  try clear ka_0_0__114
  try clear ka_0_1__115
  try clear ka_0_2__116
  try clear ka_0_3__117
  try clear kb_1_0
  try clear kb_1_1
  try clear kb_1_2
  try clear kb_1_3
  obtain rfl := ret_hid H
  go_wp2_with fail
  go_ret
  exact ⟨rfl, HBwt_24.out⟩
end Go.Proofs.YtekacbjnpeglhaaDoor.GiCompareBans

/- loop.example/g01062/impl.IsKindTable as a plain function, and the contract of the program's: where the plain one has an answer, the program has it. Conditions: slices read as lists. -/
namespace Go.Proofs.YtekacbjnpeglhaaDoor.GiIsKindTable
set_option linter.unusedVariables false
set_option linter.unusedSimpArgs false
open Go.RowKit
open Go.Proofs.YtekacbjnpeglhaaDoor.Rowed Go.Proofs.YtekacbjnpeglhaaDoor.Turn Go.Proofs.YtekacbjnpeglhaaDoor.Aid Go.Proofs.YtekacbjnpeglhaaDoor.GoP Go.Proofs.YtekacbjnpeglhaaDoor.GoM

def l0 (t_sizes : (List Int)) (k0 : Nat) (s : Unit) (nx0 bk0 : Unit → Option (Bool)) : Option (Bool) :=
  
  Option.bind (idx t_sizes (k0 : Int)) fun (yt_19 : Int) =>
  Option.bind (Go.Proofs.YtekacbjnpeglhaaDoor.GiWithin.P yt_19 1 5) fun (t_23 : Bool) =>
  letK (!t_23) fun (t_24 : Bool) =>
  iteK t_24
  (some false)
  (appK nx0 ())

def l1 (t_sizes : (List Int)) (t_bans : (List Go.Proofs.YtekacbjnpeglhaaDoor.PBan.Ban)) (k1 : Nat) (s : Unit) (nx1 bk1 : Unit → Option (Bool)) : Option (Bool) :=
  
  Option.bind (idx t_bans (k1 : Int)) fun (yt_34 : Go.Proofs.YtekacbjnpeglhaaDoor.PBan.Ban) =>
  unBan yt_34 fun (t_34_a : Int) (t_34_x : Int) (t_34_b : Int) (t_34_y : Int) =>
  Option.bind (Go.Proofs.YtekacbjnpeglhaaDoor.GiIsBan.P t_sizes (Go.Proofs.YtekacbjnpeglhaaDoor.PBan.Ban.mk t_34_a t_34_x t_34_b t_34_y)) fun (t_42 : Bool) =>
  letK (!t_42) fun (t_43 : Bool) =>
  joinK (fun (t_58 : Bool) =>
  iteK t_58
  (some false)
  (appK nx1 ())) fun jt_58 => iteK t_43 (appK jt_58 true) (letK (decide (0 < (k1 : Int))) fun (t_46 : Bool) =>
  joinK (fun (t_57 : Bool) =>
  appK jt_58 t_57) fun jt_57 => iteK t_46 (letK (IntKind.i64.wrap ((k1 : Int) - 1)) fun (t_51 : Int) =>
  Option.bind (idx t_bans t_51) fun (yt_52 : Go.Proofs.YtekacbjnpeglhaaDoor.PBan.Ban) =>
  unBan yt_52 fun (t_52_a : Int) (t_52_x : Int) (t_52_b : Int) (t_52_y : Int) =>
  Option.bind (Go.Proofs.YtekacbjnpeglhaaDoor.GiCompareBans.P (Go.Proofs.YtekacbjnpeglhaaDoor.PBan.Ban.mk t_52_a t_52_x t_52_b t_52_y) (Go.Proofs.YtekacbjnpeglhaaDoor.PBan.Ban.mk t_34_a t_34_x t_34_b t_34_y)) fun (t_55 : Int) =>
  letK (decide (0 ≤ t_55)) fun (t_56 : Bool) =>
  appK jt_57 t_56) (appK jt_57 false))

def e1  (s : Unit) : Option (Bool) :=
  
  some true

def e0 (t_sizes : (List Int)) (t_bans : (List Go.Proofs.YtekacbjnpeglhaaDoor.PBan.Ban)) (s : Unit) : Option (Bool) :=
  
  cntK (l1 t_sizes t_bans) (t_bans.length) 0 () (e1 )

def P (t_sizes : (List Int)) (t_bans : (List Go.Proofs.YtekacbjnpeglhaaDoor.PBan.Ban)) : Option (Bool) :=
  Option.bind (Go.Proofs.YtekacbjnpeglhaaDoor.GiWithin.P (t_sizes.length : Int) 1 5) fun (t_5 : Bool) =>
  letK (!t_5) fun (t_6 : Bool) =>
  joinK (fun (t_12 : Bool) =>
  iteK t_12
  (some false)
  (cntK (l0 t_sizes) (t_sizes.length) 0 () (e0 t_sizes t_bans))) fun jt_12 => iteK t_6 (appK jt_12 true) (letK (decide (20 < (t_bans.length : Int))) fun (t_11 : Bool) =>
  appK jt_12 t_11)

set_option maxRecDepth 100000 in
set_option maxHeartbeats 2000000 in
theorem C (t_sizes : (List Int)) (t_bans : (List Go.Proofs.YtekacbjnpeglhaaDoor.PBan.Ban)) (A0_0 : Option Addr) (c0_0 : Nat) (A0_1 : Option Addr) (c0_1 : Nat)  (w : World) (M0_0 : Hid (Cells w 1 A0_0 t_sizes.length (Go.Proofs.YtekacbjnpeglhaaDoor.HelpInt.iv t_sizes))) (N0_0 : Hid (t_sizes.length ≤ 9223372036854775807)) (M0_1 : Hid (Cells w 4 A0_1 t_bans.length (Go.Proofs.YtekacbjnpeglhaaDoor.PBan.flat t_bans))) (N0_1 : Hid (t_bans.length ≤ 9223372036854775807))  {r : Bool} (H : Hid (P t_sizes t_bans = some r)) :
    Calls Tryd.prog 16 #[.agg #[.slice A0_0 t_sizes.length c0_0, .slice A0_1 t_bans.length c0_1]] w (Gives (.bool r) w) := by
  have HB := Lib.hid (Below.refl w.heap.size w)
  unfold P at H
  have N0_0o := N0_0.out
  have N0_1o := N0_1.out
  go_enter Tryd.func16, Tryd.ntmps16
  obtain ⟨w_t_0, hw_t_0⟩ : ∃ x, w.alloc (.cells #[.slice A0_0 t_sizes.length c0_0, .slice A0_1 t_bans.length c0_1] 31) = x := ⟨_, rfl⟩
  have bw_t_0 : Below w.heap.size w w_t_0 := by rw [← hw_t_0]; exact (Below.refl _ _).alloc (Nat.le_refl _) _
  have HBw_t_0 := Lib.hid (Below.step HB.out bw_t_0)
  clear bw_t_0
  have kt_0_0 : w_t_0.cell? ⟨w.heap.size, 0, none⟩ = some (.slice A0_0 t_sizes.length c0_0) := by rw [← hw_t_0]; exact box_new _ _ _ 0 _ rfl
  have kt_0_1 : w_t_0.cell? ⟨w.heap.size, 1, none⟩ = some (.slice A0_1 t_bans.length c0_1) := by rw [← hw_t_0]; exact box_new _ _ _ 1 _ rfl
  replace H := bind_hid H
  obtain ⟨t_5, qt_5, H⟩ := H
  go_wp2_with fail
  go_at_call 39
  refine (Go.Proofs.YtekacbjnpeglhaaDoor.GiWithin.C ((t_sizes.length : Int)) (1) (5)  _    qt_5).mono ?_
  rintro e_t_5 wt_5 ⟨rfl, bt_5⟩
  have HBwt_5 := Lib.hid (Below.step HBw_t_0.out bt_5)
  replace kt_0_0 := cell_below bt_5 kt_0_0
  replace kt_0_1 := cell_below bt_5 kt_0_1
  clear bt_5
  cases t_5 with
  | false =>
    replace H := let_hid H
    obtain ⟨t_6, ht_6, H⟩ := H
    obtain rfl : t_6 = true := ht_6.symm
    replace H := join_hid H
    replace H := ite_t H
    replace H := app_hid H
    replace H := ite_t H
    obtain rfl := ret_hid H
    go_wp2_with fail
    go_ret
    exact ⟨rfl, HBwt_5.out⟩
  | true =>
    replace H := let_hid H
    obtain ⟨t_6, ht_6, H⟩ := H
    obtain rfl : t_6 = false := ht_6.symm
    replace H := join_hid H
    replace H := ite_f H
    replace H := let_hid H
    obtain ⟨t_11, ht_11, H⟩ := H
    replace H := app_hid H
    cases t_11 with
    | false =>
      have nht_11 : ¬ (20 < t_bans.length) := by have := of_decide_eq_false ht_11; omega
      replace H := ite_f H
      go_wp2_with fail
      go_loopg [21] (t_sizes.length) (fun m_ v21_ wr => ∃ (k0 : Nat) , k0 + m_ = t_sizes.length ∧ v21_ = .int .i64 (k0 : Int) ∧ Hid (cntK (l0 t_sizes) m_ k0 () (e0 t_sizes t_bans) = some r) ∧ Hid (Below w.heap.size w wr) ∧ wr.cell? ⟨w.heap.size, 0, none⟩ = some (.slice A0_0 t_sizes.length c0_0) ∧ wr.cell? ⟨w.heap.size, 1, none⟩ = some (.slice A0_1 t_bans.length c0_1))
      case atStart => exact ⟨0, by omega, rfl, H, HBwt_5, kt_0_0, kt_0_1⟩
      case round =>
        obtain ⟨k0, hkm0, rfl, H, HBwr0, kt_0_0, kt_0_1⟩ := hrel
        rename World => wr0
        cases gk with
        | zero =>
          obtain rfl : k0 = t_sizes.length := by omega
          have hc0 : decide (((t_sizes.length : Nat) : Int) < ((t_sizes.length : Nat) : Int)) = false := by simp
          replace H := cnt_zero H
          unfold e0 at H
          go_wp2_with fail
          go_loopg [32] (t_bans.length) (fun m_ v32_ wr => ∃ (k1 : Nat) , k1 + m_ = t_bans.length ∧ v32_ = .int .i64 (k1 : Int) ∧ Hid (cntK (l1 t_sizes t_bans) m_ k1 () (e1 ) = some r) ∧ Hid (Below w.heap.size w wr) ∧ wr.cell? ⟨w.heap.size, 0, none⟩ = some (.slice A0_0 t_sizes.length c0_0) ∧ wr.cell? ⟨w.heap.size, 1, none⟩ = some (.slice A0_1 t_bans.length c0_1))
          case atStart => exact ⟨0, by omega, rfl, H, HBwr0, kt_0_0, kt_0_1⟩
          case round =>
            obtain ⟨k1, hkm1, rfl, H, HBwr1, kt_0_0, kt_0_1⟩ := hrel
            rename World => wr1
            cases gk with
            | zero =>
              obtain rfl : k1 = t_bans.length := by omega
              have hc1 : decide (((t_bans.length : Nat) : Int) < ((t_bans.length : Nat) : Int)) = false := by simp
              replace H := cnt_zero H
              unfold e1 at H
              obtain rfl := ret_hid H
              go_wp2_with fail
              go_ret
              exact ⟨rfl, HBwr1.out⟩
            | succ m1 =>
              have hlt1 : k1 < t_bans.length := by omega
              have hc1 : decide ((k1 : Int) < ((t_bans.length : Nat) : Int)) = true := by simp; omega
              replace H := cnt_succ H
              unfold l1 at H
              replace H := idx_hid H
              obtain ⟨nt_34, yt_34, et_34, lt_34, gt_34, H⟩ := H
              obtain rfl : k1 = nt_34 := by omega
              clear et_34
              obtain ⟨t_34_a, t_34_x, t_34_b, t_34_y⟩ := yt_34
              replace H := unBan_hid H
              obtain ⟨ab_t_34, ao_t_34, zt_34, At_34, z_t_34, ct_34_0, ct_34_1, ct_34_2, ct_34_3⟩ := Go.Proofs.YtekacbjnpeglhaaDoor.OBan.at_ M0_1.out lt_34
              obtain rfl := Option.some.inj (gt_34.out.symm.trans z_t_34)
              subst At_34
              have ltt_34 := cell_lt ct_34_0
              replace ct_34_0 := cell_below HBwr1.out ct_34_0
              replace ct_34_1 := cell_below HBwr1.out ct_34_1
              replace ct_34_2 := cell_below HBwr1.out ct_34_2
              replace ct_34_3 := cell_below HBwr1.out ct_34_3
              clear z_t_34
              have b0t_34 : (0 : Int) ≤ (k1 : Int) := by omega
              have b1t_34 : (k1 : Int) < ((t_bans.length : Nat) : Int) := by omega
              have b2t_34 : ((k1 : Int)).toNat = k1 := by omega
              obtain ⟨w_b_36, hw_b_36⟩ : ∃ x, wr1.alloc (.cells #[.int .i64 t_34_a, .int .i64 t_34_x, .int .i64 t_34_b, .int .i64 t_34_y] 63) = x := ⟨_, rfl⟩
              have bw_b_36 : Below wr1.heap.size wr1 w_b_36 := by rw [← hw_b_36]; exact (Below.refl _ _).alloc (Nat.le_refl _) _
              have HBw_b_36 := Lib.hid (Below.step HBwr1.out bw_b_36)
              have kt_0_0__126 := cell_below bw_b_36 kt_0_0
              have kt_0_1__127 := cell_below bw_b_36 kt_0_1
              have ct_34_0__128 := cell_below bw_b_36 ct_34_0
              have ct_34_1__129 := cell_below bw_b_36 ct_34_1
              have ct_34_2__130 := cell_below bw_b_36 ct_34_2
              have ct_34_3__131 := cell_below bw_b_36 ct_34_3
              clear bw_b_36
              have kb_36_0 : w_b_36.cell? ⟨wr1.heap.size, 0, none⟩ = some (.int .i64 t_34_a) := by rw [← hw_b_36]; exact box_new _ _ _ 0 _ rfl
              have kb_36_1 : w_b_36.cell? ⟨wr1.heap.size, 1, none⟩ = some (.int .i64 t_34_x) := by rw [← hw_b_36]; exact box_new _ _ _ 1 _ rfl
              have kb_36_2 : w_b_36.cell? ⟨wr1.heap.size, 2, none⟩ = some (.int .i64 t_34_b) := by rw [← hw_b_36]; exact box_new _ _ _ 2 _ rfl
              have kb_36_3 : w_b_36.cell? ⟨wr1.heap.size, 3, none⟩ = some (.int .i64 t_34_y) := by rw [← hw_b_36]; exact box_new _ _ _ 3 _ rfl
              go_wp2_with fail
              clear kt_0_0 kt_0_1 ct_34_0 ct_34_1 ct_34_2 ct_34_3
              have Hkt_0_0__126 := Lib.hid kt_0_0__126
              replace kt_0_0__126 := cell_regrown kt_0_0__126
              have Hkt_0_1__127 := Lib.hid kt_0_1__127
              replace kt_0_1__127 := cell_regrown kt_0_1__127
              have Hct_34_0__128 := Lib.hid ct_34_0__128
              replace ct_34_0__128 := cell_regrown ct_34_0__128
              have Hct_34_1__129 := Lib.hid ct_34_1__129
              replace ct_34_1__129 := cell_regrown ct_34_1__129
              have Hct_34_2__130 := Lib.hid ct_34_2__130
              replace ct_34_2__130 := cell_regrown ct_34_2__130
              have Hct_34_3__131 := Lib.hid ct_34_3__131
              replace ct_34_3__131 := cell_regrown ct_34_3__131
              have Hkb_36_0 := Lib.hid kb_36_0
              replace kb_36_0 := cell_regrown kb_36_0
              have Hkb_36_1 := Lib.hid kb_36_1
              replace kb_36_1 := cell_regrown kb_36_1
              have Hkb_36_2 := Lib.hid kb_36_2
              replace kb_36_2 := cell_regrown kb_36_2
              have Hkb_36_3 := Lib.hid kb_36_3
              replace kb_36_3 := cell_regrown kb_36_3
              replace H := bind_hid H
              obtain ⟨t_42, qt_42, H⟩ := H
              have nt_42 : ∀ d os, Calls Tryd.prog 40 #[.slice A0_0 t_sizes.length c0_0, .agg #[.int .i64 t_34_a, .int .i64 t_34_x, .int .i64 t_34_b, .int .i64 t_34_y]] (Go.Sort.grow (redrawn w_b_36 d) os) fun e w'' => e = .returned (.bool t_42) ∧ ∃ p : Regrown, w'' = Go.Sort.grow (redrawn w_b_36 p.d) p.os := fun d os => Calls.regrown_of (Go.Proofs.YtekacbjnpeglhaaDoor.GiIsBan.C (t_sizes) ((Go.Proofs.YtekacbjnpeglhaaDoor.PBan.Ban.mk t_34_a t_34_x t_34_b t_34_y)) A0_0 c0_0 _   (Lib.hid (Cells.below (Cells.below M0_0.out HBw_b_36.out) (below_regrown _ _ _))) N0_0 qt_42)
              cases t_42 with
              | false =>
                replace H := let_hid H
                obtain ⟨t_43, ht_43, H⟩ := H
                obtain rfl : t_43 = true := ht_43.symm
                replace H := join_hid H
                replace H := ite_t H
                replace H := app_hid H
                refine wp_region_quiet_below (by kernel_rfl) (by kernel_rfl) ?_
                repeat (go_big_quiet_step (first | (go_at_call 40; exact nt_42 _ _)))
                refine wpQuiet_nil ?_
                intro Y12 hY12
                replace hY12 := below_class hY12
                clear nt_42
                replace kt_0_0__126 := Hkt_0_0__126.out
                clear Hkt_0_0__126
                replace kt_0_1__127 := Hkt_0_1__127.out
                clear Hkt_0_1__127
                replace ct_34_0__128 := Hct_34_0__128.out
                clear Hct_34_0__128
                replace ct_34_1__129 := Hct_34_1__129.out
                clear Hct_34_1__129
                replace ct_34_2__130 := Hct_34_2__130.out
                clear Hct_34_2__130
                replace ct_34_3__131 := Hct_34_3__131.out
                clear Hct_34_3__131
                replace kb_36_0 := Hkb_36_0.out
                clear Hkb_36_0
                replace kb_36_1 := Hkb_36_1.out
                clear Hkb_36_1
                replace kb_36_2 := Hkb_36_2.out
                clear Hkb_36_2
                replace kb_36_3 := Hkb_36_3.out
                clear Hkb_36_3
                have HBY12 := Lib.hid (Below.step HBw_b_36.out hY12)
                replace kt_0_0__126 := cell_below hY12 kt_0_0__126
                replace kt_0_1__127 := cell_below hY12 kt_0_1__127
                replace ct_34_0__128 := cell_below hY12 ct_34_0__128
                replace ct_34_1__129 := cell_below hY12 ct_34_1__129
                replace ct_34_2__130 := cell_below hY12 ct_34_2__130
                replace ct_34_3__131 := cell_below hY12 ct_34_3__131
                replace kb_36_0 := cell_below hY12 kb_36_0
                replace kb_36_1 := cell_below hY12 kb_36_1
                replace kb_36_2 := cell_below hY12 kb_36_2
                replace kb_36_3 := cell_below hY12 kb_36_3
                clear hY12
                replace H := ite_t H
                obtain rfl := ret_hid H
                go_wp2_with fail
                go_ret
                exact ⟨rfl, HBY12.out⟩
              | true =>
                replace H := let_hid H
                obtain ⟨t_43, ht_43, H⟩ := H
                obtain rfl : t_43 = false := ht_43.symm
                replace H := join_hid H
                replace H := ite_f H
                replace H := let_hid H
                obtain ⟨t_46, ht_46, H⟩ := H
                replace H := join_hid H
                cases t_46 with
                | false =>
                  have nht_46 : ¬ (0 < k1) := by have := of_decide_eq_false ht_46; omega
                  replace H := ite_f H
                  replace H := app_hid H
                  replace H := app_hid H
                  refine wp_region_quiet_below (by kernel_rfl) (by kernel_rfl) ?_
                  repeat (go_big_quiet_step (first | (go_at_call 40; exact nt_42 _ _)))
                  refine wpQuiet_nil ?_
                  intro Y12 hY12
                  replace hY12 := below_class hY12
                  clear nt_42
                  replace kt_0_0__126 := Hkt_0_0__126.out
                  clear Hkt_0_0__126
                  replace kt_0_1__127 := Hkt_0_1__127.out
                  clear Hkt_0_1__127
                  replace ct_34_0__128 := Hct_34_0__128.out
                  clear Hct_34_0__128
                  replace ct_34_1__129 := Hct_34_1__129.out
                  clear Hct_34_1__129
                  replace ct_34_2__130 := Hct_34_2__130.out
                  clear Hct_34_2__130
                  replace ct_34_3__131 := Hct_34_3__131.out
                  clear Hct_34_3__131
                  replace kb_36_0 := Hkb_36_0.out
                  clear Hkb_36_0
                  replace kb_36_1 := Hkb_36_1.out
                  clear Hkb_36_1
                  replace kb_36_2 := Hkb_36_2.out
                  clear Hkb_36_2
                  replace kb_36_3 := Hkb_36_3.out
                  clear Hkb_36_3
                  have HBY12 := Lib.hid (Below.step HBw_b_36.out hY12)
                  replace kt_0_0__126 := cell_below hY12 kt_0_0__126
                  replace kt_0_1__127 := cell_below hY12 kt_0_1__127
                  replace ct_34_0__128 := cell_below hY12 ct_34_0__128
                  replace ct_34_1__129 := cell_below hY12 ct_34_1__129
                  replace ct_34_2__130 := cell_below hY12 ct_34_2__130
                  replace ct_34_3__131 := cell_below hY12 ct_34_3__131
                  replace kb_36_0 := cell_below hY12 kb_36_0
                  replace kb_36_1 := cell_below hY12 kb_36_1
                  replace kb_36_2 := cell_below hY12 kb_36_2
                  replace kb_36_3 := cell_below hY12 kb_36_3
                  clear hY12
                  replace H := ite_f H
                  replace H := app_hid H
                  go_wp2_with fail
                  go_roundg m1
                  case measure => omega
                  case rel => exact ⟨k1 + 1, by omega, by go_num, H, HBY12, kt_0_0__126, kt_0_1__127⟩
                | true =>
                  have nht_46 : 0 < k1 := by have := of_decide_eq_true ht_46; omega
                  replace H := ite_t H
                  replace H := let_hid H
                  obtain ⟨t_51, ht_51, H⟩ := H
                  replace H := idx_hid H
                  obtain ⟨nt_52, yt_52, et_52, lt_52, gt_52, H⟩ := H
                  subst et_52
                  obtain ⟨t_52_a, t_52_x, t_52_b, t_52_y⟩ := yt_52
                  replace H := unBan_hid H
                  obtain ⟨ab_t_52, ao_t_52, zt_52, At_52, z_t_52, ct_52_0, ct_52_1, ct_52_2, ct_52_3⟩ := Go.Proofs.YtekacbjnpeglhaaDoor.OBan.at_ M0_1.out lt_52
                  obtain rfl := Option.some.inj (gt_52.out.symm.trans z_t_52)
                  simp only [Option.some.injEq, Addr.mk.injEq] at At_52
                  obtain ⟨rfl, rfl, _⟩ := At_52
                  have ltt_52 := cell_lt ct_52_0
                  replace ct_52_0 := cell_below HBw_b_36.out ct_52_0
                  replace ct_52_1 := cell_below HBw_b_36.out ct_52_1
                  replace ct_52_2 := cell_below HBw_b_36.out ct_52_2
                  replace ct_52_3 := cell_below HBw_b_36.out ct_52_3
                  clear z_t_52
                  have b0t_52 : (0 : Int) ≤ (nt_52 : Int) := by omega
                  have b1t_52 : (nt_52 : Int) < ((t_bans.length : Nat) : Int) := by omega
                  have b2t_52 : ((nt_52 : Int)).toNat = nt_52 := by omega
                  have Hct_52_0 := Lib.hid ct_52_0
                  replace ct_52_0 := cell_regrown ct_52_0
                  have Hct_52_1 := Lib.hid ct_52_1
                  replace ct_52_1 := cell_regrown ct_52_1
                  have Hct_52_2 := Lib.hid ct_52_2
                  replace ct_52_2 := cell_regrown ct_52_2
                  have Hct_52_3 := Lib.hid ct_52_3
                  replace ct_52_3 := cell_regrown ct_52_3
                  replace H := bind_hid H
                  obtain ⟨t_55, qt_55, H⟩ := H
                  have nt_55 : ∀ d os, Calls Tryd.prog 41 #[.agg #[.int .i64 t_52_a, .int .i64 t_52_x, .int .i64 t_52_b, .int .i64 t_52_y], .agg #[.int .i64 t_34_a, .int .i64 t_34_x, .int .i64 t_34_b, .int .i64 t_34_y]] (Go.Sort.grow (redrawn w_b_36 d) os) fun e w'' => e = .returned (.int .i64 t_55) ∧ ∃ p : Regrown, w'' = Go.Sort.grow (redrawn w_b_36 p.d) p.os := fun d os => Calls.regrown_of (Go.Proofs.YtekacbjnpeglhaaDoor.GiCompareBans.C ((Go.Proofs.YtekacbjnpeglhaaDoor.PBan.Ban.mk t_52_a t_52_x t_52_b t_52_y)) ((Go.Proofs.YtekacbjnpeglhaaDoor.PBan.Ban.mk t_34_a t_34_x t_34_b t_34_y))  _    qt_55)
                  replace H := let_hid H
                  obtain ⟨t_56, ht_56, H⟩ := H
                  replace H := app_hid H
                  replace H := app_hid H
                  refine wp_region_quiet_below (by kernel_rfl) (by kernel_rfl) ?_
                  repeat (go_big_quiet_step (first | (go_at_call 40; exact nt_42 _ _) | (go_at_call 41; exact nt_55 _ _)))
                  refine wpQuiet_nil ?_
                  intro Y12 hY12
                  replace hY12 := below_class hY12
                  clear nt_42 nt_55
                  replace kt_0_0__126 := Hkt_0_0__126.out
                  clear Hkt_0_0__126
                  replace kt_0_1__127 := Hkt_0_1__127.out
                  clear Hkt_0_1__127
                  replace ct_34_0__128 := Hct_34_0__128.out
                  clear Hct_34_0__128
                  replace ct_34_1__129 := Hct_34_1__129.out
                  clear Hct_34_1__129
                  replace ct_34_2__130 := Hct_34_2__130.out
                  clear Hct_34_2__130
                  replace ct_34_3__131 := Hct_34_3__131.out
                  clear Hct_34_3__131
                  replace kb_36_0 := Hkb_36_0.out
                  clear Hkb_36_0
                  replace kb_36_1 := Hkb_36_1.out
                  clear Hkb_36_1
                  replace kb_36_2 := Hkb_36_2.out
                  clear Hkb_36_2
                  replace kb_36_3 := Hkb_36_3.out
                  clear Hkb_36_3
                  replace ct_52_0 := Hct_52_0.out
                  clear Hct_52_0
                  replace ct_52_1 := Hct_52_1.out
                  clear Hct_52_1
                  replace ct_52_2 := Hct_52_2.out
                  clear Hct_52_2
                  replace ct_52_3 := Hct_52_3.out
                  clear Hct_52_3
                  have HBY12 := Lib.hid (Below.step HBw_b_36.out hY12)
                  replace kt_0_0__126 := cell_below hY12 kt_0_0__126
                  replace kt_0_1__127 := cell_below hY12 kt_0_1__127
                  replace ct_34_0__128 := cell_below hY12 ct_34_0__128
                  replace ct_34_1__129 := cell_below hY12 ct_34_1__129
                  replace ct_34_2__130 := cell_below hY12 ct_34_2__130
                  replace ct_34_3__131 := cell_below hY12 ct_34_3__131
                  replace kb_36_0 := cell_below hY12 kb_36_0
                  replace kb_36_1 := cell_below hY12 kb_36_1
                  replace kb_36_2 := cell_below hY12 kb_36_2
                  replace kb_36_3 := cell_below hY12 kb_36_3
                  replace ct_52_0 := cell_below hY12 ct_52_0
                  replace ct_52_1 := cell_below hY12 ct_52_1
                  replace ct_52_2 := cell_below hY12 ct_52_2
                  replace ct_52_3 := cell_below hY12 ct_52_3
                  clear hY12
                  cases t_56 with
                  | false =>
                    replace H := ite_f H
                    replace H := app_hid H
                    go_wp2_with fail
                    go_roundg m1
                    case measure => omega
                    case rel => exact ⟨k1 + 1, by omega, by go_num, H, HBY12, kt_0_0__126, kt_0_1__127⟩
                  | true =>
                    replace H := ite_t H
                    obtain rfl := ret_hid H
                    go_wp2_with fail
                    go_ret
                    exact ⟨rfl, HBY12.out⟩
        | succ m0 =>
          have hlt0 : k0 < t_sizes.length := by omega
          have hc0 : decide ((k0 : Int) < ((t_sizes.length : Nat) : Int)) = true := by simp; omega
          replace H := cnt_succ H
          unfold l0 at H
          replace H := idx_hid H
          obtain ⟨nt_19, yt_19, et_19, lt_19, gt_19, H⟩ := H
          obtain rfl : k0 = nt_19 := by omega
          clear et_19
          obtain ⟨ab_t_19, ao_t_19, zt_19, At_19, z_t_19, ct_19_0⟩ := Go.Proofs.YtekacbjnpeglhaaDoor.HelpInt.Ints.at_ M0_0.out lt_19
          obtain rfl := Option.some.inj (gt_19.out.symm.trans z_t_19)
          subst At_19
          have ltt_19 := cell_lt ct_19_0
          replace ct_19_0 := cell_below HBwr0.out ct_19_0
          clear z_t_19
          have b0t_19 : (0 : Int) ≤ (k0 : Int) := by omega
          have b1t_19 : (k0 : Int) < ((t_sizes.length : Nat) : Int) := by omega
          have b2t_19 : ((k0 : Int)).toNat = k0 := by omega
          replace H := bind_hid H
          obtain ⟨t_23, qt_23, H⟩ := H
          go_wp2_with fail
          go_at_call 39
          refine (Go.Proofs.YtekacbjnpeglhaaDoor.GiWithin.C (yt_19) (1) (5)  _    qt_23).mono ?_
          rintro e_t_23 wt_23 ⟨rfl, bt_23⟩
          have HBwt_23 := Lib.hid (Below.step HBwr0.out bt_23)
          replace kt_0_0 := cell_below bt_23 kt_0_0
          replace kt_0_1 := cell_below bt_23 kt_0_1
          replace ct_19_0 := cell_below bt_23 ct_19_0
          clear bt_23
          cases t_23 with
          | false =>
            replace H := let_hid H
            obtain ⟨t_24, ht_24, H⟩ := H
            obtain rfl : t_24 = true := ht_24.symm
            replace H := ite_t H
            obtain rfl := ret_hid H
            go_wp2_with fail
            go_ret
            exact ⟨rfl, HBwt_23.out⟩
          | true =>
            replace H := let_hid H
            obtain ⟨t_24, ht_24, H⟩ := H
            obtain rfl : t_24 = false := ht_24.symm
            replace H := ite_f H
            replace H := app_hid H
            go_wp2_with fail
            go_roundg m0
            case measure => omega
            case rel => exact ⟨k0 + 1, by omega, by go_num, H, HBwt_23, kt_0_0, kt_0_1⟩
    | true =>
      have nht_11 : 20 < t_bans.length := by have := of_decide_eq_true ht_11; omega
      replace H := ite_t H
      obtain rfl := ret_hid H
      go_wp2_with fail
      go_ret
      exact ⟨rfl, HBwt_5.out⟩
end Go.Proofs.YtekacbjnpeglhaaDoor.GiIsKindTable

/- loop.example/g01062/impl.isKind as a plain function, and the contract of the program's: where the plain one has an answer, the program has it. Conditions: slices read as lists. -/
namespace Go.Proofs.YtekacbjnpeglhaaDoor.GiIsKind
set_option linter.unusedVariables false
set_option linter.unusedSimpArgs false
open Go.RowKit
open Go.Proofs.YtekacbjnpeglhaaDoor.Rowed Go.Proofs.YtekacbjnpeglhaaDoor.Turn Go.Proofs.YtekacbjnpeglhaaDoor.Aid Go.Proofs.YtekacbjnpeglhaaDoor.GoP Go.Proofs.YtekacbjnpeglhaaDoor.GoM

def l0 (t_sizes : (List Int)) (kind : (List Int)) (k0 : Nat) (s : Unit) (nx0 bk0 : Unit → Option (Bool)) : Option (Bool) :=
  
  Option.bind (idx kind (k0 : Int)) fun (yt_19 : Int) =>
  Option.bind (Go.Proofs.YtekacbjnpeglhaaDoor.GiHasValue.P t_sizes (k0 : Int) yt_19) fun (t_27 : Bool) =>
  letK (!t_27) fun (t_28 : Bool) =>
  iteK t_28
  (some false)
  (appK nx0 ())

def e0  (s : Unit) : Option (Bool) :=
  
  some true

def P (t_sizes : (List Int)) (t_bans : (List Go.Proofs.YtekacbjnpeglhaaDoor.PBan.Ban)) (kind : (List Int)) : Option (Bool) :=
  Option.bind (Go.Proofs.YtekacbjnpeglhaaDoor.GiIsKindTable.P t_sizes t_bans) fun (t_3 : Bool) =>
  letK (!t_3) fun (t_4 : Bool) =>
  joinK (fun (t_12 : Bool) =>
  iteK t_12
  (some false)
  (cntK (l0 t_sizes kind) (kind.length) 0 () (e0 ))) fun jt_12 => iteK t_4 (appK jt_12 true) (letK ((kind.length : Int) != (t_sizes.length : Int)) fun (t_11 : Bool) =>
  appK jt_12 t_11)

set_option maxRecDepth 100000 in
set_option maxHeartbeats 2000000 in
theorem C (t_sizes : (List Int)) (t_bans : (List Go.Proofs.YtekacbjnpeglhaaDoor.PBan.Ban)) (kind : (List Int)) (A0_0 : Option Addr) (c0_0 : Nat) (A0_1 : Option Addr) (c0_1 : Nat) (A1 : Option Addr) (c1 : Nat)  (w : World) (M0_0 : Hid (Cells w 1 A0_0 t_sizes.length (Go.Proofs.YtekacbjnpeglhaaDoor.HelpInt.iv t_sizes))) (N0_0 : Hid (t_sizes.length ≤ 9223372036854775807)) (M0_1 : Hid (Cells w 4 A0_1 t_bans.length (Go.Proofs.YtekacbjnpeglhaaDoor.PBan.flat t_bans))) (N0_1 : Hid (t_bans.length ≤ 9223372036854775807)) (M1 : Hid (Cells w 1 A1 kind.length (Go.Proofs.YtekacbjnpeglhaaDoor.HelpInt.iv kind))) (N1 : Hid (kind.length ≤ 9223372036854775807))  {r : Bool} (H : Hid (P t_sizes t_bans kind = some r)) :
    Calls Tryd.prog 44 #[.agg #[.slice A0_0 t_sizes.length c0_0, .slice A0_1 t_bans.length c0_1], .slice A1 kind.length c1] w (Gives (.bool r) w) := by
  have HB := Lib.hid (Below.refl w.heap.size w)
  unfold P at H
  have N0_0o := N0_0.out
  have N0_1o := N0_1.out
  have N1o := N1.out
  go_enter Tryd.func44, Tryd.ntmps44
  obtain ⟨w_t_0, hw_t_0⟩ : ∃ x, w.alloc (.cells #[.slice A0_0 t_sizes.length c0_0, .slice A0_1 t_bans.length c0_1] 31) = x := ⟨_, rfl⟩
  have bw_t_0 : Below w.heap.size w w_t_0 := by rw [← hw_t_0]; exact (Below.refl _ _).alloc (Nat.le_refl _) _
  have HBw_t_0 := Lib.hid (Below.step HB.out bw_t_0)
  clear bw_t_0
  have kt_0_0 : w_t_0.cell? ⟨w.heap.size, 0, none⟩ = some (.slice A0_0 t_sizes.length c0_0) := by rw [← hw_t_0]; exact box_new _ _ _ 0 _ rfl
  have kt_0_1 : w_t_0.cell? ⟨w.heap.size, 1, none⟩ = some (.slice A0_1 t_bans.length c0_1) := by rw [← hw_t_0]; exact box_new _ _ _ 1 _ rfl
  replace H := bind_hid H
  obtain ⟨t_3, qt_3, H⟩ := H
  go_wp2_with fail
  go_at_call 16
  refine (Go.Proofs.YtekacbjnpeglhaaDoor.GiIsKindTable.C (t_sizes) (t_bans) A0_0 c0_0 A0_1 c0_1 _   (Lib.hid (Cells.below M0_0.out HBw_t_0.out)) N0_0 (Lib.hid (Cells.below M0_1.out HBw_t_0.out)) N0_1 qt_3).mono ?_
  rintro e_t_3 wt_3 ⟨rfl, bt_3⟩
  have HBwt_3 := Lib.hid (Below.step HBw_t_0.out bt_3)
  replace kt_0_0 := cell_below bt_3 kt_0_0
  replace kt_0_1 := cell_below bt_3 kt_0_1
  clear bt_3
  cases t_3 with
  | false =>
    replace H := let_hid H
    obtain ⟨t_4, ht_4, H⟩ := H
    obtain rfl : t_4 = true := ht_4.symm
    replace H := join_hid H
    replace H := ite_t H
    replace H := app_hid H
    replace H := ite_t H
    obtain rfl := ret_hid H
    go_wp2_with fail
    go_ret
    exact ⟨rfl, HBwt_3.out⟩
  | true =>
    replace H := let_hid H
    obtain ⟨t_4, ht_4, H⟩ := H
    obtain rfl : t_4 = false := ht_4.symm
    replace H := join_hid H
    replace H := ite_f H
    replace H := let_hid H
    obtain ⟨t_11, ht_11, H⟩ := H
    replace H := app_hid H
    cases t_11 with
    | false =>
      have Hht_11 : Hid (kind.length = t_sizes.length) := Lib.hid (by have := bne_eq_false_iff_eq.1 ht_11; omega)
      have nht_11 : (kind.length == t_sizes.length) = true := beq_iff_eq.2 Hht_11.out
      replace H := ite_f H
      go_wp2_with fail
      go_loopg [20] (kind.length) (fun m_ v20_ wr => ∃ (k0 : Nat) , k0 + m_ = kind.length ∧ v20_ = .int .i64 (k0 : Int) ∧ Hid (cntK (l0 t_sizes kind) m_ k0 () (e0 ) = some r) ∧ Hid (Below w.heap.size w wr) ∧ wr.cell? ⟨w.heap.size, 0, none⟩ = some (.slice A0_0 t_sizes.length c0_0) ∧ wr.cell? ⟨w.heap.size, 1, none⟩ = some (.slice A0_1 t_bans.length c0_1))
      case atStart => exact ⟨0, by omega, rfl, H, HBwt_3, kt_0_0, kt_0_1⟩
      case round =>
        obtain ⟨k0, hkm0, rfl, H, HBwr0, kt_0_0, kt_0_1⟩ := hrel
        rename World => wr0
        cases gk with
        | zero =>
          obtain rfl : k0 = kind.length := by omega
          have hc0 : decide (((kind.length : Nat) : Int) < ((kind.length : Nat) : Int)) = false := by simp
          replace H := cnt_zero H
          unfold e0 at H
          obtain rfl := ret_hid H
          go_wp2_with fail
          go_ret
          exact ⟨rfl, HBwr0.out⟩
        | succ m0 =>
          have hlt0 : k0 < kind.length := by omega
          have hc0 : decide ((k0 : Int) < ((kind.length : Nat) : Int)) = true := by simp; omega
          replace H := cnt_succ H
          unfold l0 at H
          replace H := idx_hid H
          obtain ⟨nt_19, yt_19, et_19, lt_19, gt_19, H⟩ := H
          obtain rfl : k0 = nt_19 := by omega
          clear et_19
          obtain ⟨ab_t_19, ao_t_19, zt_19, At_19, z_t_19, ct_19_0⟩ := Go.Proofs.YtekacbjnpeglhaaDoor.HelpInt.Ints.at_ M1.out lt_19
          obtain rfl := Option.some.inj (gt_19.out.symm.trans z_t_19)
          subst At_19
          have ltt_19 := cell_lt ct_19_0
          replace ct_19_0 := cell_below HBwr0.out ct_19_0
          clear z_t_19
          have b0t_19 : (0 : Int) ≤ (k0 : Int) := by omega
          have b1t_19 : (k0 : Int) < ((kind.length : Nat) : Int) := by omega
          have b2t_19 : ((k0 : Int)).toNat = k0 := by omega
          replace H := bind_hid H
          obtain ⟨t_27, qt_27, H⟩ := H
          go_wp2_with fail
          go_at_call 63
          refine (Go.Proofs.YtekacbjnpeglhaaDoor.GiHasValue.C (t_sizes) ((k0 : Int)) (yt_19) A0_0 c0_0 _   (Lib.hid (Cells.below M0_0.out HBwr0.out)) N0_0 qt_27).mono ?_
          rintro e_t_27 wt_27 ⟨rfl, bt_27⟩
          have HBwt_27 := Lib.hid (Below.step HBwr0.out bt_27)
          replace kt_0_0 := cell_below bt_27 kt_0_0
          replace kt_0_1 := cell_below bt_27 kt_0_1
          replace ct_19_0 := cell_below bt_27 ct_19_0
          clear bt_27
          cases t_27 with
          | false =>
            replace H := let_hid H
            obtain ⟨t_28, ht_28, H⟩ := H
            obtain rfl : t_28 = true := ht_28.symm
            replace H := ite_t H
            obtain rfl := ret_hid H
            go_wp2_with fail
            go_ret
            exact ⟨rfl, HBwt_27.out⟩
          | true =>
            replace H := let_hid H
            obtain ⟨t_28, ht_28, H⟩ := H
            obtain rfl : t_28 = false := ht_28.symm
            replace H := ite_f H
            replace H := app_hid H
            go_wp2_with fail
            go_roundg m0
            case measure => omega
            case rel => exact ⟨k0 + 1, by omega, by go_num, H, HBwt_27, kt_0_0, kt_0_1⟩
    | true =>
      have nht_11 : ¬ (kind.length = t_sizes.length) := by have := bne_iff_ne.1 ht_11; omega
      replace H := ite_t H
      obtain rfl := ret_hid H
      go_wp2_with fail
      go_ret
      exact ⟨rfl, HBwt_3.out⟩
end Go.Proofs.YtekacbjnpeglhaaDoor.GiIsKind

/- loop.example/g01062/impl.forbids as a plain function, and the contract of the program's: where the plain one has an answer, the program has it. Conditions: slices read as lists. -/
namespace Go.Proofs.YtekacbjnpeglhaaDoor.GiForbids
set_option linter.unusedVariables false
set_option linter.unusedSimpArgs false
open Go.RowKit
open Go.Proofs.YtekacbjnpeglhaaDoor.Rowed Go.Proofs.YtekacbjnpeglhaaDoor.Turn Go.Proofs.YtekacbjnpeglhaaDoor.Aid Go.Proofs.YtekacbjnpeglhaaDoor.GoP Go.Proofs.YtekacbjnpeglhaaDoor.GoM

def P (b : Go.Proofs.YtekacbjnpeglhaaDoor.PBan.Ban) (kind : (List Int)) : Option (Bool) :=
  unBan b fun (b_a : Int) (b_x : Int) (b_b : Int) (b_y : Int) =>
  Option.bind (idx kind b_a) fun (yt_5 : Int) =>
  letK (yt_5 == b_x) fun (t_9 : Bool) =>
  joinK (fun (t_19 : Bool) =>
  some t_19) fun jt_19 => iteK t_9 (Option.bind (idx kind b_b) fun (yt_14 : Int) =>
  letK (yt_14 == b_y) fun (t_18 : Bool) =>
  appK jt_19 t_18) (appK jt_19 false)

set_option maxRecDepth 100000 in
set_option maxHeartbeats 2000000 in
theorem C (b : Go.Proofs.YtekacbjnpeglhaaDoor.PBan.Ban) (kind : (List Int)) (A1 : Option Addr) (c1 : Nat)  (w : World) (M1 : Hid (Cells w 1 A1 kind.length (Go.Proofs.YtekacbjnpeglhaaDoor.HelpInt.iv kind))) (N1 : Hid (kind.length ≤ 9223372036854775807))  {r : Bool} (H : Hid (P b kind = some r)) :
    Calls Tryd.prog 47 #[b.val, .slice A1 kind.length c1] w (Gives (.bool r) w) := by
  have HB := Lib.hid (Below.refl w.heap.size w)
  unfold P at H
  obtain ⟨b_a, b_x, b_b, b_y⟩ := b
  replace H := unBan_hid H
  unfold Go.Proofs.YtekacbjnpeglhaaDoor.PBan.Ban.val
  have N1o := N1.out
  go_enter Tryd.func47, Tryd.ntmps47
  obtain ⟨w_b_0, hw_b_0⟩ : ∃ x, w.alloc (.cells #[.int .i64 b_a, .int .i64 b_x, .int .i64 b_b, .int .i64 b_y] 63) = x := ⟨_, rfl⟩
  have bw_b_0 : Below w.heap.size w w_b_0 := by rw [← hw_b_0]; exact (Below.refl _ _).alloc (Nat.le_refl _) _
  have HBw_b_0 := Lib.hid (Below.step HB.out bw_b_0)
  clear bw_b_0
  have kb_0_0 : w_b_0.cell? ⟨w.heap.size, 0, none⟩ = some (.int .i64 b_a) := by rw [← hw_b_0]; exact box_new _ _ _ 0 _ rfl
  have kb_0_1 : w_b_0.cell? ⟨w.heap.size, 1, none⟩ = some (.int .i64 b_x) := by rw [← hw_b_0]; exact box_new _ _ _ 1 _ rfl
  have kb_0_2 : w_b_0.cell? ⟨w.heap.size, 2, none⟩ = some (.int .i64 b_b) := by rw [← hw_b_0]; exact box_new _ _ _ 2 _ rfl
  have kb_0_3 : w_b_0.cell? ⟨w.heap.size, 3, none⟩ = some (.int .i64 b_y) := by rw [← hw_b_0]; exact box_new _ _ _ 3 _ rfl
  go_wp2_with fail
  have Hkb_0_0 := Lib.hid kb_0_0
  replace kb_0_0 := cell_regrown kb_0_0
  have Hkb_0_1 := Lib.hid kb_0_1
  replace kb_0_1 := cell_regrown kb_0_1
  have Hkb_0_2 := Lib.hid kb_0_2
  replace kb_0_2 := cell_regrown kb_0_2
  have Hkb_0_3 := Lib.hid kb_0_3
  replace kb_0_3 := cell_regrown kb_0_3
  replace H := idx_hid H
  obtain ⟨nt_5, yt_5, et_5, lt_5, gt_5, H⟩ := H
  subst et_5
  obtain ⟨ab_t_5, ao_t_5, zt_5, At_5, z_t_5, ct_5_0⟩ := Go.Proofs.YtekacbjnpeglhaaDoor.HelpInt.Ints.at_ M1.out lt_5
  obtain rfl := Option.some.inj (gt_5.out.symm.trans z_t_5)
  subst At_5
  have ltt_5 := cell_lt ct_5_0
  replace ct_5_0 := cell_below HBw_b_0.out ct_5_0
  clear z_t_5
  have b0t_5 : (0 : Int) ≤ (nt_5 : Int) := by omega
  have b1t_5 : (nt_5 : Int) < ((kind.length : Nat) : Int) := by omega
  have b2t_5 : ((nt_5 : Int)).toNat = nt_5 := by omega
  have Hct_5_0 := Lib.hid ct_5_0
  replace ct_5_0 := cell_regrown ct_5_0
  replace H := let_hid H
  obtain ⟨t_9, ht_9, H⟩ := H
  replace H := join_hid H
  cases t_9 with
  | false =>
    replace H := ite_f H
    replace H := app_hid H
    refine wp_region_quiet_below (by kernel_rfl) (by kernel_rfl) ?_
    repeat (go_big_quiet_step (fail))
    refine wpQuiet_nil ?_
    intro Y1 hY1
    replace hY1 := below_class hY1
    replace kb_0_0 := Hkb_0_0.out
    clear Hkb_0_0
    replace kb_0_1 := Hkb_0_1.out
    clear Hkb_0_1
    replace kb_0_2 := Hkb_0_2.out
    clear Hkb_0_2
    replace kb_0_3 := Hkb_0_3.out
    clear Hkb_0_3
    replace ct_5_0 := Hct_5_0.out
    clear Hct_5_0
    have HBY1 := Lib.hid (Below.step HBw_b_0.out hY1)
    replace kb_0_0 := cell_below hY1 kb_0_0
    replace kb_0_1 := cell_below hY1 kb_0_1
    replace kb_0_2 := cell_below hY1 kb_0_2
    replace kb_0_3 := cell_below hY1 kb_0_3
    replace ct_5_0 := cell_below hY1 ct_5_0
    clear hY1
    obtain rfl := ret_hid H
    go_wp2_with fail
    go_ret
    exact ⟨rfl, HBY1.out⟩
  | true =>
    replace H := ite_t H
    replace H := idx_hid H
    obtain ⟨nt_14, yt_14, et_14, lt_14, gt_14, H⟩ := H
    subst et_14
    obtain ⟨ab_t_14, ao_t_14, zt_14, At_14, z_t_14, ct_14_0⟩ := Go.Proofs.YtekacbjnpeglhaaDoor.HelpInt.Ints.at_ M1.out lt_14
    obtain rfl := Option.some.inj (gt_14.out.symm.trans z_t_14)
    simp only [Option.some.injEq, Addr.mk.injEq] at At_14
    obtain ⟨rfl, rfl, _⟩ := At_14
    have ltt_14 := cell_lt ct_14_0
    replace ct_14_0 := cell_below HBw_b_0.out ct_14_0
    clear z_t_14
    have b0t_14 : (0 : Int) ≤ (nt_14 : Int) := by omega
    have b1t_14 : (nt_14 : Int) < ((kind.length : Nat) : Int) := by omega
    have b2t_14 : ((nt_14 : Int)).toNat = nt_14 := by omega
    have Hct_14_0 := Lib.hid ct_14_0
    replace ct_14_0 := cell_regrown ct_14_0
    replace H := let_hid H
    obtain ⟨t_18, ht_18, H⟩ := H
    replace H := app_hid H
    refine wp_region_quiet_below (by kernel_rfl) (by kernel_rfl) ?_
    repeat (go_big_quiet_step (fail))
    refine wpQuiet_nil ?_
    intro Y1 hY1
    replace hY1 := below_class hY1
    replace kb_0_0 := Hkb_0_0.out
    clear Hkb_0_0
    replace kb_0_1 := Hkb_0_1.out
    clear Hkb_0_1
    replace kb_0_2 := Hkb_0_2.out
    clear Hkb_0_2
    replace kb_0_3 := Hkb_0_3.out
    clear Hkb_0_3
    replace ct_5_0 := Hct_5_0.out
    clear Hct_5_0
    replace ct_14_0 := Hct_14_0.out
    clear Hct_14_0
    have HBY1 := Lib.hid (Below.step HBw_b_0.out hY1)
    replace kb_0_0 := cell_below hY1 kb_0_0
    replace kb_0_1 := cell_below hY1 kb_0_1
    replace kb_0_2 := cell_below hY1 kb_0_2
    replace kb_0_3 := cell_below hY1 kb_0_3
    replace ct_5_0 := cell_below hY1 ct_5_0
    replace ct_14_0 := cell_below hY1 ct_14_0
    clear hY1
    obtain rfl := ret_hid H
    go_wp2_with fail
    go_ret
    exact ⟨rfl, HBY1.out⟩
end Go.Proofs.YtekacbjnpeglhaaDoor.GiForbids

/- loop.example/g01062/impl.IsCompatible$1 as a plain function, and the contract of the program's: where the plain one has an answer, the program has it. Conditions: slices read as lists. -/
namespace Go.Proofs.YtekacbjnpeglhaaDoor.GiIsCompatible1
set_option linter.unusedVariables false
set_option linter.unusedSimpArgs false
open Go.RowKit
open Go.Proofs.YtekacbjnpeglhaaDoor.Rowed Go.Proofs.YtekacbjnpeglhaaDoor.Turn Go.Proofs.YtekacbjnpeglhaaDoor.Aid Go.Proofs.YtekacbjnpeglhaaDoor.GoP Go.Proofs.YtekacbjnpeglhaaDoor.GoM

def P (b : Go.Proofs.YtekacbjnpeglhaaDoor.PBan.Ban) (hq0 : (List Int)) : Option (Bool) :=
  unBan b fun (b_a : Int) (b_x : Int) (b_b : Int) (b_y : Int) =>
  Option.bind (Go.Proofs.YtekacbjnpeglhaaDoor.GiForbids.P (Go.Proofs.YtekacbjnpeglhaaDoor.PBan.Ban.mk b_a b_x b_b b_y) hq0) fun (t_4 : Bool) =>
  some t_4

set_option maxRecDepth 100000 in
set_option maxHeartbeats 2000000 in
theorem C (b : Go.Proofs.YtekacbjnpeglhaaDoor.PBan.Ban) (hq0 : (List Int)) (Ahq0 : Option Addr) (chq0 : Nat) (gq0 : Nat) (w : World) (Mhq0 : Hid (Cells w 1 Ahq0 hq0.length (Go.Proofs.YtekacbjnpeglhaaDoor.HelpInt.iv hq0))) (Nhq0 : Hid (hq0.length ≤ 9223372036854775807)) (Fq0h : Hid (w.cell? ⟨gq0, 0, none⟩ = some (.slice Ahq0 hq0.length chq0))) {r : Bool} (H : Hid (P b hq0 = some r)) :
    Calls Tryd.prog 46 #[b.val, .pointer (some ⟨gq0, 0, none⟩)] w (Gives (.bool r) w) := by
  have HB := Lib.hid (Below.refl w.heap.size w)
  unfold P at H
  obtain ⟨b_a, b_x, b_b, b_y⟩ := b
  replace H := unBan_hid H
  unfold Go.Proofs.YtekacbjnpeglhaaDoor.PBan.Ban.val
  have Nhq0o := Nhq0.out
  have Fq0 := Fq0h.out
  go_enter Tryd.func46, Tryd.ntmps46
  obtain ⟨w_b_0, hw_b_0⟩ : ∃ x, w.alloc (.cells #[.int .i64 b_a, .int .i64 b_x, .int .i64 b_b, .int .i64 b_y] 63) = x := ⟨_, rfl⟩
  have bw_b_0 : Below w.heap.size w w_b_0 := by rw [← hw_b_0]; exact (Below.refl _ _).alloc (Nat.le_refl _) _
  have HBw_b_0 := Lib.hid (Below.step HB.out bw_b_0)
  have Fq0__132 := cell_below bw_b_0 Fq0
  clear bw_b_0
  have kb_0_0 : w_b_0.cell? ⟨w.heap.size, 0, none⟩ = some (.int .i64 b_a) := by rw [← hw_b_0]; exact box_new _ _ _ 0 _ rfl
  have kb_0_1 : w_b_0.cell? ⟨w.heap.size, 1, none⟩ = some (.int .i64 b_x) := by rw [← hw_b_0]; exact box_new _ _ _ 1 _ rfl
  have kb_0_2 : w_b_0.cell? ⟨w.heap.size, 2, none⟩ = some (.int .i64 b_b) := by rw [← hw_b_0]; exact box_new _ _ _ 2 _ rfl
  have kb_0_3 : w_b_0.cell? ⟨w.heap.size, 3, none⟩ = some (.int .i64 b_y) := by rw [← hw_b_0]; exact box_new _ _ _ 3 _ rfl
  replace H := bind_hid H
  obtain ⟨t_4, qt_4, H⟩ := H
  go_wp2_with fail
  clear Fq0
  go_at_call 47
  refine (Go.Proofs.YtekacbjnpeglhaaDoor.GiForbids.C ((Go.Proofs.YtekacbjnpeglhaaDoor.PBan.Ban.mk b_a b_x b_b b_y)) (hq0) Ahq0 chq0 _   (Lib.hid (Cells.below Mhq0.out HBw_b_0.out)) Nhq0 qt_4).mono ?_
  rintro e_t_4 wt_4 ⟨rfl, bt_4⟩
  have HBwt_4 := Lib.hid (Below.step HBw_b_0.out bt_4)
  replace Fq0__132 := cell_below bt_4 Fq0__132
  replace kb_0_0 := cell_below bt_4 kb_0_0
  replace kb_0_1 := cell_below bt_4 kb_0_1
  replace kb_0_2 := cell_below bt_4 kb_0_2
  replace kb_0_3 := cell_below bt_4 kb_0_3
  clear bt_4
  obtain rfl := ret_hid H
  go_wp2_with fail
  go_ret
  exact ⟨rfl, HBwt_4.out⟩
end Go.Proofs.YtekacbjnpeglhaaDoor.GiIsCompatible1

/- slices.IndexFunc[[]loop.example/g01062/impl.Ban,loop.example/g01062/impl.Ban] as a plain function, and the contract of the program's: where the plain one has an answer, the program has it. Conditions: slices read as lists. -/
namespace Go.Proofs.YtekacbjnpeglhaaDoor.GxSlicesIndexFuncLoopExampleG01062ImplBanLoopExampleG01062ImplBaniIsCompatible1
set_option linter.unusedVariables false
set_option linter.unusedSimpArgs false
open Go.RowKit
open Go.Proofs.YtekacbjnpeglhaaDoor.Rowed Go.Proofs.YtekacbjnpeglhaaDoor.Turn Go.Proofs.YtekacbjnpeglhaaDoor.Aid Go.Proofs.YtekacbjnpeglhaaDoor.GoP Go.Proofs.YtekacbjnpeglhaaDoor.GoM

def l0 (s_0 : (List Go.Proofs.YtekacbjnpeglhaaDoor.PBan.Ban)) (hf1_0 : (List Int)) (k0 : Nat) (s : Unit) (nx0 bk0 : Unit → Option (Int)) : Option (Int) :=
  
  Option.bind (idx s_0 (k0 : Int)) fun (yt_10 : Go.Proofs.YtekacbjnpeglhaaDoor.PBan.Ban) =>
  unBan yt_10 fun (t_10_a : Int) (t_10_x : Int) (t_10_b : Int) (t_10_y : Int) =>
  Option.bind (Go.Proofs.YtekacbjnpeglhaaDoor.GiIsCompatible1.P (Go.Proofs.YtekacbjnpeglhaaDoor.PBan.Ban.mk t_10_a t_10_x t_10_b t_10_y) hf1_0) fun (t_12 : Bool) =>
  iteK t_12
  (some (k0 : Int))
  (appK nx0 ())

def e0  (s : Unit) : Option (Int) :=
  
  some (-1)

def P (s_0 : (List Go.Proofs.YtekacbjnpeglhaaDoor.PBan.Ban)) (hf1_0 : (List Int)) : Option (Int) :=
  cntK (l0 s_0 hf1_0) (s_0.length) 0 () (e0 )

set_option maxRecDepth 100000 in
set_option maxHeartbeats 2000000 in
theorem C (s_0 : (List Go.Proofs.YtekacbjnpeglhaaDoor.PBan.Ban)) (hf1_0 : (List Int)) (A0 : Option Addr) (c0 : Nat) (Ahf1_0 : Option Addr) (chf1_0 : Nat) (gf1_0 : Nat) (w : World) (M0 : Hid (Cells w 4 A0 s_0.length (Go.Proofs.YtekacbjnpeglhaaDoor.PBan.flat s_0))) (N0 : Hid (s_0.length ≤ 9223372036854775807)) (Mhf1_0 : Hid (Cells w 1 Ahf1_0 hf1_0.length (Go.Proofs.YtekacbjnpeglhaaDoor.HelpInt.iv hf1_0))) (Nhf1_0 : Hid (hf1_0.length ≤ 9223372036854775807)) (Ff1_0h : Hid (w.cell? ⟨gf1_0, 0, none⟩ = some (.slice Ahf1_0 hf1_0.length chf1_0))) {r : Int} (H : Hid (P s_0 hf1_0 = some r)) :
    Calls Tryd.prog 67 #[.slice A0 s_0.length c0, .func (.func 46) #[] #[.pointer (some ⟨gf1_0, 0, none⟩)]] w (Gives (.int .i64 r) w) := by
  have HB := Lib.hid (Below.refl w.heap.size w)
  unfold P at H
  have N0o := N0.out
  have Nhf1_0o := Nhf1_0.out
  have Ff1_0 := Ff1_0h.out
  go_enter Tryd.func67, Tryd.ntmps67
  go_wp2_with fail
  go_loopg [8] (s_0.length) (fun m_ v8_ wr => ∃ (k0 : Nat) , k0 + m_ = s_0.length ∧ v8_ = .int .i64 (k0 : Int) ∧ Hid (cntK (l0 s_0 hf1_0) m_ k0 () (e0 ) = some r) ∧ Hid (Below w.heap.size w wr) ∧ wr.cell? ⟨gf1_0, 0, none⟩ = some (.slice Ahf1_0 hf1_0.length chf1_0))
  case atStart => exact ⟨0, by omega, rfl, H, HB, Ff1_0⟩
  case round =>
    obtain ⟨k0, hkm0, rfl, H, HBwr0, Ff1_0⟩ := hrel
    rename World => wr0
    cases gk with
    | zero =>
      obtain rfl : k0 = s_0.length := by omega
      have hc0 : decide (((s_0.length : Nat) : Int) < ((s_0.length : Nat) : Int)) = false := by simp
      replace H := cnt_zero H
      unfold e0 at H
      obtain rfl := ret_hid H
      go_wp2_with fail
      go_ret
      exact ⟨rfl, HBwr0.out⟩
    | succ m0 =>
      have hlt0 : k0 < s_0.length := by omega
      have hc0 : decide ((k0 : Int) < ((s_0.length : Nat) : Int)) = true := by simp; omega
      replace H := cnt_succ H
      unfold l0 at H
      replace H := idx_hid H
      obtain ⟨nt_10, yt_10, et_10, lt_10, gt_10, H⟩ := H
      obtain rfl : k0 = nt_10 := by omega
      clear et_10
      obtain ⟨t_10_a, t_10_x, t_10_b, t_10_y⟩ := yt_10
      replace H := unBan_hid H
      obtain ⟨ab_t_10, ao_t_10, zt_10, At_10, z_t_10, ct_10_0, ct_10_1, ct_10_2, ct_10_3⟩ := Go.Proofs.YtekacbjnpeglhaaDoor.OBan.at_ M0.out lt_10
      obtain rfl := Option.some.inj (gt_10.out.symm.trans z_t_10)
      subst At_10
      have ltt_10 := cell_lt ct_10_0
      replace ct_10_0 := cell_below HBwr0.out ct_10_0
      replace ct_10_1 := cell_below HBwr0.out ct_10_1
      replace ct_10_2 := cell_below HBwr0.out ct_10_2
      replace ct_10_3 := cell_below HBwr0.out ct_10_3
      clear z_t_10
      have b0t_10 : (0 : Int) ≤ (k0 : Int) := by omega
      have b1t_10 : (k0 : Int) < ((s_0.length : Nat) : Int) := by omega
      have b2t_10 : ((k0 : Int)).toNat = k0 := by omega
      replace H := bind_hid H
      obtain ⟨t_12, qt_12, H⟩ := H
      go_wp2_with fail
      go_at_call 46
      refine (Go.Proofs.YtekacbjnpeglhaaDoor.GiIsCompatible1.C ((Go.Proofs.YtekacbjnpeglhaaDoor.PBan.Ban.mk t_10_a t_10_x t_10_b t_10_y)) (hf1_0) Ahf1_0 chf1_0 (gf1_0) _   (Lib.hid (Cells.below Mhf1_0.out HBwr0.out)) Nhf1_0 (Lib.hid Ff1_0) qt_12).mono ?_
      rintro e_t_12 wt_12 ⟨rfl, bt_12⟩
      have HBwt_12 := Lib.hid (Below.step HBwr0.out bt_12)
      replace Ff1_0 := cell_below bt_12 Ff1_0
      replace ct_10_0 := cell_below bt_12 ct_10_0
      replace ct_10_1 := cell_below bt_12 ct_10_1
      replace ct_10_2 := cell_below bt_12 ct_10_2
      replace ct_10_3 := cell_below bt_12 ct_10_3
      clear bt_12
      cases t_12 with
      | false =>
        replace H := ite_f H
        replace H := app_hid H
        go_wp2_with fail
        go_roundg m0
        case measure => omega
        case rel => exact ⟨k0 + 1, by omega, by go_num, H, HBwt_12, Ff1_0⟩
      | true =>
        replace H := ite_t H
        obtain rfl := ret_hid H
        go_wp2_with fail
        go_ret
        exact ⟨rfl, HBwt_12.out⟩
end Go.Proofs.YtekacbjnpeglhaaDoor.GxSlicesIndexFuncLoopExampleG01062ImplBanLoopExampleG01062ImplBaniIsCompatible1

/- slices.ContainsFunc[[]loop.example/g01062/impl.Ban,loop.example/g01062/impl.Ban] as a plain function, and the contract of the program's: where the plain one has an answer, the program has it. Conditions: slices read as lists. -/
namespace Go.Proofs.YtekacbjnpeglhaaDoor.GxSlicesContainsFuncLoopExampleG01062ImplBanLoopExampleG01062ImplBaniIsCompatible1
set_option linter.unusedVariables false
set_option linter.unusedSimpArgs false
open Go.RowKit
open Go.Proofs.YtekacbjnpeglhaaDoor.Rowed Go.Proofs.YtekacbjnpeglhaaDoor.Turn Go.Proofs.YtekacbjnpeglhaaDoor.Aid Go.Proofs.YtekacbjnpeglhaaDoor.GoP Go.Proofs.YtekacbjnpeglhaaDoor.GoM

def P (s_0 : (List Go.Proofs.YtekacbjnpeglhaaDoor.PBan.Ban)) (hf1_0 : (List Int)) : Option (Bool) :=
  Option.bind (Go.Proofs.YtekacbjnpeglhaaDoor.GxSlicesIndexFuncLoopExampleG01062ImplBanLoopExampleG01062ImplBaniIsCompatible1.P s_0 hf1_0) fun (t_3 : Int) =>
  letK (decide (0 ≤ t_3)) fun (t_4 : Bool) =>
  some t_4

set_option maxRecDepth 100000 in
set_option maxHeartbeats 2000000 in
theorem C (s_0 : (List Go.Proofs.YtekacbjnpeglhaaDoor.PBan.Ban)) (hf1_0 : (List Int)) (A0 : Option Addr) (c0 : Nat) (Ahf1_0 : Option Addr) (chf1_0 : Nat) (gf1_0 : Nat) (w : World) (M0 : Hid (Cells w 4 A0 s_0.length (Go.Proofs.YtekacbjnpeglhaaDoor.PBan.flat s_0))) (N0 : Hid (s_0.length ≤ 9223372036854775807)) (Mhf1_0 : Hid (Cells w 1 Ahf1_0 hf1_0.length (Go.Proofs.YtekacbjnpeglhaaDoor.HelpInt.iv hf1_0))) (Nhf1_0 : Hid (hf1_0.length ≤ 9223372036854775807)) (Ff1_0h : Hid (w.cell? ⟨gf1_0, 0, none⟩ = some (.slice Ahf1_0 hf1_0.length chf1_0))) {r : Bool} (H : Hid (P s_0 hf1_0 = some r)) :
    Calls Tryd.prog 45 #[.slice A0 s_0.length c0, .func (.func 46) #[] #[.pointer (some ⟨gf1_0, 0, none⟩)]] w (Gives (.bool r) w) := by
  have HB := Lib.hid (Below.refl w.heap.size w)
  unfold P at H
  have N0o := N0.out
  have Nhf1_0o := Nhf1_0.out
  have Ff1_0 := Ff1_0h.out
  go_enter Tryd.func45, Tryd.ntmps45
  replace H := bind_hid H
  obtain ⟨t_3, qt_3, H⟩ := H
  go_wp2_with fail
  go_at_call 67
  refine (Go.Proofs.YtekacbjnpeglhaaDoor.GxSlicesIndexFuncLoopExampleG01062ImplBanLoopExampleG01062ImplBaniIsCompatible1.C (s_0) (hf1_0) A0 c0 Ahf1_0 chf1_0 (gf1_0) _   (Lib.hid (Cells.below M0.out HB.out)) N0 (Lib.hid (Cells.below Mhf1_0.out HB.out)) Nhf1_0 (Lib.hid Ff1_0) qt_3).mono ?_
  rintro e_t_3 wt_3 ⟨rfl, bt_3⟩
  have HBwt_3 := Lib.hid (Below.step HB.out bt_3)
  replace Ff1_0 := cell_below bt_3 Ff1_0
  clear bt_3
  replace H := let_hid H
  obtain ⟨t_4, ht_4, H⟩ := H
  obtain rfl := ret_hid H
  go_wp2_with fail
  go_ret
  exact ⟨rfl, HBwt_3.out⟩
end Go.Proofs.YtekacbjnpeglhaaDoor.GxSlicesContainsFuncLoopExampleG01062ImplBanLoopExampleG01062ImplBaniIsCompatible1

/- loop.example/g01062/impl.IsCompatible as a plain function, and the contract of the program's: where the plain one has an answer, the program has it. Conditions: slices read as lists. -/
namespace Go.Proofs.YtekacbjnpeglhaaDoor.GiIsCompatible
set_option linter.unusedVariables false
set_option linter.unusedSimpArgs false
open Go.RowKit
open Go.Proofs.YtekacbjnpeglhaaDoor.Rowed Go.Proofs.YtekacbjnpeglhaaDoor.Turn Go.Proofs.YtekacbjnpeglhaaDoor.Aid Go.Proofs.YtekacbjnpeglhaaDoor.GoP Go.Proofs.YtekacbjnpeglhaaDoor.GoM

def P (t_sizes : (List Int)) (t_bans : (List Go.Proofs.YtekacbjnpeglhaaDoor.PBan.Ban)) (kind : (List Int)) : Option (Bool × Bool) :=
  Option.bind (Go.Proofs.YtekacbjnpeglhaaDoor.GiIsKind.P t_sizes t_bans kind) fun (t_6 : Bool) =>
  letK (!t_6) fun (t_7 : Bool) =>
  iteK t_7
  (some (false, false))
  (Option.bind (Go.Proofs.YtekacbjnpeglhaaDoor.GxSlicesContainsFuncLoopExampleG01062ImplBanLoopExampleG01062ImplBaniIsCompatible1.P t_bans kind) fun (t_13 : Bool) =>
  letK (!t_13) fun (t_16 : Bool) =>
  some (t_16, true))

set_option maxRecDepth 100000 in
set_option maxHeartbeats 2000000 in
theorem C (t_sizes : (List Int)) (t_bans : (List Go.Proofs.YtekacbjnpeglhaaDoor.PBan.Ban)) (kind : (List Int)) (A0_0 : Option Addr) (c0_0 : Nat) (A0_1 : Option Addr) (c0_1 : Nat) (A1 : Option Addr) (c1 : Nat)  (w : World) (M0_0 : Hid (Cells w 1 A0_0 t_sizes.length (Go.Proofs.YtekacbjnpeglhaaDoor.HelpInt.iv t_sizes))) (N0_0 : Hid (t_sizes.length ≤ 9223372036854775807)) (M0_1 : Hid (Cells w 4 A0_1 t_bans.length (Go.Proofs.YtekacbjnpeglhaaDoor.PBan.flat t_bans))) (N0_1 : Hid (t_bans.length ≤ 9223372036854775807)) (M1 : Hid (Cells w 1 A1 kind.length (Go.Proofs.YtekacbjnpeglhaaDoor.HelpInt.iv kind))) (N1 : Hid (kind.length ≤ 9223372036854775807))  {r0 : Bool} {r1 : Bool} (H : Hid (P t_sizes t_bans kind = some (r0, r1))) :
    Calls Tryd.prog 21 #[.agg #[.slice A0_0 t_sizes.length c0_0, .slice A0_1 t_bans.length c0_1], .slice A1 kind.length c1] w (Gives (.tuple #[.bool r0, .bool r1]) w) := by
  have HB := Lib.hid (Below.refl w.heap.size w)
  unfold P at H
  have N0_0o := N0_0.out
  have N0_1o := N0_1.out
  have N1o := N1.out
  go_enter Tryd.func21, Tryd.ntmps21
  obtain ⟨w_t_0, hw_t_0⟩ : ∃ x, w.alloc (.cells #[.slice A0_0 t_sizes.length c0_0, .slice A0_1 t_bans.length c0_1] 31) = x := ⟨_, rfl⟩
  have bw_t_0 : Below w.heap.size w w_t_0 := by rw [← hw_t_0]; exact (Below.refl _ _).alloc (Nat.le_refl _) _
  have HBw_t_0 := Lib.hid (Below.step HB.out bw_t_0)
  clear bw_t_0
  have kt_0_0 : w_t_0.cell? ⟨w.heap.size, 0, none⟩ = some (.slice A0_0 t_sizes.length c0_0) := by rw [← hw_t_0]; exact box_new _ _ _ 0 _ rfl
  have kt_0_1 : w_t_0.cell? ⟨w.heap.size, 1, none⟩ = some (.slice A0_1 t_bans.length c0_1) := by rw [← hw_t_0]; exact box_new _ _ _ 1 _ rfl
  obtain ⟨w_kind_1, hw_kind_1⟩ : ∃ x, w_t_0.alloc (.cells #[.slice A1 kind.length c1] 22) = x := ⟨_, rfl⟩
  have bw_kind_1 : Below w_t_0.heap.size w_t_0 w_kind_1 := by rw [← hw_kind_1]; exact (Below.refl _ _).alloc (Nat.le_refl _) _
  have HBw_kind_1 := Lib.hid (Below.step HBw_t_0.out bw_kind_1)
  have kt_0_0__133 := cell_below bw_kind_1 kt_0_0
  have kt_0_1__134 := cell_below bw_kind_1 kt_0_1
  clear bw_kind_1
  have kkind_1_0 : w_kind_1.cell? ⟨w_t_0.heap.size, 0, none⟩ = some (.slice A1 kind.length c1) := by rw [← hw_kind_1]; exact box_new _ _ _ 0 _ rfl
  replace H := bind_hid H
  obtain ⟨t_6, qt_6, H⟩ := H
  go_wp2_with fail
  clear kt_0_0 kt_0_1
  go_at_call 44
  refine (Go.Proofs.YtekacbjnpeglhaaDoor.GiIsKind.C (t_sizes) (t_bans) (kind) A0_0 c0_0 A0_1 c0_1 A1 c1 _   (Lib.hid (Cells.below M0_0.out HBw_kind_1.out)) N0_0 (Lib.hid (Cells.below M0_1.out HBw_kind_1.out)) N0_1 (Lib.hid (Cells.below M1.out HBw_kind_1.out)) N1 qt_6).mono ?_
  rintro e_t_6 wt_6 ⟨rfl, bt_6⟩
  have HBwt_6 := Lib.hid (Below.step HBw_kind_1.out bt_6)
  replace kt_0_0__133 := cell_below bt_6 kt_0_0__133
  replace kt_0_1__134 := cell_below bt_6 kt_0_1__134
  replace kkind_1_0 := cell_below bt_6 kkind_1_0
  clear bt_6
  cases t_6 with
  | false =>
    replace H := let_hid H
    obtain ⟨t_7, ht_7, H⟩ := H
    obtain rfl : t_7 = true := ht_7.symm
    replace H := ite_t H
    cases ret_hid H
    go_wp2_with fail
    go_ret2
    exact ⟨rfl, HBwt_6.out⟩
  | true =>
    replace H := let_hid H
    obtain ⟨t_7, ht_7, H⟩ := H
    obtain rfl : t_7 = false := ht_7.symm
    replace H := ite_f H
    replace H := bind_hid H
    obtain ⟨t_13, qt_13, H⟩ := H
    go_wp2_with fail
    go_at_call 45
    refine (Go.Proofs.YtekacbjnpeglhaaDoor.GxSlicesContainsFuncLoopExampleG01062ImplBanLoopExampleG01062ImplBaniIsCompatible1.C (t_bans) (kind) A0_1 c0_1 A1 c1 (w_t_0.heap.size) _   (Lib.hid (Cells.below M0_1.out HBwt_6.out)) N0_1 (Lib.hid (Cells.below M1.out HBwt_6.out)) N1 (Lib.hid kkind_1_0) qt_13).mono ?_
    rintro e_t_13 wt_13 ⟨rfl, bt_13⟩
    have HBwt_13 := Lib.hid (Below.step HBwt_6.out bt_13)
    replace kt_0_0__133 := cell_below bt_13 kt_0_0__133
    replace kt_0_1__134 := cell_below bt_13 kt_0_1__134
    replace kkind_1_0 := cell_below bt_13 kkind_1_0
    clear bt_13
    cases t_13 with
    | false =>
      replace H := let_hid H
      obtain ⟨t_16, ht_16, H⟩ := H
      obtain rfl : t_16 = true := ht_16.symm
      cases ret_hid H
      go_wp2_with fail
      go_ret2
      exact ⟨rfl, HBwt_13.out⟩
    | true =>
      replace H := let_hid H
      obtain ⟨t_16, ht_16, H⟩ := H
      obtain rfl : t_16 = false := ht_16.symm
      cases ret_hid H
      go_wp2_with fail
      go_ret2
      exact ⟨rfl, HBwt_13.out⟩
end Go.Proofs.YtekacbjnpeglhaaDoor.GiIsCompatible

/- strconv.Itoa as a plain function; the contract of the program's. Condition: the library's table of powers of ten is as the library lays it. -/
namespace Go.Proofs.YtekacbjnpeglhaaDoor.GxStrconvItoa
set_option linter.unusedVariables false
open Go.RowKit
open Go.Proofs.YtekacbjnpeglhaaDoor.Turn Go.Proofs.YtekacbjnpeglhaaDoor.Tab
def P (n : Int) : Option ByteArray := if -9223372036854775808 ≤ n ∧ n ≤ 9223372036854775807 then some ⟨(Lib.itoa n).toArray⟩ else none
theorem C (n : Int) (w : World) (HT : Hid (Tab w)) {r : ByteArray} (H : Hid (P n = some r)) : Calls Tryd.prog 33 #[.int .i64 n] w (Gives (.string r) w) := by
  have h : P n = some r := H
  unfold P at h
  by_cases hk : -9223372036854775808 ≤ n ∧ n ≤ 9223372036854775807
  · rw [if_pos hk] at h
    obtain rfl := Option.some.inj h
    exact itoa_any n hk.1 hk.2 w HT
  · rw [if_neg hk] at h; simp at h
end Go.Proofs.YtekacbjnpeglhaaDoor.GxStrconvItoa

/- strings.Join as a plain function; the contract of the program's. Condition: the slice reads as strings. -/
namespace Go.Proofs.YtekacbjnpeglhaaDoor.GxStringsJoin
set_option linter.unusedVariables false
open Go.RowKit
open Go.Proofs.YtekacbjnpeglhaaDoor.Rowed Go.Proofs.YtekacbjnpeglhaaDoor.Turn Go.Proofs.YtekacbjnpeglhaaDoor.GoM
def P (l : List ByteArray) (sep : ByteArray) : Option ByteArray :=
  if l.length ≤ 140737488355328 ∧ (Lib.join (l.map (·.data.toList)) sep.data.toList).length ≤ 140737488355328 then some ⟨(Lib.join (l.map (·.data.toList)) sep.data.toList).toArray⟩ else none
theorem C (l : List ByteArray) (sep : ByteArray) (A : Option Addr) (c : Nat) (w : World) (M : Hid (Cells w 1 A l.length (l.map Value.string))) (N : Hid (l.length ≤ 9223372036854775807)) (Q : Hid (Room A l.length c)) {r : ByteArray} (H : Hid (P l sep = some r)) :
    Calls Tryd.prog 34 #[.slice A l.length c, .string sep] w (Gives (.string r) w) := by
  have h : P l sep = some r := H
  unfold P at h
  by_cases hk : l.length ≤ 140737488355328 ∧ (Lib.join (l.map (·.data.toList)) sep.data.toList).length ≤ 140737488355328
  · rw [if_pos hk] at h
    obtain rfl := Option.some.inj h
    by_cases h0 : l.length = 0
    · obtain rfl : l = [] := List.eq_nil_of_length_eq_zero h0
      refine (Tryd.strings_Join_none A c sep w).mono ?_
      rintro e w' ⟨rfl, rfl⟩
      exact ⟨rfl, Below.refl _ _⟩
    · obtain ⟨b, o, x, rfl, _, hx⟩ := strs_at M.out (k := 0) (by omega)
      refine (Tryd.strings_Join b o c l sep w (fun j x hj => ?_) (cell_lt hx) hk.1 Q.out.1 hk.2).mono ?_
      · obtain ⟨b', o', x', e, hj', hx'⟩ := strs_at M.out (k := j) (List.getElem?_eq_some_iff.1 hj).1
        simp only [Option.some.injEq, Addr.mk.injEq] at e
        obtain ⟨rfl, rfl, _⟩ := e
        obtain rfl := Option.some.inj (hj.symm.trans hj')
        exact hx'
      · rintro e w' ⟨rfl, hb⟩
        exact ⟨rfl, hb⟩
  · rw [if_neg hk] at h; simp at h
end Go.Proofs.YtekacbjnpeglhaaDoor.GxStringsJoin

/- loop.example/g01062/impl.KindText as a plain function, and the contract of the program's: where the plain one has an answer, the program has it. Conditions: slices read as lists. -/
namespace Go.Proofs.YtekacbjnpeglhaaDoor.GiKindText
set_option linter.unusedVariables false
set_option linter.unusedSimpArgs false
open Go.RowKit
open Go.Proofs.YtekacbjnpeglhaaDoor.Rowed Go.Proofs.YtekacbjnpeglhaaDoor.Turn Go.Proofs.YtekacbjnpeglhaaDoor.Aid Go.Proofs.YtekacbjnpeglhaaDoor.GoP Go.Proofs.YtekacbjnpeglhaaDoor.GoM Go.Proofs.YtekacbjnpeglhaaDoor.Tab

def l0 (kind : (List Int)) (k0 : Nat) (s : (List ByteArray)) (nx0 bk0 : (List ByteArray) → Option (ByteArray × Bool)) : Option (ByteArray × Bool) :=
  letK s fun values_8l0 =>
  Option.bind (idx kind (k0 : Int)) fun (yt_21 : Int) =>
  Option.bind (Go.Proofs.YtekacbjnpeglhaaDoor.GxStrconvItoa.P yt_21) fun (t_26 : ByteArray) =>
  guardK (values_8l0.length ≤ 1099511627776) <|
  letK (values_8l0 ++ [t_26]) fun (t_28 : (List ByteArray)) =>
  appK nx0 (t_28)

def j0  (s : ByteArray) : Option (ByteArray × Bool) :=
  some (s, true)

def e0 (t_5a : Bool) (s : (List ByteArray)) : Option (ByteArray × Bool) :=
  letK s fun values_8l0 =>
  Option.bind (Go.Proofs.YtekacbjnpeglhaaDoor.GxStringsJoin.P values_8l0 (⟨#[45]⟩ : ByteArray)) fun (t_33 : ByteArray) =>
  letK (!t_5a) fun (t_36 : Bool) =>
  iteK t_36
  (guardK (t_33.size + (⟨#[33]⟩ : ByteArray).size ≤ maxLen) <|
  letK (t_33 ++ (⟨#[33]⟩ : ByteArray)) fun (t_38 : ByteArray) =>
  j0  (t_38))
  (j0  (t_33))

def P (t_sizes : (List Int)) (t_bans : (List Go.Proofs.YtekacbjnpeglhaaDoor.PBan.Ban)) (kind : (List Int)) : Option (ByteArray × Bool) :=
  bind2 (Go.Proofs.YtekacbjnpeglhaaDoor.GiIsCompatible.P t_sizes t_bans kind) fun (t_5a : Bool) (t_5b : Bool) =>
  letK (!t_5b) fun (t_12 : Bool) =>
  iteK t_12
  (some ((⟨#[]⟩ : ByteArray), false))
  (cntK (l0 kind) (kind.length) 0 (([] : List ByteArray)) (e0 t_5a))

set_option maxRecDepth 100000 in
set_option maxHeartbeats 2000000 in
theorem C (t_sizes : (List Int)) (t_bans : (List Go.Proofs.YtekacbjnpeglhaaDoor.PBan.Ban)) (kind : (List Int)) (A0_0 : Option Addr) (c0_0 : Nat) (A0_1 : Option Addr) (c0_1 : Nat) (A1 : Option Addr) (c1 : Nat)  (w : World) (HT : Hid (Tab w)) (M0_0 : Hid (Cells w 1 A0_0 t_sizes.length (Go.Proofs.YtekacbjnpeglhaaDoor.HelpInt.iv t_sizes))) (N0_0 : Hid (t_sizes.length ≤ 9223372036854775807)) (M0_1 : Hid (Cells w 4 A0_1 t_bans.length (Go.Proofs.YtekacbjnpeglhaaDoor.PBan.flat t_bans))) (N0_1 : Hid (t_bans.length ≤ 9223372036854775807)) (M1 : Hid (Cells w 1 A1 kind.length (Go.Proofs.YtekacbjnpeglhaaDoor.HelpInt.iv kind))) (N1 : Hid (kind.length ≤ 9223372036854775807))  {r0 : ByteArray} {r1 : Bool} (H : Hid (P t_sizes t_bans kind = some (r0, r1))) :
    Calls Tryd.prog 9 #[.agg #[.slice A0_0 t_sizes.length c0_0, .slice A0_1 t_bans.length c0_1], .slice A1 kind.length c1] w (Gives (.tuple #[.string r0, .bool r1]) w) := by
  have HB := Lib.hid (Below.refl w.heap.size w)
  unfold P at H
  have N0_0o := N0_0.out
  have N0_1o := N0_1.out
  have N1o := N1.out
  obtain ⟨i0_9, hi_9, hz0_9, hz1_9, hz2_9⟩ := Aid.info_parts (P := Tryd.prog) (T := 9) (z := .string ByteArray.empty) (s := 1) (b := 16) (by kernel_rfl)
  go_enter Tryd.func9, Tryd.ntmps9
  obtain ⟨w_t_0, hw_t_0⟩ : ∃ x, w.alloc (.cells #[.slice A0_0 t_sizes.length c0_0, .slice A0_1 t_bans.length c0_1] 31) = x := ⟨_, rfl⟩
  have bw_t_0 : Below w.heap.size w w_t_0 := by rw [← hw_t_0]; exact (Below.refl _ _).alloc (Nat.le_refl _) _
  have HBw_t_0 := Lib.hid (Below.step HB.out bw_t_0)
  clear bw_t_0
  have kt_0_0 : w_t_0.cell? ⟨w.heap.size, 0, none⟩ = some (.slice A0_0 t_sizes.length c0_0) := by rw [← hw_t_0]; exact box_new _ _ _ 0 _ rfl
  have kt_0_1 : w_t_0.cell? ⟨w.heap.size, 1, none⟩ = some (.slice A0_1 t_bans.length c0_1) := by rw [← hw_t_0]; exact box_new _ _ _ 1 _ rfl
  replace H := bind2_hid H
  obtain ⟨t_5a, t_5b, qt_5, H⟩ := H
  go_wp2_with fail
  go_at_call 21
  refine (Go.Proofs.YtekacbjnpeglhaaDoor.GiIsCompatible.C (t_sizes) (t_bans) (kind) A0_0 c0_0 A0_1 c0_1 A1 c1 _   (Lib.hid (Cells.below M0_0.out HBw_t_0.out)) N0_0 (Lib.hid (Cells.below M0_1.out HBw_t_0.out)) N0_1 (Lib.hid (Cells.below M1.out HBw_t_0.out)) N1 qt_5).mono ?_
  rintro e_t_5 wt_5 ⟨rfl, bt_5⟩
  have HBwt_5 := Lib.hid (Below.step HBw_t_0.out bt_5)
  replace kt_0_0 := cell_below bt_5 kt_0_0
  replace kt_0_1 := cell_below bt_5 kt_0_1
  clear bt_5
  cases t_5b with
  | false =>
    replace H := let_hid H
    obtain ⟨t_12, ht_12, H⟩ := H
    obtain rfl : t_12 = true := ht_12.symm
    replace H := ite_t H
    cases ret_hid H
    go_wp2_with fail
    go_ret2
    exact ⟨rfl, HBwt_5.out⟩
  | true =>
    replace H := let_hid H
    obtain ⟨t_12, ht_12, H⟩ := H
    obtain rfl : t_12 = false := ht_12.symm
    replace H := ite_f H
    obtain ⟨w_t_15, hw_t_15⟩ : ∃ x, wt_5.alloc (.cells #[] 9) = x := ⟨_, rfl⟩
    have bw_t_15 : Below wt_5.heap.size wt_5 w_t_15 := by rw [← hw_t_15]; exact (Below.refl _ _).alloc (Nat.le_refl _) _
    have Ot_15 : Hid (w_t_15.ownsRow w.heap.size 9 1 (.slice (some ⟨wt_5.heap.size, 0, none⟩) 0 0) 0 []) := Lib.hid (by rw [← hw_t_15]; exact own_empty HBwt_5.out.size)
    have Dt_15_t_0 := Lib.hid (apart_box kt_0_0)
    have HBw_t_15 := Lib.hid (Below.step HBwt_5.out bw_t_15)
    have kt_0_0__135 := cell_below bw_t_15 kt_0_0
    have kt_0_1__136 := cell_below bw_t_15 kt_0_1
    clear bw_t_15
    go_wp2_with fail
    clear kt_0_0 kt_0_1
    go_loopg [23, 8] (kind.length) (fun m_ v23_ v8_ wr => ∃ (k0 : Nat) (values_8l0 : (List ByteArray)) (Avalues_8l0 : Option Addr) (cvalues_8l0 : Nat), k0 + m_ = kind.length ∧ v23_ = .int .i64 (k0 : Int) ∧ v8_ = .slice Avalues_8l0 values_8l0.length cvalues_8l0 ∧ Hid (cntK (l0 kind) m_ k0 (values_8l0) (e0 t_5a) = some (r0, r1)) ∧ Hid (Below w.heap.size w wr) ∧ wr.cell? ⟨w.heap.size, 0, none⟩ = some (.slice A0_0 t_sizes.length c0_0) ∧ wr.cell? ⟨w.heap.size, 1, none⟩ = some (.slice A0_1 t_bans.length c0_1) ∧ Hid (wr.ownsRow w.heap.size 9 1 (.slice Avalues_8l0 values_8l0.length cvalues_8l0) values_8l0.length (values_8l0.map Value.string)) ∧ Hid (Apart Avalues_8l0 (some ⟨w.heap.size, 0, none⟩)))
    case atStart => exact ⟨0, _, _, _, by omega, rfl, rfl, H, HBw_t_15, kt_0_0__135, kt_0_1__136, Ot_15, Lib.hid Dt_15_t_0.out⟩
    case round =>
      obtain ⟨k0, values_8l0, Avalues_8l0, cvalues_8l0, hkm0, rfl, rfl, H, HBwr0, kt_0_0__135, kt_0_1__136, Ovalues_8l0, Dvalues_8l0_t_0⟩ := hrel
      rename World => wr0
      cases gk with
      | zero =>
        obtain rfl : k0 = kind.length := by omega
        have hc0 : decide (((kind.length : Nat) : Int) < ((kind.length : Nat) : Int)) = false := by simp
        replace H := cnt_zero H
        unfold e0 at H
        replace H := let_hid H
        obtain ⟨_, rfl, H⟩ := H
        replace H := bind_hid H
        obtain ⟨t_33, qt_33, H⟩ := H
        go_wp2_with fail
        go_at_call 34
        refine (Go.Proofs.YtekacbjnpeglhaaDoor.GxStringsJoin.C (values_8l0) ((⟨#[45]⟩ : ByteArray)) Avalues_8l0 cvalues_8l0 _   (Lib.hid (own_cells Ovalues_8l0.out)) (Lib.hid (own_max Ovalues_8l0.out)) (Lib.hid (own_room Ovalues_8l0.out)) qt_33).mono ?_
        rintro e_t_33 wt_33 ⟨rfl, bt_33⟩
        have HBwt_33 := Lib.hid (Below.step HBwr0.out bt_33)
        replace kt_0_0__135 := cell_below bt_33 kt_0_0__135
        replace kt_0_1__136 := cell_below bt_33 kt_0_1__136
        replace Ovalues_8l0 := Lib.hid (own_below Ovalues_8l0.out bt_33)
        clear bt_33
        cases t_5a with
        | false =>
          replace H := let_hid H
          obtain ⟨t_36, ht_36, H⟩ := H
          obtain rfl : t_36 = true := ht_36.symm
          replace H := ite_t H
          replace H := guard_hid H
          obtain ⟨hl_t_38, H⟩ := H
          replace H := let_hid H
          obtain ⟨t_38, ht_38, H⟩ := H
          have ct_38 := cat_rule (P := Tryd.prog) ht_38 hl_t_38
          clear hl_t_38
          have hht_38 := Lib.hid ht_38
          clear ht_38
          unfold j0 at H
          cases ret_hid H
          go_wp2_with fail
          go_ret2
          exact ⟨rfl, HBwt_33.out⟩
        | true =>
          replace H := let_hid H
          obtain ⟨t_36, ht_36, H⟩ := H
          obtain rfl : t_36 = false := ht_36.symm
          replace H := ite_f H
          unfold j0 at H
          cases ret_hid H
          go_wp2_with fail
          go_ret2
          exact ⟨rfl, HBwt_33.out⟩
      | succ m0 =>
        have hlt0 : k0 < kind.length := by omega
        have hc0 : decide ((k0 : Int) < ((kind.length : Nat) : Int)) = true := by simp; omega
        replace H := cnt_succ H
        unfold l0 at H
        replace H := let_hid H
        obtain ⟨_, rfl, H⟩ := H
        replace H := idx_hid H
        obtain ⟨nt_21, yt_21, et_21, lt_21, gt_21, H⟩ := H
        obtain rfl : k0 = nt_21 := by omega
        clear et_21
        obtain ⟨ab_t_21, ao_t_21, zt_21, At_21, z_t_21, ct_21_0⟩ := Go.Proofs.YtekacbjnpeglhaaDoor.HelpInt.Ints.at_ M1.out lt_21
        obtain rfl := Option.some.inj (gt_21.out.symm.trans z_t_21)
        subst At_21
        have ltt_21 := cell_lt ct_21_0
        replace ct_21_0 := cell_below HBwr0.out ct_21_0
        clear z_t_21
        have b0t_21 : (0 : Int) ≤ (k0 : Int) := by omega
        have b1t_21 : (k0 : Int) < ((kind.length : Nat) : Int) := by omega
        have b2t_21 : ((k0 : Int)).toNat = k0 := by omega
        replace H := bind_hid H
        obtain ⟨t_26, qt_26, H⟩ := H
        go_wp2_with fail
        go_at_call 33
        refine (Go.Proofs.YtekacbjnpeglhaaDoor.GxStrconvItoa.C (yt_21)  _ (tab_below HBwr0.out HT)   qt_26).mono ?_
        rintro e_t_26 wt_26 ⟨rfl, bt_26⟩
        have HBwt_26 := Lib.hid (Below.step HBwr0.out bt_26)
        replace kt_0_0__135 := cell_below bt_26 kt_0_0__135
        replace kt_0_1__136 := cell_below bt_26 kt_0_1__136
        replace ct_21_0 := cell_below bt_26 ct_21_0
        replace Ovalues_8l0 := Lib.hid (own_below Ovalues_8l0.out bt_26)
        clear bt_26
        obtain ⟨w_t_27, hw_t_27⟩ : ∃ x, wt_26.alloc (.cells #[.string t_26] 9) = x := ⟨_, rfl⟩
        have bw_t_27 : Below wt_26.heap.size wt_26 w_t_27 := by rw [← hw_t_27]; exact (Below.refl _ _).alloc (Nat.le_refl _) _
        have HBw_t_27 := Lib.hid (Below.step HBwt_26.out bw_t_27)
        have kt_0_0__137 := cell_below bw_t_27 kt_0_0__135
        have kt_0_1__138 := cell_below bw_t_27 kt_0_1__136
        have ct_21_0__139 := cell_below bw_t_27 ct_21_0
        replace Ovalues_8l0 := Lib.hid (own_below Ovalues_8l0.out bw_t_27)
        clear bw_t_27
        replace H := guard_hid H
        obtain ⟨hlt_28, H⟩ := H
        replace H := let_hid H
        obtain ⟨t_28, ht_28, H⟩ := H
        have hht_28 := Lib.hid ht_28
        clear ht_28
        have hst_28 := HBw_t_27.out.size
        go_wp2_with (at_builtin; refine wpList_append_own_at _ rfl _ _ 55 rfl w.heap.size 9 i0_9 (.string ByteArray.empty) 1 16 Tryd.underlying55 hi_9 hz0_9 hz1_9 hz2_9 rfl (by decide) _ _ _ rfl Ovalues_8l0.out ⟨wt_26.heap.size, 0, none⟩ 1 1 [.string t_26] rfl rfl (news_new hw_t_27) (one_cells rfl) (by unfold maxLen; omega) (by omega) hst_28 ?_; intro vt_28 wt_28 ot_28 gt_28 zt_28 yt_28; clear zt_28; obtain ⟨qt_28, ct_28, rfl, pt_28⟩ := own_push hht_28.out (by simp) rfl ot_28; have Pt_28 := Lib.hid pt_28; have Yt_28 := Lib.hid yt_28; have Gt_28 := Lib.hid gt_28; clear ot_28 gt_28 pt_28 yt_28; refine stop_in ?_)
        refine stop_out ?_
        have HBwt_28 := Lib.hid (HBw_t_27.out.grown Gt_28.out hst_28 (fun q hq => (Ovalues_8l0.out.lt q hq).1))
        clear hst_28
        have Dt_28_t_0 : Hid (Apart (some ⟨qt_28, 0, none⟩) _) := Lib.hid (apart_app Dvalues_8l0_t_0.out (fun a_ ha_ => by cases ha_; exact cell_lt kt_0_0__137) Yt_28.out)
        replace kt_0_0__137 := cell_other kt_0_0__137 Gt_28.out Dvalues_8l0_t_0.out
        replace kt_0_1__138 := cell_other kt_0_1__138 Gt_28.out Dvalues_8l0_t_0.out
        replace ct_21_0__139 := cell_other ct_21_0__139 Gt_28.out (apart_old Ovalues_8l0.out ltt_21)
        clear kt_0_0__135 kt_0_1__136 ct_21_0
        clear Ovalues_8l0 Yt_28 Gt_28
        replace H := app_hid H
        go_wp2_with fail
        go_roundg m0
        case measure => omega
        case rel => exact ⟨k0 + 1, _, _, _, by omega, by go_num, rfl, H, HBwt_28, kt_0_0__137, kt_0_1__138, Pt_28, Lib.hid Dt_28_t_0.out⟩
end Go.Proofs.YtekacbjnpeglhaaDoor.GiKindText

/- loop.example/g01062/laws.eqIntS as a plain function, and the contract of the program's: where the plain one has an answer, the program has it. Conditions: slices read as lists. -/
namespace Go.Proofs.YtekacbjnpeglhaaDoor.GlEqIntS
set_option linter.unusedVariables false
set_option linter.unusedSimpArgs false
open Go.RowKit
open Go.Proofs.YtekacbjnpeglhaaDoor.Rowed Go.Proofs.YtekacbjnpeglhaaDoor.Turn Go.Proofs.YtekacbjnpeglhaaDoor.Aid Go.Proofs.YtekacbjnpeglhaaDoor.GoP Go.Proofs.YtekacbjnpeglhaaDoor.GoM

def l0 (a : (List Int)) (b : (List Int)) (k0 : Nat) (s : Unit) (nx0 bk0 : Unit → Option (Bool)) : Option (Bool) :=
  
  Option.bind (idx a (k0 : Int)) fun (yt_14 : Int) =>
  Option.bind (idx b (k0 : Int)) fun (yt_18 : Int) =>
  letK (yt_14 != yt_18) fun (t_20 : Bool) =>
  iteK t_20
  (some false)
  (appK nx0 ())

def e0  (s : Unit) : Option (Bool) :=
  
  some true

def P (a : (List Int)) (b : (List Int)) : Option (Bool) :=
  letK ((a.length : Int) != (b.length : Int)) fun (t_5 : Bool) =>
  iteK t_5
  (some false)
  (cntK (l0 a b) (a.length) 0 () (e0 ))

set_option maxRecDepth 100000 in
set_option maxHeartbeats 2000000 in
theorem C (a : (List Int)) (b : (List Int)) (A0 : Option Addr) (c0 : Nat) (A1 : Option Addr) (c1 : Nat)  (w : World) (M0 : Hid (Cells w 1 A0 a.length (Go.Proofs.YtekacbjnpeglhaaDoor.HelpInt.iv a))) (N0 : Hid (a.length ≤ 9223372036854775807)) (M1 : Hid (Cells w 1 A1 b.length (Go.Proofs.YtekacbjnpeglhaaDoor.HelpInt.iv b))) (N1 : Hid (b.length ≤ 9223372036854775807))  {r : Bool} (H : Hid (P a b = some r)) :
    Calls Tryd.prog 11 #[.slice A0 a.length c0, .slice A1 b.length c1] w (Gives (.bool r) w) := by
  have HB := Lib.hid (Below.refl w.heap.size w)
  unfold P at H
  have N0o := N0.out
  have N1o := N1.out
  go_enter Tryd.func11, Tryd.ntmps11
  replace H := let_hid H
  obtain ⟨t_5, ht_5, H⟩ := H
  cases t_5 with
  | false =>
    have Hht_5 : Hid (a.length = b.length) := Lib.hid (by have := bne_eq_false_iff_eq.1 ht_5; omega)
    have nht_5 : (a.length == b.length) = true := beq_iff_eq.2 Hht_5.out
    replace H := ite_f H
    go_wp2_with fail
    go_loopg [5] (a.length) (fun m_ v5_ wr => ∃ (k0 : Nat) , k0 + m_ = a.length ∧ v5_ = .int .i64 (k0 : Int) ∧ Hid (cntK (l0 a b) m_ k0 () (e0 ) = some r) ∧ Hid (Below w.heap.size w wr))
    case atStart => exact ⟨0, by omega, rfl, H, HB⟩
    case round =>
      obtain ⟨k0, hkm0, rfl, H, HBwr0⟩ := hrel
      rename World => wr0
      cases gk with
      | zero =>
        obtain rfl : k0 = a.length := by omega
        have hc0 : decide (((a.length : Nat) : Int) < ((a.length : Nat) : Int)) = false := by simp
        replace H := cnt_zero H
        unfold e0 at H
        obtain rfl := ret_hid H
        go_wp2_with fail
        go_ret
        exact ⟨rfl, HBwr0.out⟩
      | succ m0 =>
        have hlt0 : k0 < a.length := by omega
        have hc0 : decide ((k0 : Int) < ((a.length : Nat) : Int)) = true := by simp; omega
        replace H := cnt_succ H
        unfold l0 at H
        go_wp2_with fail
        replace H := idx_hid H
        obtain ⟨nt_14, yt_14, et_14, lt_14, gt_14, H⟩ := H
        obtain rfl : k0 = nt_14 := by omega
        clear et_14
        obtain ⟨ab_t_14, ao_t_14, zt_14, At_14, z_t_14, ct_14_0⟩ := Go.Proofs.YtekacbjnpeglhaaDoor.HelpInt.Ints.at_ M0.out lt_14
        obtain rfl := Option.some.inj (gt_14.out.symm.trans z_t_14)
        subst At_14
        have ltt_14 := cell_lt ct_14_0
        replace ct_14_0 := cell_below HBwr0.out ct_14_0
        clear z_t_14
        have b0t_14 : (0 : Int) ≤ (k0 : Int) := by omega
        have b1t_14 : (k0 : Int) < ((a.length : Nat) : Int) := by omega
        have b2t_14 : ((k0 : Int)).toNat = k0 := by omega
        have Hct_14_0 := Lib.hid ct_14_0
        replace ct_14_0 := cell_regrown ct_14_0
        replace H := idx_hid H
        obtain ⟨nt_18, yt_18, et_18, lt_18, gt_18, H⟩ := H
        obtain rfl : k0 = nt_18 := by omega
        clear et_18
        obtain ⟨ab_t_18, ao_t_18, zt_18, At_18, z_t_18, ct_18_0⟩ := Go.Proofs.YtekacbjnpeglhaaDoor.HelpInt.Ints.at_ M1.out lt_18
        obtain rfl := Option.some.inj (gt_18.out.symm.trans z_t_18)
        subst At_18
        have ltt_18 := cell_lt ct_18_0
        replace ct_18_0 := cell_below HBwr0.out ct_18_0
        clear z_t_18
        have b0t_18 : (0 : Int) ≤ (k0 : Int) := by omega
        have b1t_18 : (k0 : Int) < ((b.length : Nat) : Int) := by omega
        have b2t_18 : ((k0 : Int)).toNat = k0 := by omega
        have Hct_18_0 := Lib.hid ct_18_0
        replace ct_18_0 := cell_regrown ct_18_0
        replace H := let_hid H
        obtain ⟨t_20, ht_20, H⟩ := H
        refine wp_region_quiet_below (by kernel_rfl) (by kernel_rfl) ?_
        repeat (go_big_quiet_step (fail))
        refine wpQuiet_nil ?_
        intro Y6 hY6
        replace hY6 := below_class hY6
        replace ct_14_0 := Hct_14_0.out
        clear Hct_14_0
        replace ct_18_0 := Hct_18_0.out
        clear Hct_18_0
        have HBY6 := Lib.hid (Below.step HBwr0.out hY6)
        replace ct_14_0 := cell_below hY6 ct_14_0
        replace ct_18_0 := cell_below hY6 ct_18_0
        clear hY6
        cases t_20 with
        | false =>
          replace H := ite_f H
          replace H := app_hid H
          go_wp2_with fail
          go_roundg m0
          case measure => omega
          case rel => exact ⟨k0 + 1, by omega, by go_num, H, HBY6⟩
        | true =>
          replace H := ite_t H
          obtain rfl := ret_hid H
          go_wp2_with fail
          go_ret
          exact ⟨rfl, HBY6.out⟩
  | true =>
    have nht_5 : ¬ (a.length = b.length) := by have := bne_iff_ne.1 ht_5; omega
    replace H := ite_t H
    obtain rfl := ret_hid H
    go_wp2_with fail
    go_ret
    exact ⟨rfl, HB.out⟩
end Go.Proofs.YtekacbjnpeglhaaDoor.GlEqIntS

/- loop.example/g01062/laws.eqBan as a plain function, and the contract of the program's: where the plain one has an answer, the program has it. Conditions: slices read as lists. -/
namespace Go.Proofs.YtekacbjnpeglhaaDoor.GlEqBan
set_option linter.unusedVariables false
set_option linter.unusedSimpArgs false
open Go.RowKit
open Go.Proofs.YtekacbjnpeglhaaDoor.Rowed Go.Proofs.YtekacbjnpeglhaaDoor.Turn Go.Proofs.YtekacbjnpeglhaaDoor.Aid Go.Proofs.YtekacbjnpeglhaaDoor.GoP Go.Proofs.YtekacbjnpeglhaaDoor.GoM

def P (a : Go.Proofs.YtekacbjnpeglhaaDoor.PBan.Ban) (b : Go.Proofs.YtekacbjnpeglhaaDoor.PBan.Ban) : Option (Bool) :=
  unBan a fun (a_a : Int) (a_x : Int) (a_b : Int) (a_y : Int) =>
  unBan b fun (b_a : Int) (b_x : Int) (b_b : Int) (b_y : Int) =>
  letK (a_a != b_a) fun (t_7 : Bool) =>
  iteK t_7
  (some false)
  (letK (a_x != b_x) fun (t_13 : Bool) =>
  iteK t_13
  (some false)
  (letK (a_b != b_b) fun (t_19 : Bool) =>
  iteK t_19
  (some false)
  (letK (a_y != b_y) fun (t_25 : Bool) =>
  iteK t_25
  (some false)
  (some true))))

set_option maxRecDepth 100000 in
set_option maxHeartbeats 2000000 in
theorem C (a : Go.Proofs.YtekacbjnpeglhaaDoor.PBan.Ban) (b : Go.Proofs.YtekacbjnpeglhaaDoor.PBan.Ban)   (w : World)   {r : Bool} (H : Hid (P a b = some r)) :
    Calls Tryd.prog 59 #[a.val, b.val] w (Gives (.bool r) w) := by
  have HB := Lib.hid (Below.refl w.heap.size w)
  unfold P at H
  obtain ⟨a_a, a_x, a_b, a_y⟩ := a
  replace H := unBan_hid H
  obtain ⟨b_a, b_x, b_b, b_y⟩ := b
  replace H := unBan_hid H
  unfold Go.Proofs.YtekacbjnpeglhaaDoor.PBan.Ban.val
  go_enter Tryd.func59, Tryd.ntmps59
  obtain ⟨w_a_0, hw_a_0⟩ : ∃ x, w.alloc (.cells #[.int .i64 a_a, .int .i64 a_x, .int .i64 a_b, .int .i64 a_y] 63) = x := ⟨_, rfl⟩
  have bw_a_0 : Below w.heap.size w w_a_0 := by rw [← hw_a_0]; exact (Below.refl _ _).alloc (Nat.le_refl _) _
  have HBw_a_0 := Lib.hid (Below.step HB.out bw_a_0)
  clear bw_a_0
  have ka_0_0 : w_a_0.cell? ⟨w.heap.size, 0, none⟩ = some (.int .i64 a_a) := by rw [← hw_a_0]; exact box_new _ _ _ 0 _ rfl
  have ka_0_1 : w_a_0.cell? ⟨w.heap.size, 1, none⟩ = some (.int .i64 a_x) := by rw [← hw_a_0]; exact box_new _ _ _ 1 _ rfl
  have ka_0_2 : w_a_0.cell? ⟨w.heap.size, 2, none⟩ = some (.int .i64 a_b) := by rw [← hw_a_0]; exact box_new _ _ _ 2 _ rfl
  have ka_0_3 : w_a_0.cell? ⟨w.heap.size, 3, none⟩ = some (.int .i64 a_y) := by rw [← hw_a_0]; exact box_new _ _ _ 3 _ rfl
  obtain ⟨w_b_1, hw_b_1⟩ : ∃ x, w_a_0.alloc (.cells #[.int .i64 b_a, .int .i64 b_x, .int .i64 b_b, .int .i64 b_y] 63) = x := ⟨_, rfl⟩
  have bw_b_1 : Below w_a_0.heap.size w_a_0 w_b_1 := by rw [← hw_b_1]; exact (Below.refl _ _).alloc (Nat.le_refl _) _
  have HBw_b_1 := Lib.hid (Below.step HBw_a_0.out bw_b_1)
  have ka_0_0__140 := cell_below bw_b_1 ka_0_0
  have ka_0_1__141 := cell_below bw_b_1 ka_0_1
  have ka_0_2__142 := cell_below bw_b_1 ka_0_2
  have ka_0_3__143 := cell_below bw_b_1 ka_0_3
  clear bw_b_1
  have kb_1_0 : w_b_1.cell? ⟨w_a_0.heap.size, 0, none⟩ = some (.int .i64 b_a) := by rw [← hw_b_1]; exact box_new _ _ _ 0 _ rfl
  have kb_1_1 : w_b_1.cell? ⟨w_a_0.heap.size, 1, none⟩ = some (.int .i64 b_x) := by rw [← hw_b_1]; exact box_new _ _ _ 1 _ rfl
  have kb_1_2 : w_b_1.cell? ⟨w_a_0.heap.size, 2, none⟩ = some (.int .i64 b_b) := by rw [← hw_b_1]; exact box_new _ _ _ 2 _ rfl
  have kb_1_3 : w_b_1.cell? ⟨w_a_0.heap.size, 3, none⟩ = some (.int .i64 b_y) := by rw [← hw_b_1]; exact box_new _ _ _ 3 _ rfl
  replace H := let_hid H
  obtain ⟨t_7, ht_7, H⟩ := H
  cases t_7 with
  | false =>
    replace H := ite_f H
    replace H := let_hid H
    obtain ⟨t_13, ht_13, H⟩ := H
    cases t_13 with
    | false =>
      replace H := ite_f H
      replace H := let_hid H
      obtain ⟨t_19, ht_19, H⟩ := H
      cases t_19 with
      | false =>
        replace H := ite_f H
        replace H := let_hid H
        obtain ⟨t_25, ht_25, H⟩ := H
        cases t_25 with
        | false =>
          replace H := ite_f H
          obtain rfl := ret_hid H
          go_wp2_with fail
          go_ret
          exact ⟨rfl, HBw_b_1.out⟩
        | true =>
          replace H := ite_t H
          obtain rfl := ret_hid H
          go_wp2_with fail
          go_ret
          exact ⟨rfl, HBw_b_1.out⟩
      | true =>
        replace H := ite_t H
        obtain rfl := ret_hid H
        go_wp2_with fail
        go_ret
        exact ⟨rfl, HBw_b_1.out⟩
    | true =>
      replace H := ite_t H
      obtain rfl := ret_hid H
      go_wp2_with fail
      go_ret
      exact ⟨rfl, HBw_b_1.out⟩
  | true =>
    replace H := ite_t H
    obtain rfl := ret_hid H
    go_wp2_with fail
    go_ret
    exact ⟨rfl, HBw_b_1.out⟩
end Go.Proofs.YtekacbjnpeglhaaDoor.GlEqBan

/- loop.example/g01062/laws.eqBanS as a plain function, and the contract of the program's: where the plain one has an answer, the program has it. Conditions: slices read as lists. -/
namespace Go.Proofs.YtekacbjnpeglhaaDoor.GlEqBanS
set_option linter.unusedVariables false
set_option linter.unusedSimpArgs false
open Go.RowKit
open Go.Proofs.YtekacbjnpeglhaaDoor.Rowed Go.Proofs.YtekacbjnpeglhaaDoor.Turn Go.Proofs.YtekacbjnpeglhaaDoor.Aid Go.Proofs.YtekacbjnpeglhaaDoor.GoP Go.Proofs.YtekacbjnpeglhaaDoor.GoM

def l0 (a : (List Go.Proofs.YtekacbjnpeglhaaDoor.PBan.Ban)) (b : (List Go.Proofs.YtekacbjnpeglhaaDoor.PBan.Ban)) (k0 : Nat) (s : Unit) (nx0 bk0 : Unit → Option (Bool)) : Option (Bool) :=
  
  Option.bind (idx a (k0 : Int)) fun (yt_14 : Go.Proofs.YtekacbjnpeglhaaDoor.PBan.Ban) =>
  unBan yt_14 fun (t_14_a : Int) (t_14_x : Int) (t_14_b : Int) (t_14_y : Int) =>
  Option.bind (idx b (k0 : Int)) fun (yt_18 : Go.Proofs.YtekacbjnpeglhaaDoor.PBan.Ban) =>
  unBan yt_18 fun (t_18_a : Int) (t_18_x : Int) (t_18_b : Int) (t_18_y : Int) =>
  Option.bind (Go.Proofs.YtekacbjnpeglhaaDoor.GlEqBan.P (Go.Proofs.YtekacbjnpeglhaaDoor.PBan.Ban.mk t_14_a t_14_x t_14_b t_14_y) (Go.Proofs.YtekacbjnpeglhaaDoor.PBan.Ban.mk t_18_a t_18_x t_18_b t_18_y)) fun (t_20 : Bool) =>
  letK (!t_20) fun (t_21 : Bool) =>
  iteK t_21
  (some false)
  (appK nx0 ())

def e0  (s : Unit) : Option (Bool) :=
  
  some true

def P (a : (List Go.Proofs.YtekacbjnpeglhaaDoor.PBan.Ban)) (b : (List Go.Proofs.YtekacbjnpeglhaaDoor.PBan.Ban)) : Option (Bool) :=
  letK ((a.length : Int) != (b.length : Int)) fun (t_5 : Bool) =>
  iteK t_5
  (some false)
  (cntK (l0 a b) (a.length) 0 () (e0 ))

set_option maxRecDepth 100000 in
set_option maxHeartbeats 2000000 in
theorem C (a : (List Go.Proofs.YtekacbjnpeglhaaDoor.PBan.Ban)) (b : (List Go.Proofs.YtekacbjnpeglhaaDoor.PBan.Ban)) (A0 : Option Addr) (c0 : Nat) (A1 : Option Addr) (c1 : Nat)  (w : World) (M0 : Hid (Cells w 4 A0 a.length (Go.Proofs.YtekacbjnpeglhaaDoor.PBan.flat a))) (N0 : Hid (a.length ≤ 9223372036854775807)) (M1 : Hid (Cells w 4 A1 b.length (Go.Proofs.YtekacbjnpeglhaaDoor.PBan.flat b))) (N1 : Hid (b.length ≤ 9223372036854775807))  {r : Bool} (H : Hid (P a b = some r)) :
    Calls Tryd.prog 35 #[.slice A0 a.length c0, .slice A1 b.length c1] w (Gives (.bool r) w) := by
  have HB := Lib.hid (Below.refl w.heap.size w)
  unfold P at H
  have N0o := N0.out
  have N1o := N1.out
  go_enter Tryd.func35, Tryd.ntmps35
  replace H := let_hid H
  obtain ⟨t_5, ht_5, H⟩ := H
  cases t_5 with
  | false =>
    have Hht_5 : Hid (a.length = b.length) := Lib.hid (by have := bne_eq_false_iff_eq.1 ht_5; omega)
    have nht_5 : (a.length == b.length) = true := beq_iff_eq.2 Hht_5.out
    replace H := ite_f H
    go_wp2_with fail
    go_loopg [5] (a.length) (fun m_ v5_ wr => ∃ (k0 : Nat) , k0 + m_ = a.length ∧ v5_ = .int .i64 (k0 : Int) ∧ Hid (cntK (l0 a b) m_ k0 () (e0 ) = some r) ∧ Hid (Below w.heap.size w wr))
    case atStart => exact ⟨0, by omega, rfl, H, HB⟩
    case round =>
      obtain ⟨k0, hkm0, rfl, H, HBwr0⟩ := hrel
      rename World => wr0
      cases gk with
      | zero =>
        obtain rfl : k0 = a.length := by omega
        have hc0 : decide (((a.length : Nat) : Int) < ((a.length : Nat) : Int)) = false := by simp
        replace H := cnt_zero H
        unfold e0 at H
        obtain rfl := ret_hid H
        go_wp2_with fail
        go_ret
        exact ⟨rfl, HBwr0.out⟩
      | succ m0 =>
        have hlt0 : k0 < a.length := by omega
        have hc0 : decide ((k0 : Int) < ((a.length : Nat) : Int)) = true := by simp; omega
        replace H := cnt_succ H
        unfold l0 at H
        go_wp2_with fail
        replace H := idx_hid H
        obtain ⟨nt_14, yt_14, et_14, lt_14, gt_14, H⟩ := H
        obtain rfl : k0 = nt_14 := by omega
        clear et_14
        obtain ⟨t_14_a, t_14_x, t_14_b, t_14_y⟩ := yt_14
        replace H := unBan_hid H
        obtain ⟨ab_t_14, ao_t_14, zt_14, At_14, z_t_14, ct_14_0, ct_14_1, ct_14_2, ct_14_3⟩ := Go.Proofs.YtekacbjnpeglhaaDoor.OBan.at_ M0.out lt_14
        obtain rfl := Option.some.inj (gt_14.out.symm.trans z_t_14)
        subst At_14
        have ltt_14 := cell_lt ct_14_0
        replace ct_14_0 := cell_below HBwr0.out ct_14_0
        replace ct_14_1 := cell_below HBwr0.out ct_14_1
        replace ct_14_2 := cell_below HBwr0.out ct_14_2
        replace ct_14_3 := cell_below HBwr0.out ct_14_3
        clear z_t_14
        have b0t_14 : (0 : Int) ≤ (k0 : Int) := by omega
        have b1t_14 : (k0 : Int) < ((a.length : Nat) : Int) := by omega
        have b2t_14 : ((k0 : Int)).toNat = k0 := by omega
        have Hct_14_0 := Lib.hid ct_14_0
        replace ct_14_0 := cell_regrown ct_14_0
        have Hct_14_1 := Lib.hid ct_14_1
        replace ct_14_1 := cell_regrown ct_14_1
        have Hct_14_2 := Lib.hid ct_14_2
        replace ct_14_2 := cell_regrown ct_14_2
        have Hct_14_3 := Lib.hid ct_14_3
        replace ct_14_3 := cell_regrown ct_14_3
        replace H := idx_hid H
        obtain ⟨nt_18, yt_18, et_18, lt_18, gt_18, H⟩ := H
        obtain rfl : k0 = nt_18 := by omega
        clear et_18
        obtain ⟨t_18_a, t_18_x, t_18_b, t_18_y⟩ := yt_18
        replace H := unBan_hid H
        obtain ⟨ab_t_18, ao_t_18, zt_18, At_18, z_t_18, ct_18_0, ct_18_1, ct_18_2, ct_18_3⟩ := Go.Proofs.YtekacbjnpeglhaaDoor.OBan.at_ M1.out lt_18
        obtain rfl := Option.some.inj (gt_18.out.symm.trans z_t_18)
        subst At_18
        have ltt_18 := cell_lt ct_18_0
        replace ct_18_0 := cell_below HBwr0.out ct_18_0
        replace ct_18_1 := cell_below HBwr0.out ct_18_1
        replace ct_18_2 := cell_below HBwr0.out ct_18_2
        replace ct_18_3 := cell_below HBwr0.out ct_18_3
        clear z_t_18
        have b0t_18 : (0 : Int) ≤ (k0 : Int) := by omega
        have b1t_18 : (k0 : Int) < ((b.length : Nat) : Int) := by omega
        have b2t_18 : ((k0 : Int)).toNat = k0 := by omega
        have Hct_18_0 := Lib.hid ct_18_0
        replace ct_18_0 := cell_regrown ct_18_0
        have Hct_18_1 := Lib.hid ct_18_1
        replace ct_18_1 := cell_regrown ct_18_1
        have Hct_18_2 := Lib.hid ct_18_2
        replace ct_18_2 := cell_regrown ct_18_2
        have Hct_18_3 := Lib.hid ct_18_3
        replace ct_18_3 := cell_regrown ct_18_3
        replace H := bind_hid H
        obtain ⟨t_20, qt_20, H⟩ := H
        have nt_20 : ∀ d os, Calls Tryd.prog 59 #[.agg #[.int .i64 t_14_a, .int .i64 t_14_x, .int .i64 t_14_b, .int .i64 t_14_y], .agg #[.int .i64 t_18_a, .int .i64 t_18_x, .int .i64 t_18_b, .int .i64 t_18_y]] (Go.Sort.grow (redrawn wr0 d) os) fun e w'' => e = .returned (.bool t_20) ∧ ∃ p : Regrown, w'' = Go.Sort.grow (redrawn wr0 p.d) p.os := fun d os => Calls.regrown_of (Go.Proofs.YtekacbjnpeglhaaDoor.GlEqBan.C ((Go.Proofs.YtekacbjnpeglhaaDoor.PBan.Ban.mk t_14_a t_14_x t_14_b t_14_y)) ((Go.Proofs.YtekacbjnpeglhaaDoor.PBan.Ban.mk t_18_a t_18_x t_18_b t_18_y))  _    qt_20)
        cases t_20 with
        | false =>
          replace H := let_hid H
          obtain ⟨t_21, ht_21, H⟩ := H
          obtain rfl : t_21 = true := ht_21.symm
          refine wp_region_quiet_below (by kernel_rfl) (by kernel_rfl) ?_
          repeat (go_big_quiet_step (first | (go_at_call 59; exact nt_20 _ _)))
          refine wpQuiet_nil ?_
          intro Y6 hY6
          replace hY6 := below_class hY6
          clear nt_20
          replace ct_14_0 := Hct_14_0.out
          clear Hct_14_0
          replace ct_14_1 := Hct_14_1.out
          clear Hct_14_1
          replace ct_14_2 := Hct_14_2.out
          clear Hct_14_2
          replace ct_14_3 := Hct_14_3.out
          clear Hct_14_3
          replace ct_18_0 := Hct_18_0.out
          clear Hct_18_0
          replace ct_18_1 := Hct_18_1.out
          clear Hct_18_1
          replace ct_18_2 := Hct_18_2.out
          clear Hct_18_2
          replace ct_18_3 := Hct_18_3.out
          clear Hct_18_3
          have HBY6 := Lib.hid (Below.step HBwr0.out hY6)
          replace ct_14_0 := cell_below hY6 ct_14_0
          replace ct_14_1 := cell_below hY6 ct_14_1
          replace ct_14_2 := cell_below hY6 ct_14_2
          replace ct_14_3 := cell_below hY6 ct_14_3
          replace ct_18_0 := cell_below hY6 ct_18_0
          replace ct_18_1 := cell_below hY6 ct_18_1
          replace ct_18_2 := cell_below hY6 ct_18_2
          replace ct_18_3 := cell_below hY6 ct_18_3
          clear hY6
          replace H := ite_t H
          obtain rfl := ret_hid H
          go_wp2_with fail
          go_ret
          exact ⟨rfl, HBY6.out⟩
        | true =>
          replace H := let_hid H
          obtain ⟨t_21, ht_21, H⟩ := H
          obtain rfl : t_21 = false := ht_21.symm
          refine wp_region_quiet_below (by kernel_rfl) (by kernel_rfl) ?_
          repeat (go_big_quiet_step (first | (go_at_call 59; exact nt_20 _ _)))
          refine wpQuiet_nil ?_
          intro Y6 hY6
          replace hY6 := below_class hY6
          clear nt_20
          replace ct_14_0 := Hct_14_0.out
          clear Hct_14_0
          replace ct_14_1 := Hct_14_1.out
          clear Hct_14_1
          replace ct_14_2 := Hct_14_2.out
          clear Hct_14_2
          replace ct_14_3 := Hct_14_3.out
          clear Hct_14_3
          replace ct_18_0 := Hct_18_0.out
          clear Hct_18_0
          replace ct_18_1 := Hct_18_1.out
          clear Hct_18_1
          replace ct_18_2 := Hct_18_2.out
          clear Hct_18_2
          replace ct_18_3 := Hct_18_3.out
          clear Hct_18_3
          have HBY6 := Lib.hid (Below.step HBwr0.out hY6)
          replace ct_14_0 := cell_below hY6 ct_14_0
          replace ct_14_1 := cell_below hY6 ct_14_1
          replace ct_14_2 := cell_below hY6 ct_14_2
          replace ct_14_3 := cell_below hY6 ct_14_3
          replace ct_18_0 := cell_below hY6 ct_18_0
          replace ct_18_1 := cell_below hY6 ct_18_1
          replace ct_18_2 := cell_below hY6 ct_18_2
          replace ct_18_3 := cell_below hY6 ct_18_3
          clear hY6
          replace H := ite_f H
          replace H := app_hid H
          go_wp2_with fail
          go_roundg m0
          case measure => omega
          case rel => exact ⟨k0 + 1, by omega, by go_num, H, HBY6⟩
  | true =>
    have nht_5 : ¬ (a.length = b.length) := by have := bne_iff_ne.1 ht_5; omega
    replace H := ite_t H
    obtain rfl := ret_hid H
    go_wp2_with fail
    go_ret
    exact ⟨rfl, HB.out⟩
end Go.Proofs.YtekacbjnpeglhaaDoor.GlEqBanS

/- loop.example/g01062/laws.eqKindTable as a plain function, and the contract of the program's: where the plain one has an answer, the program has it. Conditions: slices read as lists. -/
namespace Go.Proofs.YtekacbjnpeglhaaDoor.GlEqKindTable
set_option linter.unusedVariables false
set_option linter.unusedSimpArgs false
open Go.RowKit
open Go.Proofs.YtekacbjnpeglhaaDoor.Rowed Go.Proofs.YtekacbjnpeglhaaDoor.Turn Go.Proofs.YtekacbjnpeglhaaDoor.Aid Go.Proofs.YtekacbjnpeglhaaDoor.GoP Go.Proofs.YtekacbjnpeglhaaDoor.GoM

def P (a_sizes : (List Int)) (a_bans : (List Go.Proofs.YtekacbjnpeglhaaDoor.PBan.Ban)) (b_sizes : (List Int)) (b_bans : (List Go.Proofs.YtekacbjnpeglhaaDoor.PBan.Ban)) : Option (Bool) :=
  Option.bind (Go.Proofs.YtekacbjnpeglhaaDoor.GlEqIntS.P a_sizes b_sizes) fun (t_7 : Bool) =>
  letK (!t_7) fun (t_8 : Bool) =>
  iteK t_8
  (some false)
  (Option.bind (Go.Proofs.YtekacbjnpeglhaaDoor.GlEqBanS.P a_bans b_bans) fun (t_14 : Bool) =>
  letK (!t_14) fun (t_15 : Bool) =>
  iteK t_15
  (some false)
  (some true))

set_option maxRecDepth 100000 in
set_option maxHeartbeats 2000000 in
theorem C (a_sizes : (List Int)) (a_bans : (List Go.Proofs.YtekacbjnpeglhaaDoor.PBan.Ban)) (b_sizes : (List Int)) (b_bans : (List Go.Proofs.YtekacbjnpeglhaaDoor.PBan.Ban)) (A0_0 : Option Addr) (c0_0 : Nat) (A0_1 : Option Addr) (c0_1 : Nat) (A1_0 : Option Addr) (c1_0 : Nat) (A1_1 : Option Addr) (c1_1 : Nat)  (w : World) (M0_0 : Hid (Cells w 1 A0_0 a_sizes.length (Go.Proofs.YtekacbjnpeglhaaDoor.HelpInt.iv a_sizes))) (N0_0 : Hid (a_sizes.length ≤ 9223372036854775807)) (M0_1 : Hid (Cells w 4 A0_1 a_bans.length (Go.Proofs.YtekacbjnpeglhaaDoor.PBan.flat a_bans))) (N0_1 : Hid (a_bans.length ≤ 9223372036854775807)) (M1_0 : Hid (Cells w 1 A1_0 b_sizes.length (Go.Proofs.YtekacbjnpeglhaaDoor.HelpInt.iv b_sizes))) (N1_0 : Hid (b_sizes.length ≤ 9223372036854775807)) (M1_1 : Hid (Cells w 4 A1_1 b_bans.length (Go.Proofs.YtekacbjnpeglhaaDoor.PBan.flat b_bans))) (N1_1 : Hid (b_bans.length ≤ 9223372036854775807))  {r : Bool} (H : Hid (P a_sizes a_bans b_sizes b_bans = some r)) :
    Calls Tryd.prog 10 #[.agg #[.slice A0_0 a_sizes.length c0_0, .slice A0_1 a_bans.length c0_1], .agg #[.slice A1_0 b_sizes.length c1_0, .slice A1_1 b_bans.length c1_1]] w (Gives (.bool r) w) := by
  have HB := Lib.hid (Below.refl w.heap.size w)
  unfold P at H
  have N0_0o := N0_0.out
  have N0_1o := N0_1.out
  have N1_0o := N1_0.out
  have N1_1o := N1_1.out
  go_enter Tryd.func10, Tryd.ntmps10
  obtain ⟨w_a_0, hw_a_0⟩ : ∃ x, w.alloc (.cells #[.slice A0_0 a_sizes.length c0_0, .slice A0_1 a_bans.length c0_1] 31) = x := ⟨_, rfl⟩
  have bw_a_0 : Below w.heap.size w w_a_0 := by rw [← hw_a_0]; exact (Below.refl _ _).alloc (Nat.le_refl _) _
  have HBw_a_0 := Lib.hid (Below.step HB.out bw_a_0)
  clear bw_a_0
  have ka_0_0 : w_a_0.cell? ⟨w.heap.size, 0, none⟩ = some (.slice A0_0 a_sizes.length c0_0) := by rw [← hw_a_0]; exact box_new _ _ _ 0 _ rfl
  have ka_0_1 : w_a_0.cell? ⟨w.heap.size, 1, none⟩ = some (.slice A0_1 a_bans.length c0_1) := by rw [← hw_a_0]; exact box_new _ _ _ 1 _ rfl
  obtain ⟨w_b_1, hw_b_1⟩ : ∃ x, w_a_0.alloc (.cells #[.slice A1_0 b_sizes.length c1_0, .slice A1_1 b_bans.length c1_1] 31) = x := ⟨_, rfl⟩
  have bw_b_1 : Below w_a_0.heap.size w_a_0 w_b_1 := by rw [← hw_b_1]; exact (Below.refl _ _).alloc (Nat.le_refl _) _
  have HBw_b_1 := Lib.hid (Below.step HBw_a_0.out bw_b_1)
  have ka_0_0__144 := cell_below bw_b_1 ka_0_0
  have ka_0_1__145 := cell_below bw_b_1 ka_0_1
  clear bw_b_1
  have kb_1_0 : w_b_1.cell? ⟨w_a_0.heap.size, 0, none⟩ = some (.slice A1_0 b_sizes.length c1_0) := by rw [← hw_b_1]; exact box_new _ _ _ 0 _ rfl
  have kb_1_1 : w_b_1.cell? ⟨w_a_0.heap.size, 1, none⟩ = some (.slice A1_1 b_bans.length c1_1) := by rw [← hw_b_1]; exact box_new _ _ _ 1 _ rfl
  replace H := bind_hid H
  obtain ⟨t_7, qt_7, H⟩ := H
  go_wp2_with fail
  clear ka_0_0 ka_0_1
  go_at_call 11
  refine (Go.Proofs.YtekacbjnpeglhaaDoor.GlEqIntS.C (a_sizes) (b_sizes) A0_0 c0_0 A1_0 c1_0 _   (Lib.hid (Cells.below M0_0.out HBw_b_1.out)) N0_0 (Lib.hid (Cells.below M1_0.out HBw_b_1.out)) N1_0 qt_7).mono ?_
  rintro e_t_7 wt_7 ⟨rfl, bt_7⟩
  have HBwt_7 := Lib.hid (Below.step HBw_b_1.out bt_7)
  replace ka_0_0__144 := cell_below bt_7 ka_0_0__144
  replace ka_0_1__145 := cell_below bt_7 ka_0_1__145
  replace kb_1_0 := cell_below bt_7 kb_1_0
  replace kb_1_1 := cell_below bt_7 kb_1_1
  clear bt_7
  cases t_7 with
  | false =>
    replace H := let_hid H
    obtain ⟨t_8, ht_8, H⟩ := H
    obtain rfl : t_8 = true := ht_8.symm
    replace H := ite_t H
    obtain rfl := ret_hid H
    go_wp2_with fail
    go_ret
    exact ⟨rfl, HBwt_7.out⟩
  | true =>
    replace H := let_hid H
    obtain ⟨t_8, ht_8, H⟩ := H
    obtain rfl : t_8 = false := ht_8.symm
    replace H := ite_f H
    replace H := bind_hid H
    obtain ⟨t_14, qt_14, H⟩ := H
    go_wp2_with fail
    go_at_call 35
    refine (Go.Proofs.YtekacbjnpeglhaaDoor.GlEqBanS.C (a_bans) (b_bans) A0_1 c0_1 A1_1 c1_1 _   (Lib.hid (Cells.below M0_1.out HBwt_7.out)) N0_1 (Lib.hid (Cells.below M1_1.out HBwt_7.out)) N1_1 qt_14).mono ?_
    rintro e_t_14 wt_14 ⟨rfl, bt_14⟩
    have HBwt_14 := Lib.hid (Below.step HBwt_7.out bt_14)
    replace ka_0_0__144 := cell_below bt_14 ka_0_0__144
    replace ka_0_1__145 := cell_below bt_14 ka_0_1__145
    replace kb_1_0 := cell_below bt_14 kb_1_0
    replace kb_1_1 := cell_below bt_14 kb_1_1
    clear bt_14
    cases t_14 with
    | false =>
      replace H := let_hid H
      obtain ⟨t_15, ht_15, H⟩ := H
      obtain rfl : t_15 = true := ht_15.symm
      replace H := ite_t H
      obtain rfl := ret_hid H
      go_wp2_with fail
      go_ret
      exact ⟨rfl, HBwt_14.out⟩
    | true =>
      replace H := let_hid H
      obtain ⟨t_15, ht_15, H⟩ := H
      obtain rfl : t_15 = false := ht_15.symm
      replace H := ite_f H
      obtain rfl := ret_hid H
      go_wp2_with fail
      go_ret
      exact ⟨rfl, HBwt_14.out⟩
end Go.Proofs.YtekacbjnpeglhaaDoor.GlEqKindTable

/- loop.example/g01062/laws.FnExactKindText as a plain function, and the contract of the program's: where the plain one has an answer, the program has it. Conditions: slices read as lists. -/
namespace Go.Proofs.YtekacbjnpeglhaaDoor.GlFnExactKindText
set_option linter.unusedVariables false
set_option linter.unusedSimpArgs false
open Go.RowKit
open Go.Proofs.YtekacbjnpeglhaaDoor.Rowed Go.Proofs.YtekacbjnpeglhaaDoor.Turn Go.Proofs.YtekacbjnpeglhaaDoor.Aid Go.Proofs.YtekacbjnpeglhaaDoor.GoP Go.Proofs.YtekacbjnpeglhaaDoor.GoM Go.Proofs.YtekacbjnpeglhaaDoor.Tab

def P (fuel : Nat) (aT_sizes : (List Int)) (aT_bans : (List Go.Proofs.YtekacbjnpeglhaaDoor.PBan.Ban)) (aKind : (List Int)) : Option (Bool) :=
  letK (decide (1048576 < (aKind.length : Int))) fun (t_4 : Bool) =>
  iteK t_4
  (some true)
  (Option.bind (Go.Proofs.YtekacbjnpeglhaaDoor.GlSzKindTable.P aT_sizes aT_bans 1048576) fun (t_9 : Int) =>
  letK (decide (t_9 < 0)) fun (t_12 : Bool) =>
  iteK t_12
  (some true)
  (Option.bind (Go.Proofs.YtekacbjnpeglhaaDoor.GlToKindTable.P aT_sizes aT_bans) fun (t_15 : Go.Proofs.YtekacbjnpeglhaaDoor.PKindTable.KindTable) =>
  unKindTable t_15 fun (t_15_sizes : (List Int)) (t_15_bans : (List Go.Proofs.YtekacbjnpeglhaaDoor.PBan.Ban)) =>
  Option.bind (Go.Proofs.YtekacbjnpeglhaaDoor.GlToIntS.P aKind) fun (t_17 : (List Int)) =>
  bind2 (Go.Proofs.YtekacbjnpeglhaaDoor.GsKindText.P fuel t_15_sizes t_15_bans t_17) fun (t_18a : ByteArray) (t_18b : Bool) =>
  Option.bind (Go.Proofs.YtekacbjnpeglhaaDoor.GlToKindTable.P aT_sizes aT_bans) fun (t_25 : Go.Proofs.YtekacbjnpeglhaaDoor.PKindTable.KindTable) =>
  unKindTable t_25 fun (t_25_sizes : (List Int)) (t_25_bans : (List Go.Proofs.YtekacbjnpeglhaaDoor.PBan.Ban)) =>
  Option.bind (Go.Proofs.YtekacbjnpeglhaaDoor.GlToIntS.P aKind) fun (t_29 : (List Int)) =>
  bind2 (Go.Proofs.YtekacbjnpeglhaaDoor.GiKindText.P t_25_sizes t_25_bans t_29) fun (t_33a : ByteArray) (t_33b : Bool) =>
  letK (!(t_33a.toList == t_18a.toList)) fun (t_41 : Bool) =>
  joinK (fun (t_46 : Bool) =>
  iteK t_46
  (some false)
  (Option.bind (Go.Proofs.YtekacbjnpeglhaaDoor.GlToKindTable.P aT_sizes aT_bans) fun (t_50 : Go.Proofs.YtekacbjnpeglhaaDoor.PKindTable.KindTable) =>
  unKindTable t_50 fun (t_50_sizes : (List Int)) (t_50_bans : (List Go.Proofs.YtekacbjnpeglhaaDoor.PBan.Ban)) =>
  Option.bind (Go.Proofs.YtekacbjnpeglhaaDoor.GlEqKindTable.P t_25_sizes t_25_bans t_50_sizes t_50_bans) fun (t_51 : Bool) =>
  letK (!t_51) fun (t_52 : Bool) =>
  iteK t_52
  (some false)
  (Option.bind (Go.Proofs.YtekacbjnpeglhaaDoor.GlToIntS.P aKind) fun (t_56 : (List Int)) =>
  Option.bind (Go.Proofs.YtekacbjnpeglhaaDoor.GlEqIntS.P t_29 t_56) fun (t_57 : Bool) =>
  letK (!t_57) fun (t_58 : Bool) =>
  iteK t_58
  (some false)
  (some true)))) fun jt_46 => iteK t_41 (appK jt_46 true) (letK (!(t_33b == t_18b)) fun (t_45 : Bool) =>
  appK jt_46 t_45)))

set_option maxRecDepth 100000 in
set_option maxHeartbeats 2000000 in
theorem C (fuel : Nat) (aT_sizes : (List Int)) (aT_bans : (List Go.Proofs.YtekacbjnpeglhaaDoor.PBan.Ban)) (aKind : (List Int)) (A0_0 : Option Addr) (c0_0 : Nat) (A0_1 : Option Addr) (c0_1 : Nat) (A1 : Option Addr) (c1 : Nat)  (w : World) (HT : Hid (Tab w)) (M0_0 : Hid (Cells w 1 A0_0 aT_sizes.length (Go.Proofs.YtekacbjnpeglhaaDoor.HelpInt.iv aT_sizes))) (N0_0 : Hid (aT_sizes.length ≤ 9223372036854775807)) (M0_1 : Hid (Cells w 4 A0_1 aT_bans.length (Go.Proofs.YtekacbjnpeglhaaDoor.PBan.flat aT_bans))) (N0_1 : Hid (aT_bans.length ≤ 9223372036854775807)) (M1 : Hid (Cells w 1 A1 aKind.length (Go.Proofs.YtekacbjnpeglhaaDoor.HelpInt.iv aKind))) (N1 : Hid (aKind.length ≤ 9223372036854775807))  {r : Bool} (H : Hid (P fuel aT_sizes aT_bans aKind = some r)) :
    Calls Tryd.prog 3 #[.agg #[.slice A0_0 aT_sizes.length c0_0, .slice A0_1 aT_bans.length c0_1], .slice A1 aKind.length c1] w (Gives (.bool r) w) := by
  have HB := Lib.hid (Below.refl w.heap.size w)
  unfold P at H
  have N0_0o := N0_0.out
  have N0_1o := N0_1.out
  have N1o := N1.out
  go_enter Tryd.func3, Tryd.ntmps3
  obtain ⟨w_aT_0, hw_aT_0⟩ : ∃ x, w.alloc (.cells #[.slice A0_0 aT_sizes.length c0_0, .slice A0_1 aT_bans.length c0_1] 25) = x := ⟨_, rfl⟩
  have bw_aT_0 : Below w.heap.size w w_aT_0 := by rw [← hw_aT_0]; exact (Below.refl _ _).alloc (Nat.le_refl _) _
  have HBw_aT_0 := Lib.hid (Below.step HB.out bw_aT_0)
  clear bw_aT_0
  have kaT_0_0 : w_aT_0.cell? ⟨w.heap.size, 0, none⟩ = some (.slice A0_0 aT_sizes.length c0_0) := by rw [← hw_aT_0]; exact box_new _ _ _ 0 _ rfl
  have kaT_0_1 : w_aT_0.cell? ⟨w.heap.size, 1, none⟩ = some (.slice A0_1 aT_bans.length c0_1) := by rw [← hw_aT_0]; exact box_new _ _ _ 1 _ rfl
  replace H := let_hid H
  obtain ⟨t_4, ht_4, H⟩ := H
  cases t_4 with
  | false =>
    have nht_4 : ¬ (1048576 < aKind.length) := by have := of_decide_eq_false ht_4; omega
    replace H := ite_f H
    replace H := bind_hid H
    obtain ⟨t_9, qt_9, H⟩ := H
    go_wp2_with fail
    go_at_call 5
    refine (Go.Proofs.YtekacbjnpeglhaaDoor.GlSzKindTable.C (aT_sizes) (aT_bans) (1048576) A0_0 c0_0 A0_1 c0_1 _   (Lib.hid (Cells.below M0_0.out HBw_aT_0.out)) N0_0 (Lib.hid (Cells.below M0_1.out HBw_aT_0.out)) N0_1 qt_9).mono ?_
    rintro e_t_9 wt_9 ⟨rfl, bt_9⟩
    have HBwt_9 := Lib.hid (Below.step HBw_aT_0.out bt_9)
    replace kaT_0_0 := cell_below bt_9 kaT_0_0
    replace kaT_0_1 := cell_below bt_9 kaT_0_1
    clear bt_9
    replace H := let_hid H
    obtain ⟨t_12, ht_12, H⟩ := H
    cases t_12 with
    | false =>
      replace H := ite_f H
      replace H := bind_hid H
      obtain ⟨t_15, qt_15, H⟩ := H
      obtain ⟨t_15_sizes, t_15_bans⟩ := t_15
      replace H := unKindTable_hid H
      go_wp2_with fail
      go_at_call 7
      refine (Go.Proofs.YtekacbjnpeglhaaDoor.GlToKindTable.C (aT_sizes) (aT_bans) A0_0 c0_0 A0_1 c0_1 _   (Lib.hid (Cells.below M0_0.out HBwt_9.out)) N0_0 (Lib.hid (Cells.below M0_1.out HBwt_9.out)) N0_1 qt_15).mono ?_
      rintro e_t_15 wt_15 ⟨At_15_sizes, ct_15_sizes, At_15_bans, ct_15_bans, rfl, ot_15_sizes, ot_15_bans, d0_1, bt_15⟩
      have Dt_15_sizes_aT_0 := Lib.hid (apart_callbox ot_15_sizes kaT_0_0)
      have Dt_15_bans_aT_0 := Lib.hid (apart_callbox ot_15_bans kaT_0_0)
      have Dt_15_sizes_t_15_bans := Lib.hid d0_1
      have Ot_15_sizes := Lib.hid (own_lower ot_15_sizes HBwt_9.out.size)
      clear ot_15_sizes
      have Ot_15_bans := Lib.hid (own_lower ot_15_bans HBwt_9.out.size)
      clear ot_15_bans
      have HBwt_15 := Lib.hid (Below.step HBwt_9.out bt_15)
      replace kaT_0_0 := cell_below bt_15 kaT_0_0
      replace kaT_0_1 := cell_below bt_15 kaT_0_1
      clear bt_15
      replace H := bind_hid H
      obtain ⟨t_17, qt_17, H⟩ := H
      go_wp2_with fail
      go_at_call 8
      refine (Go.Proofs.YtekacbjnpeglhaaDoor.GlToIntS.C (aKind) A1 c1 _   (Lib.hid (Cells.below M1.out HBwt_15.out)) N1 qt_17).mono ?_
      rintro e_t_17 wt_17 ⟨At_17, ct_17, rfl, ot_17, bt_17⟩
      have Dt_17_t_15_sizes := Lib.hid (apart_call ot_17 Ot_15_sizes.out)
      have Dt_17_t_15_bans := Lib.hid (apart_call ot_17 Ot_15_bans.out)
      have Dt_17_aT_0 := Lib.hid (apart_callbox ot_17 kaT_0_0)
      have Ot_17 := Lib.hid (own_lower ot_17 HBwt_15.out.size)
      clear ot_17
      have HBwt_17 := Lib.hid (Below.step HBwt_15.out bt_17)
      replace kaT_0_0 := cell_below bt_17 kaT_0_0
      replace kaT_0_1 := cell_below bt_17 kaT_0_1
      replace Ot_15_sizes := Lib.hid (own_below Ot_15_sizes.out bt_17)
      replace Ot_15_bans := Lib.hid (own_below Ot_15_bans.out bt_17)
      clear bt_17
      replace H := bind2_hid H
      obtain ⟨t_18a, t_18b, qt_18, H⟩ := H
      go_wp2_with fail
      go_at_call 6
      refine (Go.Proofs.YtekacbjnpeglhaaDoor.GsKindText.C fuel (t_15_sizes) (t_15_bans) (t_17) At_15_sizes ct_15_sizes At_15_bans ct_15_bans At_17 ct_17 _   (Lib.hid (own_cells Ot_15_sizes.out)) (Lib.hid (own_max Ot_15_sizes.out)) (Lib.hid (own_cells Ot_15_bans.out)) (Lib.hid (own_max Ot_15_bans.out)) (Lib.hid (own_cells Ot_17.out)) (Lib.hid (own_max Ot_17.out)) qt_18).mono ?_
      rintro e_t_18 wt_18 ⟨rfl, bt_18⟩
      have HBwt_18 := Lib.hid (Below.step HBwt_17.out bt_18)
      replace kaT_0_0 := cell_below bt_18 kaT_0_0
      replace kaT_0_1 := cell_below bt_18 kaT_0_1
      replace Ot_15_sizes := Lib.hid (own_below Ot_15_sizes.out bt_18)
      replace Ot_15_bans := Lib.hid (own_below Ot_15_bans.out bt_18)
      replace Ot_17 := Lib.hid (own_below Ot_17.out bt_18)
      clear bt_18
      replace H := bind_hid H
      obtain ⟨t_25, qt_25, H⟩ := H
      obtain ⟨t_25_sizes, t_25_bans⟩ := t_25
      replace H := unKindTable_hid H
      go_wp2_with fail
      go_at_call 7
      refine (Go.Proofs.YtekacbjnpeglhaaDoor.GlToKindTable.C (aT_sizes) (aT_bans) A0_0 c0_0 A0_1 c0_1 _   (Lib.hid (Cells.below M0_0.out HBwt_18.out)) N0_0 (Lib.hid (Cells.below M0_1.out HBwt_18.out)) N0_1 qt_25).mono ?_
      rintro e_t_25 wt_25 ⟨At_25_sizes, ct_25_sizes, At_25_bans, ct_25_bans, rfl, ot_25_sizes, ot_25_bans, d0_1, bt_25⟩
      have Dt_25_sizes_t_15_sizes := Lib.hid (apart_call ot_25_sizes Ot_15_sizes.out)
      have Dt_25_sizes_t_15_bans := Lib.hid (apart_call ot_25_sizes Ot_15_bans.out)
      have Dt_25_sizes_t_17 := Lib.hid (apart_call ot_25_sizes Ot_17.out)
      have Dt_25_sizes_aT_0 := Lib.hid (apart_callbox ot_25_sizes kaT_0_0)
      have Dt_25_bans_t_15_sizes := Lib.hid (apart_call ot_25_bans Ot_15_sizes.out)
      have Dt_25_bans_t_15_bans := Lib.hid (apart_call ot_25_bans Ot_15_bans.out)
      have Dt_25_bans_t_17 := Lib.hid (apart_call ot_25_bans Ot_17.out)
      have Dt_25_bans_aT_0 := Lib.hid (apart_callbox ot_25_bans kaT_0_0)
      have Dt_25_sizes_t_25_bans := Lib.hid d0_1
      have Ot_25_sizes := Lib.hid (own_lower ot_25_sizes HBwt_18.out.size)
      clear ot_25_sizes
      have Ot_25_bans := Lib.hid (own_lower ot_25_bans HBwt_18.out.size)
      clear ot_25_bans
      have HBwt_25 := Lib.hid (Below.step HBwt_18.out bt_25)
      replace kaT_0_0 := cell_below bt_25 kaT_0_0
      replace kaT_0_1 := cell_below bt_25 kaT_0_1
      replace Ot_15_sizes := Lib.hid (own_below Ot_15_sizes.out bt_25)
      replace Ot_15_bans := Lib.hid (own_below Ot_15_bans.out bt_25)
      replace Ot_17 := Lib.hid (own_below Ot_17.out bt_25)
      clear bt_25
      obtain ⟨w_x0_26, hw_x0_26⟩ : ∃ x, wt_25.alloc (.cells #[.slice At_25_sizes t_25_sizes.length ct_25_sizes, .slice At_25_bans t_25_bans.length ct_25_bans] 31) = x := ⟨_, rfl⟩
      have bw_x0_26 : Below wt_25.heap.size wt_25 w_x0_26 := by rw [← hw_x0_26]; exact (Below.refl _ _).alloc (Nat.le_refl _) _
      have Dx0_26_t_15_sizes := Lib.hid (apart_fresh Ot_15_sizes.out)
      have Dx0_26_t_15_bans := Lib.hid (apart_fresh Ot_15_bans.out)
      have Dx0_26_t_17 := Lib.hid (apart_fresh Ot_17.out)
      have Dx0_26_t_25_sizes := Lib.hid (apart_fresh Ot_25_sizes.out)
      have Dx0_26_t_25_bans := Lib.hid (apart_fresh Ot_25_bans.out)
      have HBw_x0_26 := Lib.hid (Below.step HBwt_25.out bw_x0_26)
      have kaT_0_0__146 := cell_below bw_x0_26 kaT_0_0
      have kaT_0_1__147 := cell_below bw_x0_26 kaT_0_1
      replace Ot_15_sizes := Lib.hid (own_below Ot_15_sizes.out bw_x0_26)
      replace Ot_15_bans := Lib.hid (own_below Ot_15_bans.out bw_x0_26)
      replace Ot_17 := Lib.hid (own_below Ot_17.out bw_x0_26)
      replace Ot_25_sizes := Lib.hid (own_below Ot_25_sizes.out bw_x0_26)
      replace Ot_25_bans := Lib.hid (own_below Ot_25_bans.out bw_x0_26)
      clear bw_x0_26
      have kx0_26_0 : w_x0_26.cell? ⟨wt_25.heap.size, 0, none⟩ = some (.slice At_25_sizes t_25_sizes.length ct_25_sizes) := by rw [← hw_x0_26]; exact box_new _ _ _ 0 _ rfl
      have kx0_26_1 : w_x0_26.cell? ⟨wt_25.heap.size, 1, none⟩ = some (.slice At_25_bans t_25_bans.length ct_25_bans) := by rw [← hw_x0_26]; exact box_new _ _ _ 1 _ rfl
      replace H := bind_hid H
      obtain ⟨t_29, qt_29, H⟩ := H
      go_wp2_with fail
      clear kaT_0_0 kaT_0_1
      go_at_call 8
      refine (Go.Proofs.YtekacbjnpeglhaaDoor.GlToIntS.C (aKind) A1 c1 _   (Lib.hid (Cells.below M1.out HBw_x0_26.out)) N1 qt_29).mono ?_
      rintro e_t_29 wt_29 ⟨At_29, ct_29, rfl, ot_29, bt_29⟩
      have Dt_29_t_15_sizes := Lib.hid (apart_call ot_29 Ot_15_sizes.out)
      have Dt_29_t_15_bans := Lib.hid (apart_call ot_29 Ot_15_bans.out)
      have Dt_29_t_17 := Lib.hid (apart_call ot_29 Ot_17.out)
      have Dt_29_t_25_sizes := Lib.hid (apart_call ot_29 Ot_25_sizes.out)
      have Dt_29_t_25_bans := Lib.hid (apart_call ot_29 Ot_25_bans.out)
      have Dt_29_aT_0 := Lib.hid (apart_callbox ot_29 kaT_0_0__146)
      have Dt_29_x0_26 := Lib.hid (apart_callbox ot_29 kx0_26_0)
      have Ot_29 := Lib.hid (own_lower ot_29 HBw_x0_26.out.size)
      clear ot_29
      have HBwt_29 := Lib.hid (Below.step HBw_x0_26.out bt_29)
      replace kaT_0_0__146 := cell_below bt_29 kaT_0_0__146
      replace kaT_0_1__147 := cell_below bt_29 kaT_0_1__147
      replace kx0_26_0 := cell_below bt_29 kx0_26_0
      replace kx0_26_1 := cell_below bt_29 kx0_26_1
      replace Ot_15_sizes := Lib.hid (own_below Ot_15_sizes.out bt_29)
      replace Ot_15_bans := Lib.hid (own_below Ot_15_bans.out bt_29)
      replace Ot_17 := Lib.hid (own_below Ot_17.out bt_29)
      replace Ot_25_sizes := Lib.hid (own_below Ot_25_sizes.out bt_29)
      replace Ot_25_bans := Lib.hid (own_below Ot_25_bans.out bt_29)
      clear bt_29
      replace H := bind2_hid H
      obtain ⟨t_33a, t_33b, qt_33, H⟩ := H
      go_wp2_with fail
      go_at_call 9
      refine (Go.Proofs.YtekacbjnpeglhaaDoor.GiKindText.C (t_25_sizes) (t_25_bans) (t_29) At_25_sizes ct_25_sizes At_25_bans ct_25_bans At_29 ct_29 _ (tab_below HBwt_29.out HT)  (Lib.hid (own_cells Ot_25_sizes.out)) (Lib.hid (own_max Ot_25_sizes.out)) (Lib.hid (own_cells Ot_25_bans.out)) (Lib.hid (own_max Ot_25_bans.out)) (Lib.hid (own_cells Ot_29.out)) (Lib.hid (own_max Ot_29.out)) qt_33).mono ?_
      rintro e_t_33 wt_33 ⟨rfl, bt_33⟩
      have HBwt_33 := Lib.hid (Below.step HBwt_29.out bt_33)
      replace kaT_0_0__146 := cell_below bt_33 kaT_0_0__146
      replace kaT_0_1__147 := cell_below bt_33 kaT_0_1__147
      replace kx0_26_0 := cell_below bt_33 kx0_26_0
      replace kx0_26_1 := cell_below bt_33 kx0_26_1
      replace Ot_15_sizes := Lib.hid (own_below Ot_15_sizes.out bt_33)
      replace Ot_15_bans := Lib.hid (own_below Ot_15_bans.out bt_33)
      replace Ot_17 := Lib.hid (own_below Ot_17.out bt_33)
      replace Ot_25_sizes := Lib.hid (own_below Ot_25_sizes.out bt_33)
      replace Ot_25_bans := Lib.hid (own_below Ot_25_bans.out bt_33)
      replace Ot_29 := Lib.hid (own_below Ot_29.out bt_33)
      clear bt_33
      replace H := let_hid H
      obtain ⟨t_41, ht_41, H⟩ := H
      replace H := join_hid H
      cases t_41 with
      | false =>
        replace H := ite_f H
        replace H := let_hid H
        obtain ⟨t_45, ht_45, H⟩ := H
        replace H := app_hid H
        cases t_45 with
        | false =>
          replace H := ite_f H
          go_wp2_with fail
          have bd13 : Below wt_33.heap.size wt_33 wt_33.drew := (Below.refl _ _).drew
          have HBwt_33.drew := Lib.hid (Below.step HBwt_33.out bd13)
          replace kaT_0_0__146 := cell_below bd13 kaT_0_0__146
          replace kaT_0_1__147 := cell_below bd13 kaT_0_1__147
          replace kx0_26_0 := cell_below bd13 kx0_26_0
          replace kx0_26_1 := cell_below bd13 kx0_26_1
          replace Ot_15_sizes := Lib.hid (own_below Ot_15_sizes.out bd13)
          replace Ot_15_bans := Lib.hid (own_below Ot_15_bans.out bd13)
          replace Ot_17 := Lib.hid (own_below Ot_17.out bd13)
          replace Ot_25_sizes := Lib.hid (own_below Ot_25_sizes.out bd13)
          replace Ot_25_bans := Lib.hid (own_below Ot_25_bans.out bd13)
          replace Ot_29 := Lib.hid (own_below Ot_29.out bd13)
          clear bd13
          replace H := bind_hid H
          obtain ⟨t_50, qt_50, H⟩ := H
          obtain ⟨t_50_sizes, t_50_bans⟩ := t_50
          replace H := unKindTable_hid H
          replace H := bind_hid H
          obtain ⟨t_51, qt_51, H⟩ := H
          cases t_51 with
          | false =>
            replace H := let_hid H
            obtain ⟨t_52, ht_52, H⟩ := H
            obtain rfl : t_52 = true := ht_52.symm
            go_region_held3 (fun w' => w'.cell? ⟨w.heap.size, 0, none⟩ = some (.slice A0_0 aT_sizes.length c0_0) ∧ w'.cell? ⟨w.heap.size, 1, none⟩ = some (.slice A0_1 aT_bans.length c0_1) ∧ w'.cell? ⟨wt_25.heap.size, 0, none⟩ = some (.slice At_25_sizes t_25_sizes.length ct_25_sizes) ∧ w'.cell? ⟨wt_25.heap.size, 1, none⟩ = some (.slice At_25_bans t_25_bans.length ct_25_bans)) (first | exact ⟨kaT_0_0__146, kaT_0_1__147, kx0_26_0, kx0_26_1⟩)
                (first
                  | (go_at_call 7
                     refine (Go.Proofs.YtekacbjnpeglhaaDoor.GlToKindTable.C (aT_sizes) (aT_bans) A0_0 c0_0 A0_1 c0_1 _   (Lib.hid (Cells.below M0_0.out HBwt_33.drew.out)) N0_0 (Lib.hid (Cells.below M0_1.out HBwt_33.drew.out)) N0_1 qt_50).mono ?_
                     rintro e_t_50 wt_50 ⟨At_50_sizes, ct_50_sizes, At_50_bans, ct_50_bans, rfl, ot_50_sizes, ot_50_bans, d0_1, bt_50⟩
                     have Dt_50_sizes_t_15_sizes := Lib.hid (apart_call ot_50_sizes Ot_15_sizes.out)
                     have Dt_50_sizes_t_15_bans := Lib.hid (apart_call ot_50_sizes Ot_15_bans.out)
                     have Dt_50_sizes_t_17 := Lib.hid (apart_call ot_50_sizes Ot_17.out)
                     have Dt_50_sizes_t_25_sizes := Lib.hid (apart_call ot_50_sizes Ot_25_sizes.out)
                     have Dt_50_sizes_t_25_bans := Lib.hid (apart_call ot_50_sizes Ot_25_bans.out)
                     have Dt_50_sizes_t_29 := Lib.hid (apart_call ot_50_sizes Ot_29.out)
                     have Dt_50_sizes_aT_0 := Lib.hid (apart_callbox ot_50_sizes kaT_0_0__146)
                     have Dt_50_sizes_x0_26 := Lib.hid (apart_callbox ot_50_sizes kx0_26_0)
                     have Dt_50_bans_t_15_sizes := Lib.hid (apart_call ot_50_bans Ot_15_sizes.out)
                     have Dt_50_bans_t_15_bans := Lib.hid (apart_call ot_50_bans Ot_15_bans.out)
                     have Dt_50_bans_t_17 := Lib.hid (apart_call ot_50_bans Ot_17.out)
                     have Dt_50_bans_t_25_sizes := Lib.hid (apart_call ot_50_bans Ot_25_sizes.out)
                     have Dt_50_bans_t_25_bans := Lib.hid (apart_call ot_50_bans Ot_25_bans.out)
                     have Dt_50_bans_t_29 := Lib.hid (apart_call ot_50_bans Ot_29.out)
                     have Dt_50_bans_aT_0 := Lib.hid (apart_callbox ot_50_bans kaT_0_0__146)
                     have Dt_50_bans_x0_26 := Lib.hid (apart_callbox ot_50_bans kx0_26_0)
                     have Dt_50_sizes_t_50_bans := Lib.hid d0_1
                     have Ot_50_sizes := Lib.hid (own_lower ot_50_sizes HBwt_33.drew.out.size)
                     clear ot_50_sizes
                     have Ot_50_bans := Lib.hid (own_lower ot_50_bans HBwt_33.drew.out.size)
                     clear ot_50_bans
                     have HBwt_50 := Lib.hid (Below.step HBwt_33.drew.out bt_50)
                     replace kaT_0_0__146 := cell_below bt_50 kaT_0_0__146
                     replace kaT_0_1__147 := cell_below bt_50 kaT_0_1__147
                     replace kx0_26_0 := cell_below bt_50 kx0_26_0
                     replace kx0_26_1 := cell_below bt_50 kx0_26_1
                     replace Ot_15_sizes := Lib.hid (own_below Ot_15_sizes.out bt_50)
                     replace Ot_15_bans := Lib.hid (own_below Ot_15_bans.out bt_50)
                     replace Ot_17 := Lib.hid (own_below Ot_17.out bt_50)
                     replace Ot_25_sizes := Lib.hid (own_below Ot_25_sizes.out bt_50)
                     replace Ot_25_bans := Lib.hid (own_below Ot_25_bans.out bt_50)
                     replace Ot_29 := Lib.hid (own_below Ot_29.out bt_50)
                     clear bt_50
                     clear qt_50)
                  | (go_at_call 10
                     refine (Go.Proofs.YtekacbjnpeglhaaDoor.GlEqKindTable.C (t_25_sizes) (t_25_bans) (t_50_sizes) (t_50_bans) At_25_sizes ct_25_sizes At_25_bans ct_25_bans At_50_sizes ct_50_sizes At_50_bans ct_50_bans _   (Lib.hid (own_cells Ot_25_sizes.out)) (Lib.hid (own_max Ot_25_sizes.out)) (Lib.hid (own_cells Ot_25_bans.out)) (Lib.hid (own_max Ot_25_bans.out)) (Lib.hid (own_cells Ot_50_sizes.out)) (Lib.hid (own_max Ot_50_sizes.out)) (Lib.hid (own_cells Ot_50_bans.out)) (Lib.hid (own_max Ot_50_bans.out)) qt_51).mono ?_
                     rintro e_t_51 wt_51 ⟨rfl, bt_51⟩
                     have HBwt_51 := Lib.hid (Below.step HBwt_50.out bt_51)
                     replace kaT_0_0__146 := cell_below bt_51 kaT_0_0__146
                     replace kaT_0_1__147 := cell_below bt_51 kaT_0_1__147
                     replace kx0_26_0 := cell_below bt_51 kx0_26_0
                     replace kx0_26_1 := cell_below bt_51 kx0_26_1
                     replace Ot_15_sizes := Lib.hid (own_below Ot_15_sizes.out bt_51)
                     replace Ot_15_bans := Lib.hid (own_below Ot_15_bans.out bt_51)
                     replace Ot_17 := Lib.hid (own_below Ot_17.out bt_51)
                     replace Ot_25_sizes := Lib.hid (own_below Ot_25_sizes.out bt_51)
                     replace Ot_25_bans := Lib.hid (own_below Ot_25_bans.out bt_51)
                     replace Ot_29 := Lib.hid (own_below Ot_29.out bt_51)
                     replace Ot_50_sizes := Lib.hid (own_below Ot_50_sizes.out bt_51)
                     replace Ot_50_bans := Lib.hid (own_below Ot_50_bans.out bt_51)
                     clear bt_51
                     clear qt_51))
            replace H := ite_t H
            obtain rfl := ret_hid H
            go_wp2_with fail
            go_ret
            exact ⟨rfl, HBwt_51.out⟩
          | true =>
            replace H := let_hid H
            obtain ⟨t_52, ht_52, H⟩ := H
            obtain rfl : t_52 = false := ht_52.symm
            go_region_held3 (fun w' => w'.cell? ⟨w.heap.size, 0, none⟩ = some (.slice A0_0 aT_sizes.length c0_0) ∧ w'.cell? ⟨w.heap.size, 1, none⟩ = some (.slice A0_1 aT_bans.length c0_1) ∧ w'.cell? ⟨wt_25.heap.size, 0, none⟩ = some (.slice At_25_sizes t_25_sizes.length ct_25_sizes) ∧ w'.cell? ⟨wt_25.heap.size, 1, none⟩ = some (.slice At_25_bans t_25_bans.length ct_25_bans)) (first | exact ⟨kaT_0_0__146, kaT_0_1__147, kx0_26_0, kx0_26_1⟩)
                (first
                  | (go_at_call 7
                     refine (Go.Proofs.YtekacbjnpeglhaaDoor.GlToKindTable.C (aT_sizes) (aT_bans) A0_0 c0_0 A0_1 c0_1 _   (Lib.hid (Cells.below M0_0.out HBwt_33.drew.out)) N0_0 (Lib.hid (Cells.below M0_1.out HBwt_33.drew.out)) N0_1 qt_50).mono ?_
                     rintro e_t_50 wt_50 ⟨At_50_sizes, ct_50_sizes, At_50_bans, ct_50_bans, rfl, ot_50_sizes, ot_50_bans, d0_1, bt_50⟩
                     have Dt_50_sizes_t_15_sizes := Lib.hid (apart_call ot_50_sizes Ot_15_sizes.out)
                     have Dt_50_sizes_t_15_bans := Lib.hid (apart_call ot_50_sizes Ot_15_bans.out)
                     have Dt_50_sizes_t_17 := Lib.hid (apart_call ot_50_sizes Ot_17.out)
                     have Dt_50_sizes_t_25_sizes := Lib.hid (apart_call ot_50_sizes Ot_25_sizes.out)
                     have Dt_50_sizes_t_25_bans := Lib.hid (apart_call ot_50_sizes Ot_25_bans.out)
                     have Dt_50_sizes_t_29 := Lib.hid (apart_call ot_50_sizes Ot_29.out)
                     have Dt_50_sizes_aT_0 := Lib.hid (apart_callbox ot_50_sizes kaT_0_0__146)
                     have Dt_50_sizes_x0_26 := Lib.hid (apart_callbox ot_50_sizes kx0_26_0)
                     have Dt_50_bans_t_15_sizes := Lib.hid (apart_call ot_50_bans Ot_15_sizes.out)
                     have Dt_50_bans_t_15_bans := Lib.hid (apart_call ot_50_bans Ot_15_bans.out)
                     have Dt_50_bans_t_17 := Lib.hid (apart_call ot_50_bans Ot_17.out)
                     have Dt_50_bans_t_25_sizes := Lib.hid (apart_call ot_50_bans Ot_25_sizes.out)
                     have Dt_50_bans_t_25_bans := Lib.hid (apart_call ot_50_bans Ot_25_bans.out)
                     have Dt_50_bans_t_29 := Lib.hid (apart_call ot_50_bans Ot_29.out)
                     have Dt_50_bans_aT_0 := Lib.hid (apart_callbox ot_50_bans kaT_0_0__146)
                     have Dt_50_bans_x0_26 := Lib.hid (apart_callbox ot_50_bans kx0_26_0)
                     have Dt_50_sizes_t_50_bans := Lib.hid d0_1
                     have Ot_50_sizes := Lib.hid (own_lower ot_50_sizes HBwt_33.drew.out.size)
                     clear ot_50_sizes
                     have Ot_50_bans := Lib.hid (own_lower ot_50_bans HBwt_33.drew.out.size)
                     clear ot_50_bans
                     have HBwt_50 := Lib.hid (Below.step HBwt_33.drew.out bt_50)
                     replace kaT_0_0__146 := cell_below bt_50 kaT_0_0__146
                     replace kaT_0_1__147 := cell_below bt_50 kaT_0_1__147
                     replace kx0_26_0 := cell_below bt_50 kx0_26_0
                     replace kx0_26_1 := cell_below bt_50 kx0_26_1
                     replace Ot_15_sizes := Lib.hid (own_below Ot_15_sizes.out bt_50)
                     replace Ot_15_bans := Lib.hid (own_below Ot_15_bans.out bt_50)
                     replace Ot_17 := Lib.hid (own_below Ot_17.out bt_50)
                     replace Ot_25_sizes := Lib.hid (own_below Ot_25_sizes.out bt_50)
                     replace Ot_25_bans := Lib.hid (own_below Ot_25_bans.out bt_50)
                     replace Ot_29 := Lib.hid (own_below Ot_29.out bt_50)
                     clear bt_50
                     clear qt_50)
                  | (go_at_call 10
                     refine (Go.Proofs.YtekacbjnpeglhaaDoor.GlEqKindTable.C (t_25_sizes) (t_25_bans) (t_50_sizes) (t_50_bans) At_25_sizes ct_25_sizes At_25_bans ct_25_bans At_50_sizes ct_50_sizes At_50_bans ct_50_bans _   (Lib.hid (own_cells Ot_25_sizes.out)) (Lib.hid (own_max Ot_25_sizes.out)) (Lib.hid (own_cells Ot_25_bans.out)) (Lib.hid (own_max Ot_25_bans.out)) (Lib.hid (own_cells Ot_50_sizes.out)) (Lib.hid (own_max Ot_50_sizes.out)) (Lib.hid (own_cells Ot_50_bans.out)) (Lib.hid (own_max Ot_50_bans.out)) qt_51).mono ?_
                     rintro e_t_51 wt_51 ⟨rfl, bt_51⟩
                     have HBwt_51 := Lib.hid (Below.step HBwt_50.out bt_51)
                     replace kaT_0_0__146 := cell_below bt_51 kaT_0_0__146
                     replace kaT_0_1__147 := cell_below bt_51 kaT_0_1__147
                     replace kx0_26_0 := cell_below bt_51 kx0_26_0
                     replace kx0_26_1 := cell_below bt_51 kx0_26_1
                     replace Ot_15_sizes := Lib.hid (own_below Ot_15_sizes.out bt_51)
                     replace Ot_15_bans := Lib.hid (own_below Ot_15_bans.out bt_51)
                     replace Ot_17 := Lib.hid (own_below Ot_17.out bt_51)
                     replace Ot_25_sizes := Lib.hid (own_below Ot_25_sizes.out bt_51)
                     replace Ot_25_bans := Lib.hid (own_below Ot_25_bans.out bt_51)
                     replace Ot_29 := Lib.hid (own_below Ot_29.out bt_51)
                     replace Ot_50_sizes := Lib.hid (own_below Ot_50_sizes.out bt_51)
                     replace Ot_50_bans := Lib.hid (own_below Ot_50_bans.out bt_51)
                     clear bt_51
                     clear qt_51))
            replace H := ite_f H
            replace H := bind_hid H
            obtain ⟨t_56, qt_56, H⟩ := H
            go_wp2_with fail
            go_at_call 8
            refine (Go.Proofs.YtekacbjnpeglhaaDoor.GlToIntS.C (aKind) A1 c1 _   (Lib.hid (Cells.below M1.out HBwt_51.out)) N1 qt_56).mono ?_
            rintro e_t_56 wt_56 ⟨At_56, ct_56, rfl, ot_56, bt_56⟩
            have Dt_56_t_15_sizes := Lib.hid (apart_call ot_56 Ot_15_sizes.out)
            have Dt_56_t_15_bans := Lib.hid (apart_call ot_56 Ot_15_bans.out)
            have Dt_56_t_17 := Lib.hid (apart_call ot_56 Ot_17.out)
            have Dt_56_t_25_sizes := Lib.hid (apart_call ot_56 Ot_25_sizes.out)
            have Dt_56_t_25_bans := Lib.hid (apart_call ot_56 Ot_25_bans.out)
            have Dt_56_t_29 := Lib.hid (apart_call ot_56 Ot_29.out)
            have Dt_56_t_50_sizes := Lib.hid (apart_call ot_56 Ot_50_sizes.out)
            have Dt_56_t_50_bans := Lib.hid (apart_call ot_56 Ot_50_bans.out)
            have Dt_56_aT_0 := Lib.hid (apart_callbox ot_56 kaT_0_0__146)
            have Dt_56_x0_26 := Lib.hid (apart_callbox ot_56 kx0_26_0)
            have Ot_56 := Lib.hid (own_lower ot_56 HBwt_51.out.size)
            clear ot_56
            have HBwt_56 := Lib.hid (Below.step HBwt_51.out bt_56)
            replace kaT_0_0__146 := cell_below bt_56 kaT_0_0__146
            replace kaT_0_1__147 := cell_below bt_56 kaT_0_1__147
            replace kx0_26_0 := cell_below bt_56 kx0_26_0
            replace kx0_26_1 := cell_below bt_56 kx0_26_1
            replace Ot_15_sizes := Lib.hid (own_below Ot_15_sizes.out bt_56)
            replace Ot_15_bans := Lib.hid (own_below Ot_15_bans.out bt_56)
            replace Ot_17 := Lib.hid (own_below Ot_17.out bt_56)
            replace Ot_25_sizes := Lib.hid (own_below Ot_25_sizes.out bt_56)
            replace Ot_25_bans := Lib.hid (own_below Ot_25_bans.out bt_56)
            replace Ot_29 := Lib.hid (own_below Ot_29.out bt_56)
            replace Ot_50_sizes := Lib.hid (own_below Ot_50_sizes.out bt_56)
            replace Ot_50_bans := Lib.hid (own_below Ot_50_bans.out bt_56)
            clear bt_56
            replace H := bind_hid H
            obtain ⟨t_57, qt_57, H⟩ := H
            go_wp2_with fail
            go_at_call 11
            refine (Go.Proofs.YtekacbjnpeglhaaDoor.GlEqIntS.C (t_29) (t_56) At_29 ct_29 At_56 ct_56 _   (Lib.hid (own_cells Ot_29.out)) (Lib.hid (own_max Ot_29.out)) (Lib.hid (own_cells Ot_56.out)) (Lib.hid (own_max Ot_56.out)) qt_57).mono ?_
            rintro e_t_57 wt_57 ⟨rfl, bt_57⟩
            have HBwt_57 := Lib.hid (Below.step HBwt_56.out bt_57)
            replace kaT_0_0__146 := cell_below bt_57 kaT_0_0__146
            replace kaT_0_1__147 := cell_below bt_57 kaT_0_1__147
            replace kx0_26_0 := cell_below bt_57 kx0_26_0
            replace kx0_26_1 := cell_below bt_57 kx0_26_1
            replace Ot_15_sizes := Lib.hid (own_below Ot_15_sizes.out bt_57)
            replace Ot_15_bans := Lib.hid (own_below Ot_15_bans.out bt_57)
            replace Ot_17 := Lib.hid (own_below Ot_17.out bt_57)
            replace Ot_25_sizes := Lib.hid (own_below Ot_25_sizes.out bt_57)
            replace Ot_25_bans := Lib.hid (own_below Ot_25_bans.out bt_57)
            replace Ot_29 := Lib.hid (own_below Ot_29.out bt_57)
            replace Ot_50_sizes := Lib.hid (own_below Ot_50_sizes.out bt_57)
            replace Ot_50_bans := Lib.hid (own_below Ot_50_bans.out bt_57)
            replace Ot_56 := Lib.hid (own_below Ot_56.out bt_57)
            clear bt_57
            cases t_57 with
            | false =>
              replace H := let_hid H
              obtain ⟨t_58, ht_58, H⟩ := H
              obtain rfl : t_58 = true := ht_58.symm
              replace H := ite_t H
              obtain rfl := ret_hid H
              go_wp2_with fail
              go_ret
              exact ⟨rfl, HBwt_57.out⟩
            | true =>
              replace H := let_hid H
              obtain ⟨t_58, ht_58, H⟩ := H
              obtain rfl : t_58 = false := ht_58.symm
              replace H := ite_f H
              obtain rfl := ret_hid H
              go_wp2_with fail
              go_ret
              exact ⟨rfl, HBwt_57.out⟩
        | true =>
          replace H := ite_t H
          obtain rfl := ret_hid H
          go_wp2_with fail
          go_ret
          exact ⟨rfl, HBwt_33.out⟩
      | true =>
        replace H := ite_t H
        replace H := app_hid H
        replace H := ite_t H
        obtain rfl := ret_hid H
        go_wp2_with fail
        go_ret
        exact ⟨rfl, HBwt_33.out⟩
    | true =>
      replace H := ite_t H
      obtain rfl := ret_hid H
      go_wp2_with fail
      go_ret
      exact ⟨rfl, HBwt_9.out⟩
  | true =>
    have nht_4 : 1048576 < aKind.length := by have := of_decide_eq_true ht_4; omega
    replace H := ite_t H
    obtain rfl := ret_hid H
    go_wp2_with fail
    go_ret
    exact ⟨rfl, HBw_aT_0.out⟩
end Go.Proofs.YtekacbjnpeglhaaDoor.GlFnExactKindText

/- What the rows' lists of the library's tables give: the table of powers of ten holds what Itoa reads. Condition: the row's list is met. -/
namespace Go.Proofs.YtekacbjnpeglhaaDoor.DoorLaid

theorem gPow : Tryd.prog.globalNamed "internal/strconv.uint64pow10" = some 0 := by kernel_rfl
def keepPow (x : String × DataW Unit) : Bool := x.1 == "internal/strconv.uint64pow10"
theorem gPowType : (Tryd.prog.globals[0]?).map (·.type) = some 114 := by kernel_rfl
theorem cellsPow : Tryd.prog.cellsOf 114 = 20 := by kernel_rfl
theorem cellsU64 : Tryd.prog.cellsOf 85 = 1 := by kernel_rfl

/-- Of whatever list holds the table at its own datum: the table is there. -/
theorem pow10 {l : List (String × DataW Unit)} {W : World} (h : laidMetH Tryd.prog l W) (hl : l.filter keepPow = [("internal/strconv.uint64pow10", Lib.tabData .u64 Lib.pow10Tab)]) :
    Lib.TabIs Tryd.prog W "internal/strconv.uint64pow10" .u64 Lib.pow10Tab := by
  have h1 := laidMetH.filter keepPow h
  rw [hl] at h1
  exact Lib.tabIs_of_head (rest := []) gPow gPowType Tryd.underlying114 Tryd.underlying85 cellsU64 cellsPow h1
end Go.Proofs.YtekacbjnpeglhaaDoor.DoorLaid

/- Plain words on stamps: what a stamp is, when one is valid, when a list of them is; the cells of a list of records. No condition. -/
namespace Go.Proofs.YtekacbjnpeglhaaDoor.PlainStamp
set_option linter.unusedVariables false

/-- a number lies in a..b -/
def inB (x a b : Int) : Bool := decide (a ≤ x ∧ x ≤ b)
theorem inB_yes {x a b : Int} (h1 : a ≤ x) (h2 : x ≤ b) : inB x a b = true := by unfold inB; exact decide_eq_true ⟨h1, h2⟩
theorem inB_of {x a b : Int} (h : inB x a b = true) : a ≤ x ∧ x ≤ b := by unfold inB at h; exact of_decide_eq_true h
theorem inB_no {x a b : Int} (h : x < a ∨ b < x) : inB x a b = false := by unfold inB; exact decide_eq_false (by omega)

structure St where
  id : Int
  face : Int
  color : Int
  year : Int
deriving DecidableEq

def St.cells (s : St) : List Value := [.int .i64 s.id, .int .i64 s.face, .int .i64 s.color, .int .i64 s.year]
def St.val (s : St) : Value := .agg #[.int .i64 s.id, .int .i64 s.face, .int .i64 s.color, .int .i64 s.year]
/-- each field fits an int -/
def St.fits (s : St) : Prop := (Lit.int .i64 s.id).wf = true ∧ (Lit.int .i64 s.face).wf = true ∧ (Lit.int .i64 s.color).wf = true ∧ (Lit.int .i64 s.year).wf = true

def okSt (s : St) : Bool := inB s.id 1 999 && inB s.face 0 9999 && inB s.color 0 99 && inB s.year 1840 2100
theorem okSt_yes {s : St} (h : okSt s = true) : (1 ≤ s.id ∧ s.id ≤ 999) ∧ (0 ≤ s.face ∧ s.face ≤ 9999) ∧ (0 ≤ s.color ∧ s.color ≤ 99) ∧ (1840 ≤ s.year ∧ s.year ≤ 2100) := by
  unfold okSt at h
  simp only [Bool.and_eq_true] at h
  exact ⟨inB_of h.1.1.1, inB_of h.1.1.2, inB_of h.1.2, inB_of h.2⟩

/-- the stamp at k is valid, and its id is above the one ahead of it -/
def okAt (l : List St) (k : Nat) : Bool :=
  match l[k]? with
  | none => true
  | some s => okSt s && (decide (k = 0) || (match l[k-1]? with | none => true | some r => decide (r.id < s.id)))
def okUp (l : List St) (k : Nat) : Bool := (List.range k).all (okAt l)
theorem okUp_zero (l : List St) : okUp l 0 = true := by simp [okUp]
theorem okUp_succ (l : List St) (k : Nat) : okUp l (k + 1) = (okUp l k && okAt l k) := by simp [okUp, List.range_succ, List.all_append]
theorem okUp_not {l : List St} {k n : Nat} (h : okAt l k = false) (hk : k < n) : okUp l n = false := by
  unfold okUp
  rw [Bool.eq_false_iff]
  intro hall
  have := List.all_eq_true.1 hall k (List.mem_range.2 hk)
  rw [h] at this; exact absurd this (by simp)
/-- a list of at most twelve valid stamps with rising ids -/
def okSts (l : List St) : Bool := decide (l.length ≤ 12) && okUp l l.length
theorem okAt_of {l : List St} {k : Nat} {s : St} (hs : l[k]? = some s) (h : okAt l k = true) : okSt s = true ∧ ∀ r, 0 < k → l[k-1]? = some r → r.id < s.id := by
  unfold okAt at h
  rw [hs] at h
  simp only [Bool.and_eq_true, Bool.or_eq_true, decide_eq_true_eq] at h
  refine ⟨h.1, fun r hk hr => ?_⟩
  rcases h.2 with h0 | h0
  · omega
  · rw [hr] at h0; simpa using h0
theorem okSts_len {l : List St} (h : okSts l = true) : l.length ≤ 12 := by unfold okSts at h; simp only [Bool.and_eq_true, decide_eq_true_eq] at h; exact h.1
theorem okSts_at {l : List St} (h : okSts l = true) {k : Nat} {s : St} (hs : l[k]? = some s) : okSt s = true ∧ ∀ r, 0 < k → l[k-1]? = some r → r.id < s.id := by
  unfold okSts at h
  simp only [Bool.and_eq_true, decide_eq_true_eq] at h
  exact okAt_of hs (List.all_eq_true.1 h.2 k (List.mem_range.2 (List.getElem?_eq_some_iff.1 hs).1))
theorem okSts_mem {l : List St} (h : okSts l = true) {s : St} (hs : s ∈ l) : okSt s = true := by
  obtain ⟨k, hk⟩ := List.getElem?_of_mem hs
  exact (okSts_at h hk).1

/-- the cells of a list of stamps, one after the other -/
def flat (l : List St) : List Value := l.flatMap St.cells
theorem flat_nil : flat [] = [] := rfl
theorem flat_cons (s : St) (l : List St) : flat (s :: l) = s.cells ++ flat l := by simp [flat]
theorem flat_len (l : List St) : (flat l).length = l.length * 4 := by
  induction l with
  | nil => rfl
  | cons s l ih => rw [flat_cons, List.length_append, ih]; simp [St.cells]; omega
theorem flat_at : ∀ (l : List St) (k : Nat) (s : St), l[k]? = some s → ∀ j, j < 4 → (flat l)[k * 4 + j]? = s.cells[j]?
  | [], k, s, h, _, _ => by simp at h
  | r :: l, 0, s, h, j, hj => by
    obtain rfl : r = s := by simpa using h
    rw [flat_cons, List.getElem?_append_left (by simp [St.cells]; omega)]; simp
  | r :: l, k + 1, s, h, j, hj => by
    rw [flat_cons, List.getElem?_append_right (by simp [St.cells]; omega), show (k + 1) * 4 + j - r.cells.length = k * 4 + j by simp [St.cells]; omega]
    exact flat_at l k s (by simpa using h) j hj
end Go.Proofs.YtekacbjnpeglhaaDoor.PlainStamp

/- Words for reckoning with plain functions; within and l1In. No condition. -/
namespace Go.Proofs.YtekacbjnpeglhaaDoor.QBase
set_option linter.unusedVariables false
set_option linter.unusedSimpArgs false
open Go.RowKit
open Go.Proofs.YtekacbjnpeglhaaDoor.GoP Go.Proofs.YtekacbjnpeglhaaDoor.PlainStamp

theorem iteK_if {ρ : Type} (c : Bool) (a b : Option ρ) : iteK c a b = if c = true then a else b := by cases c <;> rfl
theorem bind2_some {α β ρ : Type} (a : α) (b : β) (f : α → β → Option ρ) : bind2 (some (a, b)) f = f a b := rfl
theorem bind3_some {α β γ ρ : Type} (a : α) (b : β) (c : γ) (f : α → β → γ → Option ρ) : bind3 (some (a, b, c)) f = f a b c := rfl
theorem unp2_mk {α β ρ : Type} (a : α) (b : β) (f : α → β → Option ρ) : unp2 (a, b) f = f a b := rfl
theorem unp3_mk {α β γ ρ : Type} (a : α) (b : β) (c : γ) (f : α → β → γ → Option ρ) : unp3 (a, b, c) f = f a b c := rfl
theorem guardK_pos {ρ : Type} {p : Prop} [Decidable p] {a : Option ρ} (h : p) : guardK p a = a := if_pos h
theorem cut2 {α β : Type} {x : Option (α × β)} {p : α × β} (h : x = some p) : x = some (p.1, p.2) := h
theorem cut3 {α β γ : Type} {x : Option (α × β × γ)} {p : α × β × γ} (h : x = some p) : x = some (p.1, p.2.1, p.2.2) := h
theorem within_eq (n a b : Int) : GiWithin.P n a b = some (inB n a b) := by
  simp only [GiWithin.P, letK, joinK, appK, iteK_if, inB]
  by_cases h1 : a ≤ n <;> by_cases h2 : n ≤ b <;> simp [h1, h2]
theorem l1In_eq (n a b : Int) : GsL1In.P n a b = some (inB n a b) := by
  simp only [GsL1In.P, letK, joinK, appK, iteK_if, inB]
  by_cases h1 : a ≤ n <;> by_cases h2 : n ≤ b <;> simp [h1, h2]
end Go.Proofs.YtekacbjnpeglhaaDoor.QBase

/- Reckoning with the loops of plain functions; lists of valid records with rising ids. No condition. -/
namespace Go.Proofs.YtekacbjnpeglhaaDoor.QLoop
set_option linter.unusedVariables false
open Go.RowKit
open Go.Proofs.YtekacbjnpeglhaaDoor.GoP Go.Proofs.YtekacbjnpeglhaaDoor.QBase

theorem cnt_ex {σ ρ : Type} {f : Nat → σ → (σ → Option ρ) → (σ → Option ρ) → Option ρ} {fin : σ → Option ρ} {Q : ρ → Prop} {n : Nat} (I : Nat → σ → Prop)
    (step : ∀ k s nx, k < n → I k s → (∀ s', I (k + 1) s' → ∃ r, nx s' = some r ∧ Q r) → ∃ r, f k s nx fin = some r ∧ Q r) (done : ∀ s, I n s → ∃ r, fin s = some r ∧ Q r) :
    ∀ m k s, k + m = n → I k s → ∃ r, cntK f m k s fin = some r ∧ Q r := by
  intro m
  induction m with
  | zero => intro k s hk hI; obtain rfl : k = n := by omega
            exact done s hI
  | succ m ih => intro k s hk hI; exact step k s _ (by omega) hI (fun s' h' => ih (k + 1) s' (by omega) h')
theorem cnt_is {σ ρ : Type} {f : Nat → σ → (σ → Option ρ) → (σ → Option ρ) → Option ρ} {fin : σ → Option ρ} {n : Nat} (r : ρ) (I : Nat → σ → Prop)
    (step : ∀ k s nx, k < n → I k s → (∀ s', I (k + 1) s' → nx s' = some r) → f k s nx fin = some r) (done : ∀ s, I n s → fin s = some r) (s : σ) (h0 : I 0 s) : cntK f n 0 s fin = some r := by
  obtain ⟨r', h, rfl⟩ := cnt_ex (Q := fun x => x = r) I (fun k s nx hk hI hn => ⟨r, step k s nx hk hI (fun s' h' => by obtain ⟨_, h, rfl⟩ := hn s' h'; exact h), rfl⟩) (fun s h => ⟨r, done s h, rfl⟩) n 0 s (by omega) h0
  exact h
theorem at_lt {α : Type} {l : List α} {k : Nat} (h : k < l.length) : ∃ x, l[k]? = some x ∧ idx l (k : Int) = some x := ⟨l[k], List.getElem?_eq_getElem h, by rw [idx_nat, List.getElem?_eq_getElem h]⟩
theorem idx_pred {α : Type} {l : List α} {k : Nat} {x : α} (hk : 0 < k) (hb : k ≤ 9223372036854775807) (h : l[k - 1]? = some x) : idx l (IntKind.i64.wrap ((k : Int) - 1)) = some x := by
  rw [IntWalk.i64_in _ (by omega), show ((k : Int) - 1) = ((k - 1 : Nat) : Int) by omega, idx_nat, h]
theorem take_next {α : Type} {l : List α} {k : Nat} {x : α} (h : l[k]? = some x) : l.take (k + 1) = l.take k ++ [x] := by
  obtain ⟨hk, e⟩ := List.getElem?_eq_some_iff.1 h
  rw [List.take_succ_eq_append_getElem hk, e]
theorem all_next {α : Type} {p : α → Bool} {l : List α} {k : Nat} {x : α} (h : l[k]? = some x) : (l.take (k + 1)).all p = ((l.take k).all p && p x) := by
  rw [take_next h]; simp
theorem not_all {α : Type} {p : α → Bool} {l : List α} {k : Nat} {x : α} (h : l[k]? = some x) (hp : p x = false) : l.all p = false := by
  rw [Bool.eq_false_iff]
  intro ha
  have := List.all_eq_true.1 ha x (List.mem_of_getElem? h)
  rw [hp] at this; exact absurd this (by simp)
theorem wrap_in {x : Int} (h1 : -9223372036854775808 ≤ x) (h2 : x ≤ 9223372036854775807) : IntKind.i64.wrap x = x := IntWalk.i64_in _ (by omega)

/-- valid, and above the one ahead of it -/
def upAt {α : Type} (ok : α → Bool) (id : α → Int) (l : List α) (k : Nat) : Bool :=
  match l[k]? with
  | none => true
  | some s => ok s && (decide (k = 0) || (match l[k-1]? with | none => true | some r => decide (id r < id s)))
def upTo {α : Type} (ok : α → Bool) (id : α → Int) (l : List α) (k : Nat) : Bool := (List.range k).all (upAt ok id l)
theorem upTo_zero {α : Type} (ok : α → Bool) (id : α → Int) (l : List α) : upTo ok id l 0 = true := rfl
theorem upTo_succ {α : Type} (ok : α → Bool) (id : α → Int) (l : List α) (k : Nat) : upTo ok id l (k + 1) = (upTo ok id l k && upAt ok id l k) := by simp [upTo, List.range_succ, List.all_append]
theorem upTo_not {α : Type} {ok : α → Bool} {id : α → Int} {l : List α} {k n : Nat} (h : upAt ok id l k = false) (hk : k < n) : upTo ok id l n = false := by
  unfold upTo
  rw [Bool.eq_false_iff]
  intro ha
  have := List.all_eq_true.1 ha k (List.mem_range.2 hk)
  rw [h] at this; exact absurd this (by simp)
/-- a list of at most m valid records with rising ids -/
def upL {α : Type} (m : Nat) (ok : α → Bool) (id : α → Int) (l : List α) : Bool := decide (l.length ≤ m) && upTo ok id l l.length
theorem upAt_bad {α : Type} {ok : α → Bool} {id : α → Int} {l : List α} {k : Nat} {s : α} (hs : l[k]? = some s) (h : ok s = false) : upAt ok id l k = false := by unfold upAt; rw [hs]; simp [h]
theorem upAt_first {α : Type} {ok : α → Bool} {id : α → Int} {l : List α} {s : α} (hs : l[0]? = some s) (h : ok s = true) : upAt ok id l 0 = true := by unfold upAt; rw [hs]; simp [h]
theorem upAt_next {α : Type} {ok : α → Bool} {id : α → Int} {l : List α} {k : Nat} {s r : α} (hs : l[k]? = some s) (hr : l[k-1]? = some r) (hk : 0 < k) (h : ok s = true) : upAt ok id l k = decide (id r < id s) := by
  unfold upAt; rw [hs]; simp only [hr, h, Bool.true_and, decide_eq_false (show ¬ k = 0 by omega), Bool.false_or]
theorem upL_len {α : Type} {m : Nat} {ok : α → Bool} {id : α → Int} {l : List α} (h : upL m ok id l = true) : l.length ≤ m := by unfold upL at h; simp only [Bool.and_eq_true, decide_eq_true_eq] at h; exact h.1
theorem upL_ok {α : Type} {m : Nat} {ok : α → Bool} {id : α → Int} {l : List α} (h : upL m ok id l = true) {k : Nat} {s : α} (hs : l[k]? = some s) : ok s = true := by
  unfold upL at h
  simp only [Bool.and_eq_true, decide_eq_true_eq] at h
  have := List.all_eq_true.1 h.2 k (List.mem_range.2 (List.getElem?_eq_some_iff.1 hs).1)
  unfold upAt at this
  rw [hs] at this
  simp only [Bool.and_eq_true] at this
  exact this.1
theorem upL_mem {α : Type} {m : Nat} {ok : α → Bool} {id : α → Int} {l : List α} (h : upL m ok id l = true) {s : α} (hs : s ∈ l) : ok s = true := by
  obtain ⟨k, hk⟩ := List.getElem?_of_mem hs
  exact upL_ok h hk
/-- a loop that goes through a list of records and stops with 'false' at the first that is bad -/
theorem up_loop {α : Type} {ok : α → Bool} {id : α → Int} {l : List α} {R : Type} {no : R} {f : Nat → Unit → (Unit → Option R) → (Unit → Option R) → Option R} {fin : Unit → Option R}
    (step : ∀ k nx s, l[k]? = some s → (ok s = false → f k () nx fin = some no) ∧ (ok s = true → (k = 0 → f k () nx fin = nx ()) ∧ (0 < k → ∀ r, l[k-1]? = some r → (id r < id s → f k () nx fin = nx ()) ∧ (id s ≤ id r → f k () nx fin = some no)))) :
    cntK f l.length 0 () fin = if upTo ok id l l.length then fin () else some no := by
  have key : ∀ m k, k + m = l.length → upTo ok id l k = true → cntK f m k () fin = if upTo ok id l l.length then fin () else some no := by
    intro m
    induction m with
    | zero => intro k hk hu; obtain rfl : k = l.length := by omega
              rw [hu]; rfl
    | succ m ih =>
      intro k hk hu
      have hlt : k < l.length := by omega
      obtain ⟨s, hs, _⟩ := at_lt hlt
      obtain ⟨h1, h2⟩ := step k (fun s' => cntK f m (k + 1) s' fin) s hs
      show f k () _ fin = _
      cases hok : ok s with
      | false => rw [h1 hok, upTo_not (upAt_bad hs hok) hlt]; rfl
      | true =>
        obtain ⟨h3, h4⟩ := h2 hok
        by_cases hk0 : k = 0
        · rw [h3 hk0]
          subst hk0
          exact ih 1 (by omega) (by rw [upTo_succ, hu, upAt_first hs hok]; rfl)
        · obtain ⟨r, hr, _⟩ := at_lt (l := l) (k := k - 1) (by omega)
          obtain ⟨h5, h6⟩ := h4 (by omega) r hr
          by_cases hlt2 : id r < id s
          · rw [h5 hlt2]
            exact ih (k + 1) (by omega) (by rw [upTo_succ, hu, upAt_next hs hr (by omega) hok]; simpa using hlt2)
          · rw [h6 (by omega), upTo_not (by rw [upAt_next hs hr (by omega) hok]; simpa using hlt2) hlt]; rfl
  exact key l.length 0 (by omega) (upTo_zero ok id l)
end Go.Proofs.YtekacbjnpeglhaaDoor.QLoop

/- Loops that test each place, and loops without a count. No condition. -/
namespace Go.Proofs.YtekacbjnpeglhaaDoor.QAll
set_option linter.unusedVariables false
set_option linter.unusedSimpArgs false
open Go.RowKit
open Go.Proofs.YtekacbjnpeglhaaDoor.GoP Go.Proofs.YtekacbjnpeglhaaDoor.QBase Go.Proofs.YtekacbjnpeglhaaDoor.QLoop

/-- each number below n is good -/
def allN (n : Nat) (p : Nat → Bool) : Bool := (List.range n).all p
theorem allN_iff {n : Nat} {p : Nat → Bool} : allN n p = true ↔ ∀ i, i < n → p i = true := by unfold allN; simp
theorem allN_no {n k : Nat} {p : Nat → Bool} (hk : k < n) (h : p k = false) : allN n p = false := by
  rw [Bool.eq_false_iff]; intro ha; rw [allN_iff.1 ha k hk] at h; exact absurd h (by simp)
theorem allN_eq {n m : Nat} {p q : Nat → Bool} (h : (∀ i, i < n → p i = true) ↔ (∀ i, i < m → q i = true)) : allN n p = allN m q := by
  rw [Bool.eq_iff_iff, allN_iff, allN_iff]; exact h
theorem all_cnt {ρ : Type} {n : Nat} {p : Nat → Bool} {no : ρ} {f : Nat → Unit → (Unit → Option ρ) → (Unit → Option ρ) → Option ρ} {fin : Unit → Option ρ}
    (step : ∀ k nx, k < n → (p k = false → f k () nx fin = some no) ∧ (p k = true → f k () nx fin = nx ())) : cntK f n 0 () fin = if allN n p = true then fin () else some no := by
  have key : ∀ m k, k + m = n → (∀ i, i < k → p i = true) → cntK f m k () fin = if allN n p = true then fin () else some no := by
    intro m
    induction m with
    | zero => intro k hk hu; obtain rfl : k = n := by omega
              rw [allN_iff.2 hu]; rfl
    | succ m ih =>
      intro k hk hu
      obtain ⟨h1, h2⟩ := step k (fun s' => cntK f m (k + 1) s' fin) (by omega)
      show f k () _ fin = _
      cases hp : p k with
      | false => rw [h1 hp, allN_no (by omega) hp]; rfl
      | true =>
        rw [h2 hp]
        refine ih (k + 1) (by omega) (fun i hi => ?_)
        by_cases he : i = k
        · rw [he]; exact hp
        · exact hu i (by omega)
  exact key n 0 (by omega) (fun i hi => by omega)
theorem lp_ex {σ ρ : Type} {f : σ → (σ → Option ρ) → (σ → Option ρ) → Option ρ} {fin : σ → Option ρ} {Q : ρ → Prop} {n : Nat} (I : Nat → σ → Prop)
    (step : ∀ k s nx, k < n → I k s → (∀ s', I (k + 1) s' → ∃ r, nx s' = some r ∧ Q r) → ∃ r, f s nx fin = some r ∧ Q r) (done : ∀ s nx, I n s → ∃ r, f s nx fin = some r ∧ Q r) :
    ∀ fuel k s, k ≤ n → n - k < fuel → I k s → ∃ r, loopK f fuel s fin = some r ∧ Q r := by
  intro fuel
  induction fuel with
  | zero => intro k s hk hf; omega
  | succ m ih =>
    intro k s hk hf hI
    show ∃ r, f s _ fin = some r ∧ Q r
    by_cases he : k = n
    · subst he; exact done s _ hI
    · exact step k s _ (by omega) hI (fun s' h' => ih (k + 1) s' (by omega) (by omega) h')
theorem all_lp {ρ : Type} {n : Nat} {p : Nat → Bool} {no : ρ} {f : Int → (Int → Option ρ) → (Int → Option ρ) → Option ρ} {fin : Int → Option ρ}
    (step : ∀ (k : Nat) nx, k < n → (p k = false → f (k : Int) nx fin = some no) ∧ (p k = true → f (k : Int) nx fin = nx ((k + 1 : Nat) : Int))) (stop : ∀ nx, f (n : Int) nx fin = fin (n : Int))
    (fuel : Nat) (hf : n < fuel) : loopK f fuel 0 fin = if allN n p = true then fin (n : Int) else some no := by
  have key : ∀ fuel k, k ≤ n → n - k < fuel → (∀ i, i < k → p i = true) → loopK f fuel (k : Int) fin = if allN n p = true then fin (n : Int) else some no := by
    intro fuel
    induction fuel with
    | zero => intro k hk hf; omega
    | succ m ih =>
      intro k hk hf hu
      show f (k : Int) _ fin = _
      by_cases he : k = n
      · subst he; rw [stop, allN_iff.2 hu]; rfl
      · obtain ⟨h1, h2⟩ := step k (fun s' => loopK f m s' fin) (by omega)
        cases hp : p k with
        | false => rw [h1 hp, allN_no (by omega) hp]; rfl
        | true =>
          rw [h2 hp]
          refine ih (k + 1) (by omega) (by omega) (fun i hi => ?_)
          by_cases he : i = k
          · rw [he]; exact hp
          · exact hu i (by omega)
  exact key fuel 0 (by omega) (by omega) (fun i hi => by omega)
theorem next_i {k : Nat} (h : k ≤ 9223372036854775806) : IntKind.i64.wrap ((k : Int) + 1) = ((k + 1 : Nat) : Int) := by rw [wrap_in (by omega) (by omega)]; omega
end Go.Proofs.YtekacbjnpeglhaaDoor.QAll

/- Chapter 6: tables of kinds: the plain functions of the program and of the reference agree, and the laws answer true. (Q6Hist) No condition but those of each theorem. -/
namespace Go.Proofs.YtekacbjnpeglhaaDoor.Q6Hist
set_option linter.unusedVariables false
set_option linter.unusedSimpArgs false
open Go.RowKit
open Go.Proofs.YtekacbjnpeglhaaDoor.GoP Go.Proofs.YtekacbjnpeglhaaDoor.PlainStamp Go.Proofs.YtekacbjnpeglhaaDoor.QBase Go.Proofs.YtekacbjnpeglhaaDoor.QLoop Go.Proofs.YtekacbjnpeglhaaDoor.QAll

/-- loops that test each place; what stood the test before is known -/
theorem all_cntH {ρ : Type} {n : Nat} {p : Nat → Bool} {no : ρ} {f : Nat → Unit → (Unit → Option ρ) → (Unit → Option ρ) → Option ρ} {fin : Unit → Option ρ}
    (step : ∀ k nx, k < n → (∀ i, i < k → p i = true) → (p k = false → f k () nx fin = some no) ∧ (p k = true → f k () nx fin = nx ())) : cntK f n 0 () fin = if allN n p = true then fin () else some no := by
  have key : ∀ m k, k + m = n → (∀ i, i < k → p i = true) → cntK f m k () fin = if allN n p = true then fin () else some no := by
    intro m
    induction m with
    | zero => intro k hk hu; obtain rfl : k = n := by omega
              rw [allN_iff.2 hu]; rfl
    | succ m ih =>
      intro k hk hu
      obtain ⟨h1, h2⟩ := step k (fun s' => cntK f m (k + 1) s' fin) (by omega) hu
      show f k () _ fin = _
      cases hp : p k with
      | false => rw [h1 hp, allN_no (by omega) hp]; rfl
      | true =>
        rw [h2 hp]
        refine ih (k + 1) (by omega) (fun i hi => ?_)
        by_cases he : i = k
        · rw [he]; exact hp
        · exact hu i (by omega)
  exact key n 0 (by omega) (fun i hi => by omega)
theorem all_lpH {ρ : Type} {n : Nat} {p : Nat → Bool} {no : ρ} {f : Int → (Int → Option ρ) → (Int → Option ρ) → Option ρ} {fin : Int → Option ρ}
    (step : ∀ (k : Nat) nx, k < n → (∀ i, i < k → p i = true) → (p k = false → f (k : Int) nx fin = some no) ∧ (p k = true → f (k : Int) nx fin = nx ((k + 1 : Nat) : Int))) (stop : ∀ nx, f (n : Int) nx fin = fin (n : Int))
    (fuel : Nat) (hf : n < fuel) : loopK f fuel 0 fin = if allN n p = true then fin (n : Int) else some no := by
  have key : ∀ fuel k, k ≤ n → n - k < fuel → (∀ i, i < k → p i = true) → loopK f fuel (k : Int) fin = if allN n p = true then fin (n : Int) else some no := by
    intro fuel
    induction fuel with
    | zero => intro k hk hf; omega
    | succ m ih =>
      intro k hk hf hu
      show f (k : Int) _ fin = _
      by_cases he : k = n
      · subst he; rw [stop, allN_iff.2 hu]; rfl
      · obtain ⟨h1, h2⟩ := step k (fun s' => loopK f m s' fin) (by omega) hu
        cases hp : p k with
        | false => rw [h1 hp, allN_no (by omega) hp]; rfl
        | true =>
          rw [h2 hp]
          refine ih (k + 1) (by omega) (by omega) (fun i hi => ?_)
          by_cases he : i = k
          · rw [he]; exact hp
          · exact hu i (by omega)
  exact key fuel 0 (by omega) (by omega) (fun i hi => by omega)
end Go.Proofs.YtekacbjnpeglhaaDoor.Q6Hist

/- Chapter 6: tables of kinds: the plain functions of the program and of the reference agree, and the laws answer true. (Q6Ban) No condition but those of each theorem. -/
namespace Go.Proofs.YtekacbjnpeglhaaDoor.Q6Ban
set_option linter.unusedVariables false
set_option linter.unusedSimpArgs false
open Go.RowKit
open Go.Proofs.YtekacbjnpeglhaaDoor.GoP Go.Proofs.YtekacbjnpeglhaaDoor.PlainStamp Go.Proofs.YtekacbjnpeglhaaDoor.QBase Go.Proofs.YtekacbjnpeglhaaDoor.Q6Hist Go.Proofs.YtekacbjnpeglhaaDoor.QLoop Go.Proofs.YtekacbjnpeglhaaDoor.QAll Go.Proofs.YtekacbjnpeglhaaDoor.PBan

def okS (s : List Int) : Bool := allN s.length fun i => match s[i]? with | some z => inB z 1 5 | none => true
theorem okS_at {s : List Int} (h : okS s = true) {i : Nat} {z : Int} (hz : s[i]? = some z) : 1 ≤ z ∧ z ≤ 5 := by
  have := allN_iff.1 h i (List.getElem?_eq_some_iff.1 hz).1
  simp only [hz] at this
  exact inB_of this
def hasV (s : List Int) (a v : Int) : Bool := inB a 0 (s.length - 1) && (match s[a.toNat]? with | some z => inB v 0 (z - 1) | none => false)
theorem hasV_of {s : List Int} {a v : Int} (h : hasV s a v = true) : ∃ (k : Nat) (z : Int), a = (k : Int) ∧ k < s.length ∧ s[k]? = some z ∧ 0 ≤ v ∧ v < z := by
  unfold hasV at h
  simp only [Bool.and_eq_true] at h
  have h1 := inB_of h.1
  obtain ⟨k, rfl⟩ : ∃ k : Nat, a = (k : Int) := ⟨a.toNat, by omega⟩
  obtain ⟨z, hz, _⟩ := at_lt (l := s) (k := k) (by omega)
  have h2 := h.2
  rw [Int.toNat_natCast, hz] at h2
  have := inB_of h2
  exact ⟨k, z, rfl, by omega, hz, by omega, by omega⟩
theorem hasValue_eq (s : List Int) (hs : okS s = true) (hl : s.length ≤ 9223372036854775807) (a v : Int) : GiHasValue.P s a v = some (hasV s a v) := by
  simp only [GiHasValue.P, within_eq, Option.bind_some, letK, joinK, appK, iteK_if]
  rw [wrap_in (by omega) (by omega)]
  unfold hasV
  cases h : inB a 0 (s.length - 1) with
  | false => simp
  | true =>
    have h1 := inB_of h
    obtain ⟨k, rfl⟩ : ∃ k : Nat, a = (k : Int) := ⟨a.toNat, by omega⟩
    obtain ⟨z, hz, hi⟩ := at_lt (l := s) (k := k) (by omega)
    have hz2 := okS_at hs hz
    simp only [hi, Option.bind_some, Int.toNat_natCast, hz, if_true, Bool.true_and]
    rw [wrap_in (by omega) (by omega)]
def okB (s : List Int) (b : Ban) : Bool := decide (b.a < b.b) && hasV s b.a b.x && hasV s b.b b.y
theorem isBan_eq (s : List Int) (hs : okS s = true) (hl : s.length ≤ 9223372036854775807) (b : Ban) : GiIsBan.P s b = some (okB s b) := by
  obtain ⟨a, x, c, y⟩ := b
  simp only [GiIsBan.P, unBan, hasValue_eq s hs hl, Option.bind_some, letK, joinK, appK, iteK_if, okB]
  by_cases h : a < c <;> cases hasV s a x <;> cases hasV s c y <;> simp [h]
theorem l6Ban_eq (s : List Int) (hs : okS s = true) (hl : s.length ≤ 9223372036854775807) (b : Ban) : GsL6Ban.P s b = some (okB s b) := by
  obtain ⟨a, x, c, y⟩ := b
  simp only [GsL6Ban.P, unBan, l1In_eq, Option.bind_some, letK, joinK, appK, iteK_if, okB, hasV]
  by_cases h1 : 0 ≤ a
  · by_cases h2 : a < c
    · by_cases h3 : c < (s.length : Int)
      · obtain ⟨i, rfl⟩ : ∃ k : Nat, a = (k : Int) := ⟨a.toNat, by omega⟩
        obtain ⟨j, rfl⟩ : ∃ k : Nat, c = (k : Int) := ⟨c.toNat, by omega⟩
        obtain ⟨z, hz, hi⟩ := at_lt (l := s) (k := i) (by omega)
        obtain ⟨u, hu, hj⟩ := at_lt (l := s) (k := j) (by omega)
        have hz2 := okS_at hs hz
        have hu2 := okS_at hs hu
        have e1 : inB (i : Int) 0 (s.length - 1) = true := by unfold inB; simp; omega
        have e2 : inB (j : Int) 0 (s.length - 1) = true := by unfold inB; simp; omega
        simp only [h1, h2, h3, decide_true, if_true, hi, hj, Option.bind_some, Int.toNat_natCast, hz, hu, e1, e2, Bool.true_and]
        rw [wrap_in (x := z - 1) (by omega) (by omega), wrap_in (x := u - 1) (by omega) (by omega)]
        cases inB x 0 (z - 1) <;> simp
      · have e2 : inB c 0 (s.length - 1) = false := by unfold inB; simp; omega
        simp [h1, h2, h3, e2]
    · simp [h1, h2]
  · have e1 : inB a 0 (s.length - 1) = false := by unfold inB; simp; omega
    simp [h1, e1]
def code (b : Ban) : Int := 1000 * b.a + 100 * b.x + 10 * b.b + b.y
theorem okB_in {s : List Int} (hs : okS s = true) (hl : s.length ≤ 5) {b : Ban} (h : okB s b = true) : 0 ≤ b.a ∧ b.a < b.b ∧ b.b ≤ 4 ∧ b.b < s.length ∧ 0 ≤ b.x ∧ b.x ≤ 4 ∧ 0 ≤ b.y ∧ b.y ≤ 4 := by
  unfold okB at h
  simp only [Bool.and_eq_true, decide_eq_true_eq] at h
  obtain ⟨k, z, e1, k1, hz, v1, v2⟩ := hasV_of h.1.2
  obtain ⟨j, u, e2, k2, hu, v3, v4⟩ := hasV_of h.2
  have := okS_at hs hz
  have := okS_at hs hu
  omega
theorem l6Code_eq {s : List Int} (hs : okS s = true) (hl : s.length ≤ 5) {b : Ban} (h : okB s b = true) : GsL6Code.P b = some (code b) := by
  have := okB_in hs hl h
  obtain ⟨a, x, c, y⟩ := b
  dsimp only at this
  simp only [GsL6Code.P, unBan, letK, code]
  rw [wrap_in (x := 1000 * a) (by omega) (by omega), wrap_in (x := 100 * x) (by omega) (by omega), wrap_in (x := 1000 * a + 100 * x) (by omega) (by omega), wrap_in (x := 10 * c) (by omega) (by omega), wrap_in (x := 1000 * a + 100 * x + 10 * c) (by omega) (by omega), wrap_in (by omega) (by omega)]
def cmpI (x y : Int) : Int := if x < y then -1 else if y < x then 1 else 0
theorem cmp_eq (x y : Int) : GxCmpCompareInt.P x y = some (cmpI x y) := by
  simp only [GxCmpCompareInt.P, GxCmpIsNaNInt.P, Option.bind_some, letK, iteK_if, cmpI]
  by_cases h1 : x < y
  · simp [h1]
  · by_cases h2 : y < x <;> simp [h1, h2]
theorem or_eq (a b c d : Int) : GxCmpOrInt.P [a, b, c, d] = some (if a != 0 then a else if b != 0 then b else if c != 0 then c else d) := by
  have st : ∀ m k fin, cntK (GxCmpOrInt.l0 [a, b, c, d]) (m + 1) k () fin = GxCmpOrInt.l0 [a, b, c, d] k () (fun s' => cntK (GxCmpOrInt.l0 [a, b, c, d]) m (k + 1) s' fin) fin := fun _ _ _ => rfl
  show cntK (GxCmpOrInt.l0 [a, b, c, d]) (3 + 1) 0 () (GxCmpOrInt.e0) = _
  rw [st]
  simp only [GxCmpOrInt.l0, show idx [a, b, c, d] ((0 : Nat) : Int) = some a from rfl, Option.bind_some, letK, appK, iteK_if]
  by_cases ha : (a != 0) = true
  · rw [if_pos ha, if_pos ha]
  · rw [if_neg ha, if_neg ha]
    show cntK (GxCmpOrInt.l0 [a, b, c, d]) (2 + 1) 1 () (GxCmpOrInt.e0) = _
    rw [st]
    simp only [GxCmpOrInt.l0, show idx [a, b, c, d] ((1 : Nat) : Int) = some b from rfl, Option.bind_some, letK, appK, iteK_if]
    by_cases hb : (b != 0) = true
    · rw [if_pos hb, if_pos hb]
    · rw [if_neg hb, if_neg hb]
      show cntK (GxCmpOrInt.l0 [a, b, c, d]) (1 + 1) 2 () (GxCmpOrInt.e0) = _
      rw [st]
      simp only [GxCmpOrInt.l0, show idx [a, b, c, d] ((2 : Nat) : Int) = some c from rfl, Option.bind_some, letK, appK, iteK_if]
      by_cases hc : (c != 0) = true
      · rw [if_pos hc, if_pos hc]
      · rw [if_neg hc, if_neg hc]
        show cntK (GxCmpOrInt.l0 [a, b, c, d]) (0 + 1) 3 () (GxCmpOrInt.e0) = _
        rw [st]
        simp only [GxCmpOrInt.l0, show idx [a, b, c, d] ((3 : Nat) : Int) = some d from rfl, Option.bind_some, letK, appK, iteK_if]
        by_cases hd : (d != 0) = true
        · rw [if_pos hd]
        · rw [if_neg hd]
          have : d = 0 := by simpa using hd
          rw [this]; rfl
theorem compare_eq {s : List Int} (hs : okS s = true) (hl : s.length ≤ 5) {r b : Ban} (hr : okB s r = true) (hb : okB s b = true) : ∃ c, GiCompareBans.P r b = some c ∧ (0 ≤ c ↔ code b ≤ code r) ∧ (c < 0 ↔ code r < code b) ∧ (c = 0 ↔ code r = code b) := by
  have h1 := okB_in hs hl hr
  have h2 := okB_in hs hl hb
  obtain ⟨a, x, c, y⟩ := r
  obtain ⟨a', x', c', y'⟩ := b
  dsimp only at h1 h2
  simp only [GiCompareBans.P, unBan, cmp_eq, Option.bind_some, letK, or_eq]
  refine ⟨_, rfl, ?_⟩
  unfold cmpI code
  dsimp only
  by_cases p1 : a < a'
  · simp [p1]; omega
  · by_cases p2 : a' < a
    · simp [p1, p2]; omega
    · obtain rfl : a = a' := by omega
      by_cases p3 : x < x'
      · simp [p3]; omega
      · by_cases p4 : x' < x
        · simp [p3, p4]; omega
        · obtain rfl : x = x' := by omega
          by_cases p5 : c < c'
          · simp [p5]; omega
          · by_cases p6 : c' < c
            · simp [p5, p6]; omega
            · obtain rfl : c = c' := by omega
              by_cases p7 : y < y'
              · simp [p7]; omega
              · by_cases p8 : y' < y
                · simp [p7, p8]; omega
                · simp [p7, p8]; omega
end Go.Proofs.YtekacbjnpeglhaaDoor.Q6Ban

