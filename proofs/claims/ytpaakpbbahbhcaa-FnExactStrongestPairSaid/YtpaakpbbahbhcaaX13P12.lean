/- Texts on which the proofs of several laws stand, one behind the other (12 of 20). No condition of their own. -/
import Derived.Test.YtpaakpbbahbhcaaChecked
import Derived.Test.YtpaakpbbahbhcaaX13P1
import Derived.Test.YtpaakpbbahbhcaaX13P2
import Derived.Test.YtpaakpbbahbhcaaX13P5
import Derived.WalkKit
import Derived.WalkSpells
import Derived.WalkLawsBesides
import Derived.BigQuiet
import Derived.OwnWalk
import Derived.Deep.LoopGhost
import Derived.Deep.QuietTactic
import Derived.IntWalk
import Derived.Lib.QuietBelow
import Derived.Test.YtpaakpbbahbhcaaX13P3
import Derived.Test.YtpaakpbbahbhcaaX13P4
/- loop.example/g01062/spec.StrongestPair as a plain function, and the contract of the program's: where the plain one has an answer, the program has it. Conditions: slices read as lists. -/
namespace Go.Proofs.Ytpaakpbbahbhcaa.GsStrongestPair
set_option linter.unusedVariables false
set_option linter.unusedSimpArgs false
open Go.RowKit
open Go.Proofs.Ytpaakpbbahbhcaa.Rowed Go.Proofs.Ytpaakpbbahbhcaa.Turn Go.Proofs.Ytpaakpbbahbhcaa.Aid Go.Proofs.Ytpaakpbbahbhcaa.GoP Go.Proofs.Ytpaakpbbahbhcaa.GoM

def l1 (list : (List Go.Proofs.Ytpaakpbbahbhcaa.PSighting.Sighting)) (fuel : Nat) (k0 : Nat) (s : Int × Int × Int × Int) (nx1 bk1 : Int × Int × Int × Int → Option (Int × Int × Int × Bool)) : Option (Int × Int × Int × Bool) :=
  unp4 s fun a_6l1 b_7l1 most_8l1 k_10l1 =>
  letK (decide (k_10l1 < (list.length : Int))) fun (t_30 : Bool) =>
  iteK t_30
  (Option.bind (idx list (k0 : Int)) fun (yt_33 : Go.Proofs.Ytpaakpbbahbhcaa.PSighting.Sighting) =>
  unSighting yt_33 fun (t_33_id : Int) (t_33_year : Int) (t_33_town : ByteArray) (t_33_traits : (List Int)) =>
  Option.bind (idx list k_10l1) fun (yt_37 : Go.Proofs.Ytpaakpbbahbhcaa.PSighting.Sighting) =>
  unSighting yt_37 fun (t_37_id : Int) (t_37_year : Int) (t_37_town : ByteArray) (t_37_traits : (List Int)) =>
  Option.bind (Go.Proofs.Ytpaakpbbahbhcaa.GsL13Evidence.P fuel t_33_id t_33_year t_33_town t_33_traits t_37_id t_37_year t_37_town t_37_traits) fun (t_39 : Int) =>
  letK (decide (most_8l1 < t_39)) fun (t_43 : Bool) =>
  iteK t_43
  (Option.bind (idx list (k0 : Int)) fun (yt_46 : Go.Proofs.Ytpaakpbbahbhcaa.PSighting.Sighting) =>
  unSighting yt_46 fun (t_46_id : Int) (t_46_year : Int) (t_46_town : ByteArray) (t_46_traits : (List Int)) =>
  Option.bind (idx list k_10l1) fun (yt_52 : Go.Proofs.Ytpaakpbbahbhcaa.PSighting.Sighting) =>
  unSighting yt_52 fun (t_52_id : Int) (t_52_year : Int) (t_52_town : ByteArray) (t_52_traits : (List Int)) =>
  letK (IntKind.i64.wrap (k_10l1 + 1)) fun (t_59 : Int) =>
  appK nx1 (t_46_id, t_52_id, t_39, t_59))
  (letK (IntKind.i64.wrap (k_10l1 + 1)) fun (t_59 : Int) =>
  appK nx1 (a_6l1, b_7l1, most_8l1, t_59)))
  (appK bk1 (a_6l1, b_7l1, most_8l1, k_10l1))

def e1 (nx0 : (Int × Int × Int) → Option (Int × Int × Int × Bool)) (s : Int × Int × Int × Int) : Option (Int × Int × Int × Bool) :=
  unp4 s fun a_6l1 b_7l1 most_8l1 k_10l1 =>
  appK nx0 (a_6l1, b_7l1, most_8l1)

def l0 (list : (List Go.Proofs.Ytpaakpbbahbhcaa.PSighting.Sighting)) (fuel : Nat) (k0 : Nat) (s : Int × Int × Int) (nx0 bk0 : Int × Int × Int → Option (Int × Int × Int × Bool)) : Option (Int × Int × Int × Bool) :=
  unp3 s fun a_6l0 b_7l0 most_8l0 =>
  letK (IntKind.i64.wrap ((k0 : Int) + 1)) fun (t_25 : Int) =>
  loopK (l1 list fuel k0) fuel (a_6l0, b_7l0, most_8l0, t_25) (e1 nx0)

def e0  (s : Int × Int × Int) : Option (Int × Int × Int × Bool) :=
  unp3 s fun a_6l0 b_7l0 most_8l0 =>
  some (a_6l0, b_7l0, most_8l0, true)

def P (fuel : Nat) (list : (List Go.Proofs.Ytpaakpbbahbhcaa.PSighting.Sighting)) : Option (Int × Int × Int × Bool) :=
  Option.bind (Go.Proofs.Ytpaakpbbahbhcaa.GsL13Good.P list) fun (t_5 : Bool) =>
  letK (!t_5) fun (t_6 : Bool) =>
  joinK (fun (t_11 : Bool) =>
  iteK t_11
  (some (0, 0, 0, false))
  (cntK (l0 list fuel) (list.length) 0 (0, 0, (-99)) (e0 ))) fun jt_11 => iteK t_6 (appK jt_11 true) (letK (decide ((list.length : Int) < 2)) fun (t_10 : Bool) =>
  appK jt_11 t_10)

set_option maxRecDepth 100000 in
set_option maxHeartbeats 2000000 in
theorem C (fuel : Nat) (list : (List Go.Proofs.Ytpaakpbbahbhcaa.PSighting.Sighting)) (A0 : Option Addr) (c0 : Nat)  (w : World) (M0 : Hid (Go.Proofs.Ytpaakpbbahbhcaa.GoV.ReadNest w Go.Proofs.Ytpaakpbbahbhcaa.GoVSighting.lay A0 list)) (N0 : Hid (list.length ≤ 9223372036854775807))  {r0 : Int} {r1 : Int} {r2 : Int} {r3 : Bool} (H : Hid (P fuel list = some (r0, r1, r2, r3))) :
    Calls Try.prog 40 #[.slice A0 list.length c0] w (Gives (.tuple #[.int .i64 r0, .int .i64 r1, .int .i64 r2, .bool r3]) w) := by
  have HB := Lib.hid (Below.refl w.heap.size w)
  unfold P at H
  have N0o := N0.out
  go_enter Try.func40, Try.ntmps40
  replace H := bind_hid H
  obtain ⟨t_5, qt_5, H⟩ := H
  go_wp2_with fail
  go_at_call 56
  refine (Go.Proofs.Ytpaakpbbahbhcaa.GsL13Good.C (list) A0 c0 _   (Lib.hid (Go.Proofs.Ytpaakpbbahbhcaa.GoV.read_below M0.out HB.out)) N0 qt_5).mono ?_
  rintro e_t_5 wt_5 ⟨rfl, bt_5⟩
  have HBwt_5 := Lib.hid (Below.step HB.out bt_5)
  clear bt_5
  cases t_5 with
  | false =>
    replace H := let_hid H
    obtain ⟨t_6, ht_6, H⟩ := H
    obtain rfl : t_6 = true := ht_6.symm
    replace H := join_hid H
    replace H := ite_t H
    replace H := app_hid H
    replace H := ite_t H
    cases ret_hid H
    go_wp2_with fail
    (try simp only [Exit.inBlock, Exit.then]); refine bodyPost_ret (results_tmp4 rfl _ _ _) rfl ?_
    exact ⟨rfl, HBwt_5.out⟩
  | true =>
    replace H := let_hid H
    obtain ⟨t_6, ht_6, H⟩ := H
    obtain rfl : t_6 = false := ht_6.symm
    replace H := join_hid H
    replace H := ite_f H
    replace H := let_hid H
    obtain ⟨t_10, ht_10, H⟩ := H
    replace H := app_hid H
    cases t_10 with
    | false =>
      have nht_10 : ¬ (list.length < 2) := by have := of_decide_eq_false ht_10; omega
      replace H := ite_f H
      go_wp2_with fail
      go_loopg [9, 6, 7, 8] (list.length) (fun m_ v9_ v6_ v7_ v8_ wr => ∃ (k0 : Nat) (a_6l0 : Int) (b_7l0 : Int) (most_8l0 : Int), k0 + m_ = list.length ∧ v9_ = .int .i64 (k0 : Int) ∧ v6_ = .int .i64 a_6l0 ∧ v7_ = .int .i64 b_7l0 ∧ v8_ = .int .i64 most_8l0 ∧ Hid (cntK (l0 list fuel) m_ k0 (a_6l0, b_7l0, most_8l0) (e0 ) = some (r0, r1, r2, r3)) ∧ Hid (Below w.heap.size w wr))
      case atStart => exact ⟨0, _, _, _, by omega, rfl, rfl, rfl, rfl, H, HBwt_5⟩
      case round =>
        obtain ⟨k0, a_6l0, b_7l0, most_8l0, hkm0, rfl, rfl, rfl, rfl, H, HBwr0⟩ := hrel
        rename World => wr0
        cases gk with
        | zero =>
          obtain rfl : k0 = list.length := by omega
          have hc0 : decide (((list.length : Nat) : Int) < ((list.length : Nat) : Int)) = false := by simp
          replace H := cnt_zero H
          unfold e0 at H
          replace H := unp3_hid H
          cases ret_hid H
          go_wp2_with fail
          (try simp only [Exit.inBlock, Exit.then]); refine bodyPost_ret (results_tmp4 rfl _ _ _) rfl ?_
          exact ⟨rfl, HBwr0.out⟩
        | succ m0 =>
          have hlt0 : k0 < list.length := by omega
          have hc0 : decide ((k0 : Int) < ((list.length : Nat) : Int)) = true := by simp; omega
          replace H := cnt_succ H
          unfold l0 at H
          replace H := unp3_hid H
          replace H := let_hid H
          obtain ⟨t_25, ht_25, H⟩ := H
          go_wp2_with fail
          go_loopg [6, 7, 8, 10] (fuel) (fun m_ v6_ v7_ v8_ v10_ wr => ∃ (a_6l1 : Int) (b_7l1 : Int) (most_8l1 : Int) (k_10l1 : Int), v6_ = .int .i64 a_6l1 ∧ v7_ = .int .i64 b_7l1 ∧ v8_ = .int .i64 most_8l1 ∧ v10_ = .int .i64 k_10l1 ∧ Hid (loopK (l1 list fuel k0) m_ (a_6l1, b_7l1, most_8l1, k_10l1) (e1 (fun s' => cntK (l0 list fuel) m0 (k0 + 1) s' (e0 ))) = some (r0, r1, r2, r3)) ∧ Hid (Below w.heap.size w wr))
          case atStart => exact ⟨_, _, _, _, rfl, rfl, rfl, rfl, H, HBwr0⟩
          case round =>
            obtain ⟨a_6l1, b_7l1, most_8l1, k_10l1, rfl, rfl, rfl, rfl, H, HBwr1⟩ := hrel
            rename World => wr1
            cases gk with
            | zero => exact (loop_zero H).elim
            | succ m1 =>
              replace H := loop_succ H
              unfold l1 at H
              replace H := unp4_hid H
              replace H := let_hid H
              obtain ⟨t_30, ht_30, H⟩ := H
              cases t_30 with
              | false =>
                replace H := ite_f H
                replace H := app_hid H
                unfold e1 at H
                replace H := unp4_hid H
                replace H := app_hid H
                go_wp2_with fail
                have hnx0_ : t_25 ≤ (k0 : Int) + 1 ∧ (k0 : Int) + 1 ≤ t_25 := by rw [← ht_25, IntWalk.i64_in _ (by omega)]; omega
                go_roundg m0
                case measure => omega
                case rel => exact ⟨k0 + 1, _, _, _, by omega, by go_num, rfl, rfl, rfl, H, HBwr1⟩
              | true =>
                replace H := ite_t H
                go_wp2_with fail
                replace H := idx_hid H
                obtain ⟨nt_33, yt_33, et_33, lt_33, gt_33, H⟩ := H
                obtain rfl : k0 = nt_33 := by omega
                clear et_33
                obtain ⟨t_33_id, t_33_year, t_33_town, t_33_traits⟩ := yt_33
                replace H := unSighting_hid H
                obtain ⟨bbt_33, oot_33, zt_33, Art_33, crt_33, eAt_33, zzt_33, hKt_33, hrt_33, hqt_33, hnt_33⟩ := Go.Proofs.Ytpaakpbbahbhcaa.GoV.nest_at M0.out (k := k0) lt_33
                obtain rfl := Option.some.inj (gt_33.out.symm.trans zzt_33)
                clear zzt_33
                subst eAt_33
                have hct_33_0 : w.cell? ⟨bbt_33, oot_33 + k0 * 4, none⟩ = some (.int .i64 t_33_id) := hKt_33 0 _ rfl
                have hct_33_1 : w.cell? ⟨bbt_33, oot_33 + k0 * 4 + 1, none⟩ = some (.int .i64 t_33_year) := hKt_33 1 _ rfl
                have hct_33_2 : w.cell? ⟨bbt_33, oot_33 + k0 * 4 + 2, none⟩ = some (.string t_33_town) := hKt_33 2 _ rfl
                have hct_33_3 : w.cell? ⟨bbt_33, oot_33 + k0 * 4 + 3, none⟩ = some (.slice Art_33 t_33_traits.length crt_33) := hKt_33 3 _ rfl
                clear hKt_33
                have ltt_33 := cell_lt hct_33_0
                replace hct_33_0 := cell_below HBwr1.out hct_33_0
                replace hct_33_1 := cell_below HBwr1.out hct_33_1
                replace hct_33_2 := cell_below HBwr1.out hct_33_2
                replace hct_33_3 := cell_below HBwr1.out hct_33_3
                have Mrt_33 := Lib.hid hrt_33
                have Qrt_33 := Lib.hid hqt_33
                have Nrt_33 := Lib.hid hnt_33
                clear hrt_33 hqt_33 hnt_33
                have b0t_33 : (0 : Int) ≤ (k0 : Int) := by omega
                have b1t_33 : (k0 : Int) < ((list.length : Nat) : Int) := by omega
                have b2t_33 : ((k0 : Int)).toNat = k0 := by omega
                have Hhct_33_0 := Lib.hid hct_33_0
                replace hct_33_0 := cell_regrown hct_33_0
                have Hhct_33_1 := Lib.hid hct_33_1
                replace hct_33_1 := cell_regrown hct_33_1
                have Hhct_33_2 := Lib.hid hct_33_2
                replace hct_33_2 := cell_regrown hct_33_2
                have Hhct_33_3 := Lib.hid hct_33_3
                replace hct_33_3 := cell_regrown hct_33_3
                replace H := idx_hid H
                obtain ⟨nt_37, yt_37, et_37, lt_37, gt_37, H⟩ := H
                subst et_37
                have nc_100 : nt_37 < list.length := by have := of_decide_eq_true ht_30; omega
                obtain ⟨t_37_id, t_37_year, t_37_town, t_37_traits⟩ := yt_37
                replace H := unSighting_hid H
                obtain ⟨bbt_37, oot_37, zt_37, Art_37, crt_37, eAt_37, zzt_37, hKt_37, hrt_37, hqt_37, hnt_37⟩ := Go.Proofs.Ytpaakpbbahbhcaa.GoV.nest_at M0.out (k := nt_37) lt_37
                obtain rfl := Option.some.inj (gt_37.out.symm.trans zzt_37)
                clear zzt_37
                simp only [Option.some.injEq, Addr.mk.injEq] at eAt_37
                obtain ⟨rfl, rfl, _⟩ := eAt_37
                have hct_37_0 : w.cell? ⟨bbt_33, oot_33 + nt_37 * 4, none⟩ = some (.int .i64 t_37_id) := hKt_37 0 _ rfl
                have hct_37_1 : w.cell? ⟨bbt_33, oot_33 + nt_37 * 4 + 1, none⟩ = some (.int .i64 t_37_year) := hKt_37 1 _ rfl
                have hct_37_2 : w.cell? ⟨bbt_33, oot_33 + nt_37 * 4 + 2, none⟩ = some (.string t_37_town) := hKt_37 2 _ rfl
                have hct_37_3 : w.cell? ⟨bbt_33, oot_33 + nt_37 * 4 + 3, none⟩ = some (.slice Art_37 t_37_traits.length crt_37) := hKt_37 3 _ rfl
                clear hKt_37
                have ltt_37 := cell_lt hct_37_0
                replace hct_37_0 := cell_below HBwr1.out hct_37_0
                replace hct_37_1 := cell_below HBwr1.out hct_37_1
                replace hct_37_2 := cell_below HBwr1.out hct_37_2
                replace hct_37_3 := cell_below HBwr1.out hct_37_3
                have Mrt_37 := Lib.hid hrt_37
                have Qrt_37 := Lib.hid hqt_37
                have Nrt_37 := Lib.hid hnt_37
                clear hrt_37 hqt_37 hnt_37
                have b0t_37 : (0 : Int) ≤ (nt_37 : Int) := by omega
                have b1t_37 : (nt_37 : Int) < ((list.length : Nat) : Int) := by omega
                have b2t_37 : ((nt_37 : Int)).toNat = nt_37 := by omega
                have Hhct_37_0 := Lib.hid hct_37_0
                replace hct_37_0 := cell_regrown hct_37_0
                have Hhct_37_1 := Lib.hid hct_37_1
                replace hct_37_1 := cell_regrown hct_37_1
                have Hhct_37_2 := Lib.hid hct_37_2
                replace hct_37_2 := cell_regrown hct_37_2
                have Hhct_37_3 := Lib.hid hct_37_3
                replace hct_37_3 := cell_regrown hct_37_3
                replace H := bind_hid H
                obtain ⟨t_39, qt_39, H⟩ := H
                have nt_39 : ∀ d os, Calls Try.prog 60 #[.agg #[.int .i64 t_33_id, .int .i64 t_33_year, .string t_33_town, .slice Art_33 t_33_traits.length crt_33], .agg #[.int .i64 t_37_id, .int .i64 t_37_year, .string t_37_town, .slice Art_37 t_37_traits.length crt_37]] (Go.Sort.grow (redrawn wr1 d) os) fun e w'' => e = .returned (.int .i64 t_39) ∧ ∃ p : Regrown, w'' = Go.Sort.grow (redrawn wr1 p.d) p.os := fun d os => Calls.regrown_of (Go.Proofs.Ytpaakpbbahbhcaa.GsL13Evidence.C fuel (t_33_id) (t_33_year) (t_33_town) (t_33_traits) (t_37_id) (t_37_year) (t_37_town) (t_37_traits) Art_33 crt_33 Art_37 crt_37 _   (Lib.hid (Cells.below (Cells.below Mrt_33.out HBwr1.out) (below_regrown _ _ _))) Nrt_33 (Lib.hid (Cells.below (Cells.below Mrt_37.out HBwr1.out) (below_regrown _ _ _))) Nrt_37 qt_39)
                refine wp_region_quiet_below (by kernel_rfl) (by kernel_rfl) ?_
                repeat (go_big_quiet_step (first | (go_at_call 60; exact nt_39 _ _)))
                refine wpQuiet_nil ?_
                intro Y10 hY10
                replace hY10 := below_class hY10
                clear nt_39
                replace hct_33_0 := Hhct_33_0.out
                clear Hhct_33_0
                replace hct_33_1 := Hhct_33_1.out
                clear Hhct_33_1
                replace hct_33_2 := Hhct_33_2.out
                clear Hhct_33_2
                replace hct_33_3 := Hhct_33_3.out
                clear Hhct_33_3
                replace hct_37_0 := Hhct_37_0.out
                clear Hhct_37_0
                replace hct_37_1 := Hhct_37_1.out
                clear Hhct_37_1
                replace hct_37_2 := Hhct_37_2.out
                clear Hhct_37_2
                replace hct_37_3 := Hhct_37_3.out
                clear Hhct_37_3
                have HBY10 := Lib.hid (Below.step HBwr1.out hY10)
                replace hct_33_0 := cell_below hY10 hct_33_0
                replace hct_33_1 := cell_below hY10 hct_33_1
                replace hct_33_2 := cell_below hY10 hct_33_2
                replace hct_33_3 := cell_below hY10 hct_33_3
                replace hct_37_0 := cell_below hY10 hct_37_0
                replace hct_37_1 := cell_below hY10 hct_37_1
                replace hct_37_2 := cell_below hY10 hct_37_2
                replace hct_37_3 := cell_below hY10 hct_37_3
                clear hY10
                replace H := let_hid H
                obtain ⟨t_43, ht_43, H⟩ := H
                cases t_43 with
                | false =>
                  replace H := ite_f H
                  replace H := let_hid H
                  obtain ⟨t_59, ht_59, H⟩ := H
                  replace H := app_hid H
                  go_wp2_with fail
                  go_roundg m1
                  case measure => omega
                  case rel => exact ⟨_, _, _, _, rfl, rfl, rfl, rfl, H, HBY10⟩
                | true =>
                  replace H := ite_t H
                  replace H := idx_hid H
                  obtain ⟨nt_46, yt_46, et_46, lt_46, gt_46, H⟩ := H
                  obtain rfl : k0 = nt_46 := by omega
                  clear et_46
                  obtain rfl := Option.some.inj (gt_33.out.symm.trans gt_46.out)
                  clear gt_46 lt_46
                  replace H := unSighting_hid H
                  replace H := idx_hid H
                  obtain ⟨nt_52, yt_52, et_52, lt_52, gt_52, H⟩ := H
                  obtain rfl : nt_37 = nt_52 := by omega
                  clear et_52
                  obtain rfl := Option.some.inj (gt_37.out.symm.trans gt_52.out)
                  clear gt_52 lt_52
                  replace H := unSighting_hid H
                  replace H := let_hid H
                  obtain ⟨t_59, ht_59, H⟩ := H
                  replace H := app_hid H
                  go_wp2_with fail
                  go_roundg m1
                  case measure => omega
                  case rel => exact ⟨_, _, _, _, rfl, rfl, rfl, rfl, H, HBY10⟩
    | true =>
      have nht_10 : list.length < 2 := by have := of_decide_eq_true ht_10; omega
      replace H := ite_t H
      cases ret_hid H
      go_wp2_with fail
      (try simp only [Exit.inBlock, Exit.then]); refine bodyPost_ret (results_tmp4 rfl _ _ _) rfl ?_
      exact ⟨rfl, HBwt_5.out⟩
end Go.Proofs.Ytpaakpbbahbhcaa.GsStrongestPair

/- loop.example/g01062/impl.StrongestPair as a plain function, and the contract of the program's: where the plain one has an answer, the program has it. Conditions: slices read as lists. -/
namespace Go.Proofs.Ytpaakpbbahbhcaa.GiStrongestPair
set_option linter.unusedVariables false
set_option linter.unusedSimpArgs false
open Go.RowKit
open Go.Proofs.Ytpaakpbbahbhcaa.Rowed Go.Proofs.Ytpaakpbbahbhcaa.Turn Go.Proofs.Ytpaakpbbahbhcaa.Aid Go.Proofs.Ytpaakpbbahbhcaa.GoP Go.Proofs.Ytpaakpbbahbhcaa.GoM

def l1 (t_24_id : Int) (t_24_year : Int) (t_24_town : ByteArray) (t_24_traits : (List Int)) (t_32 : (List Go.Proofs.Ytpaakpbbahbhcaa.PSighting.Sighting)) (k1 : Nat) (s : Int × Int × Int) (nx1 bk1 : Int × Int × Int → Option (Int × Int × Int × Bool)) : Option (Int × Int × Int × Bool) :=
  unp3 s fun a_6l1 b_7l1 most_8l1 =>
  Option.bind (idx t_32 (k1 : Int)) fun (yt_36 : Go.Proofs.Ytpaakpbbahbhcaa.PSighting.Sighting) =>
  unSighting yt_36 fun (t_36_id : Int) (t_36_year : Int) (t_36_town : ByteArray) (t_36_traits : (List Int)) =>
  Option.bind (Go.Proofs.Ytpaakpbbahbhcaa.GiEvidence.P t_24_id t_24_year t_24_town t_24_traits t_36_id t_36_year t_36_town t_36_traits) fun (t_42 : Int) =>
  letK (decide (most_8l1 < t_42)) fun (t_46 : Bool) =>
  iteK t_46
  (appK nx1 (t_24_id, t_36_id, t_42))
  (appK nx1 (a_6l1, b_7l1, most_8l1))

def e1 (nx0 : (Int × Int × Int) → Option (Int × Int × Int × Bool)) (s : Int × Int × Int) : Option (Int × Int × Int × Bool) :=
  unp3 s fun a_6l1 b_7l1 most_8l1 =>
  appK nx0 (a_6l1, b_7l1, most_8l1)

def l0 (list : (List Go.Proofs.Ytpaakpbbahbhcaa.PSighting.Sighting)) (k0 : Nat) (s : Int × Int × Int) (nx0 bk0 : Int × Int × Int → Option (Int × Int × Int × Bool)) : Option (Int × Int × Int × Bool) :=
  unp3 s fun a_6l0 b_7l0 most_8l0 =>
  Option.bind (idx list (k0 : Int)) fun (yt_24 : Go.Proofs.Ytpaakpbbahbhcaa.PSighting.Sighting) =>
  unSighting yt_24 fun (t_24_id : Int) (t_24_year : Int) (t_24_town : ByteArray) (t_24_traits : (List Int)) =>
  letK (IntKind.i64.wrap ((k0 : Int) + 1)) fun (t_31 : Int) =>
  guardK ((0 : Int) ≤ t_31 ∧ (t_31 : Int) ≤ (list.length : Int)) <|
  letK (List.drop (Int.toNat t_31) list) fun (t_32 : (List Go.Proofs.Ytpaakpbbahbhcaa.PSighting.Sighting)) =>
  cntK (l1 t_24_id t_24_year t_24_town t_24_traits t_32) (t_32.length) 0 (a_6l0, b_7l0, most_8l0) (e1 nx0)

def e0  (s : Int × Int × Int) : Option (Int × Int × Int × Bool) :=
  unp3 s fun a_6l0 b_7l0 most_8l0 =>
  some (a_6l0, b_7l0, most_8l0, true)

def P (list : (List Go.Proofs.Ytpaakpbbahbhcaa.PSighting.Sighting)) : Option (Int × Int × Int × Bool) :=
  Option.bind (Go.Proofs.Ytpaakpbbahbhcaa.GiAreSightings.P list) fun (t_5 : Bool) =>
  letK (!t_5) fun (t_6 : Bool) =>
  joinK (fun (t_11 : Bool) =>
  iteK t_11
  (some (0, 0, 0, false))
  (cntK (l0 list) (list.length) 0 (0, 0, (-30)) (e0 ))) fun jt_11 => iteK t_6 (appK jt_11 true) (letK (decide ((list.length : Int) < 2)) fun (t_10 : Bool) =>
  appK jt_11 t_10)

set_option maxRecDepth 100000 in
set_option maxHeartbeats 2000000 in
theorem C (list : (List Go.Proofs.Ytpaakpbbahbhcaa.PSighting.Sighting)) (A0 : Option Addr) (c0 : Nat)  (w : World) (M0 : Hid (Go.Proofs.Ytpaakpbbahbhcaa.GoV.ReadNest w Go.Proofs.Ytpaakpbbahbhcaa.GoVSighting.lay A0 list)) (N0 : Hid (list.length ≤ 9223372036854775807)) (Q0 : Hid (Room A0 list.length c0))  {r0 : Int} {r1 : Int} {r2 : Int} {r3 : Bool} (H : Hid (P list = some (r0, r1, r2, r3))) :
    Calls Try.prog 41 #[.slice A0 list.length c0] w (Gives (.tuple #[.int .i64 r0, .int .i64 r1, .int .i64 r2, .bool r3]) w) := by
  have HB := Lib.hid (Below.refl w.heap.size w)
  unfold P at H
  have N0o := N0.out
  obtain ⟨i0_67, hi_67, hz0_67, hz1_67, hz2_67⟩ := Aid.info_parts (P := Try.prog) (T := 67) (z := .agg #[.int .i64 0, .int .i64 0, .string ByteArray.empty, .slice none 0 0]) (s := 4) (b := 56) (by kernel_rfl)
  go_enter Try.func41, Try.ntmps41
  replace H := bind_hid H
  obtain ⟨t_5, qt_5, H⟩ := H
  go_wp2_with fail
  go_at_call 28
  refine (Go.Proofs.Ytpaakpbbahbhcaa.GiAreSightings.C (list) A0 c0 _   (Lib.hid (Go.Proofs.Ytpaakpbbahbhcaa.GoV.read_below M0.out HB.out)) N0 qt_5).mono ?_
  rintro e_t_5 wt_5 ⟨rfl, bt_5⟩
  have HBwt_5 := Lib.hid (Below.step HB.out bt_5)
  clear bt_5
  cases t_5 with
  | false =>
    replace H := let_hid H
    obtain ⟨t_6, ht_6, H⟩ := H
    obtain rfl : t_6 = true := ht_6.symm
    replace H := join_hid H
    replace H := ite_t H
    replace H := app_hid H
    replace H := ite_t H
    cases ret_hid H
    go_wp2_with fail
    (try simp only [Exit.inBlock, Exit.then]); refine bodyPost_ret (results_tmp4 rfl _ _ _) rfl ?_
    exact ⟨rfl, HBwt_5.out⟩
  | true =>
    replace H := let_hid H
    obtain ⟨t_6, ht_6, H⟩ := H
    obtain rfl : t_6 = false := ht_6.symm
    replace H := join_hid H
    replace H := ite_f H
    replace H := let_hid H
    obtain ⟨t_10, ht_10, H⟩ := H
    replace H := app_hid H
    cases t_10 with
    | false =>
      have nht_10 : ¬ (list.length < 2) := by have := of_decide_eq_false ht_10; omega
      replace H := ite_f H
      go_wp2_with fail
      go_loopg [24, 6, 7, 8] (list.length) (fun m_ v24_ v6_ v7_ v8_ wr => ∃ (k0 : Nat) (a_6l0 : Int) (b_7l0 : Int) (most_8l0 : Int), k0 + m_ = list.length ∧ v24_ = .int .i64 (k0 : Int) ∧ v6_ = .int .i64 a_6l0 ∧ v7_ = .int .i64 b_7l0 ∧ v8_ = .int .i64 most_8l0 ∧ Hid (cntK (l0 list) m_ k0 (a_6l0, b_7l0, most_8l0) (e0 ) = some (r0, r1, r2, r3)) ∧ Hid (Below w.heap.size w wr))
      case atStart => exact ⟨0, _, _, _, by omega, rfl, rfl, rfl, rfl, H, HBwt_5⟩
      case round =>
        obtain ⟨k0, a_6l0, b_7l0, most_8l0, hkm0, rfl, rfl, rfl, rfl, H, HBwr0⟩ := hrel
        rename World => wr0
        cases gk with
        | zero =>
          obtain rfl : k0 = list.length := by omega
          have hc0 : decide (((list.length : Nat) : Int) < ((list.length : Nat) : Int)) = false := by simp
          replace H := cnt_zero H
          unfold e0 at H
          replace H := unp3_hid H
          cases ret_hid H
          go_wp2_with fail
          (try simp only [Exit.inBlock, Exit.then]); refine bodyPost_ret (results_tmp4 rfl _ _ _) rfl ?_
          exact ⟨rfl, HBwr0.out⟩
        | succ m0 =>
          have hlt0 : k0 < list.length := by omega
          have hc0 : decide ((k0 : Int) < ((list.length : Nat) : Int)) = true := by simp; omega
          replace H := cnt_succ H
          unfold l0 at H
          replace H := unp3_hid H
          replace H := idx_hid H
          obtain ⟨nt_24, yt_24, et_24, lt_24, gt_24, H⟩ := H
          obtain rfl : k0 = nt_24 := by omega
          clear et_24
          obtain ⟨t_24_id, t_24_year, t_24_town, t_24_traits⟩ := yt_24
          replace H := unSighting_hid H
          obtain ⟨bbt_24, oot_24, zt_24, Art_24, crt_24, eAt_24, zzt_24, hKt_24, hrt_24, hqt_24, hnt_24⟩ := Go.Proofs.Ytpaakpbbahbhcaa.GoV.nest_at M0.out (k := k0) lt_24
          obtain rfl := Option.some.inj (gt_24.out.symm.trans zzt_24)
          clear zzt_24
          subst eAt_24
          have hct_24_0 : w.cell? ⟨bbt_24, oot_24 + k0 * 4, none⟩ = some (.int .i64 t_24_id) := hKt_24 0 _ rfl
          have hct_24_1 : w.cell? ⟨bbt_24, oot_24 + k0 * 4 + 1, none⟩ = some (.int .i64 t_24_year) := hKt_24 1 _ rfl
          have hct_24_2 : w.cell? ⟨bbt_24, oot_24 + k0 * 4 + 2, none⟩ = some (.string t_24_town) := hKt_24 2 _ rfl
          have hct_24_3 : w.cell? ⟨bbt_24, oot_24 + k0 * 4 + 3, none⟩ = some (.slice Art_24 t_24_traits.length crt_24) := hKt_24 3 _ rfl
          clear hKt_24
          have ltt_24 := cell_lt hct_24_0
          replace hct_24_0 := cell_below HBwr0.out hct_24_0
          replace hct_24_1 := cell_below HBwr0.out hct_24_1
          replace hct_24_2 := cell_below HBwr0.out hct_24_2
          replace hct_24_3 := cell_below HBwr0.out hct_24_3
          have Mrt_24 := Lib.hid hrt_24
          have Qrt_24 := Lib.hid hqt_24
          have Nrt_24 := Lib.hid hnt_24
          clear hrt_24 hqt_24 hnt_24
          have b0t_24 : (0 : Int) ≤ (k0 : Int) := by omega
          have b1t_24 : (k0 : Int) < ((list.length : Nat) : Int) := by omega
          have b2t_24 : ((k0 : Int)).toNat = k0 := by omega
          obtain ⟨w_s_26, hw_s_26⟩ : ∃ x, wr0.alloc (.cells #[.int .i64 t_24_id, .int .i64 t_24_year, .string t_24_town, .slice Art_24 t_24_traits.length crt_24] 67) = x := ⟨_, rfl⟩
          have bw_s_26 : Below wr0.heap.size wr0 w_s_26 := by rw [← hw_s_26]; exact (Below.refl _ _).alloc (Nat.le_refl _) _
          have HBw_s_26 := Lib.hid (Below.step HBwr0.out bw_s_26)
          have hct_24_0__101 := cell_below bw_s_26 hct_24_0
          have hct_24_1__102 := cell_below bw_s_26 hct_24_1
          have hct_24_2__103 := cell_below bw_s_26 hct_24_2
          have hct_24_3__104 := cell_below bw_s_26 hct_24_3
          clear bw_s_26
          have ks_26_0 : w_s_26.cell? ⟨wr0.heap.size, 0, none⟩ = some (.int .i64 t_24_id) := by rw [← hw_s_26]; exact box_new _ _ _ 0 _ rfl
          have ks_26_1 : w_s_26.cell? ⟨wr0.heap.size, 1, none⟩ = some (.int .i64 t_24_year) := by rw [← hw_s_26]; exact box_new _ _ _ 1 _ rfl
          have ks_26_2 : w_s_26.cell? ⟨wr0.heap.size, 2, none⟩ = some (.string t_24_town) := by rw [← hw_s_26]; exact box_new _ _ _ 2 _ rfl
          have ks_26_3 : w_s_26.cell? ⟨wr0.heap.size, 3, none⟩ = some (.slice Art_24 t_24_traits.length crt_24) := by rw [← hw_s_26]; exact box_new _ _ _ 3 _ rfl
          replace H := let_hid H
          obtain ⟨t_31, ht_31, H⟩ := H
          replace H := guard_hid H
          obtain ⟨hl_t_32, H⟩ := H
          replace H := let_hid H
          obtain ⟨t_32, ht_32, H⟩ := H
          obtain ⟨At_32, ct_32, rt_32, Mt_32, Qt_32⟩ := Go.Proofs.Ytpaakpbbahbhcaa.GoV.read_tail (P := Try.prog) (t := 24) (e := 67) (k := .i64) (by kernel_rfl) (by kernel_rfl) hi_67 hz1_67 M0.out Q0.out hl_t_32 ht_32
          have Nt_32 : Hid (t_32.length ≤ 9223372036854775807) := Lib.hid (by have := N0.out; rw [← ht_32, List.length_drop]; omega)
          replace Mt_32 := Lib.hid Mt_32
          replace Qt_32 := Lib.hid Qt_32
          clear hl_t_32
          have hht_32 := Lib.hid ht_32
          clear ht_32
          have Not_32 := Nt_32.out
          go_wp2_with fail
          clear hct_24_0 hct_24_1 hct_24_2 hct_24_3
          go_loopg [34, 6, 7, 8] (t_32.length) (fun m_ v34_ v6_ v7_ v8_ wr => ∃ (k1 : Nat) (a_6l1 : Int) (b_7l1 : Int) (most_8l1 : Int), k1 + m_ = t_32.length ∧ v34_ = .int .i64 (k1 : Int) ∧ v6_ = .int .i64 a_6l1 ∧ v7_ = .int .i64 b_7l1 ∧ v8_ = .int .i64 most_8l1 ∧ Hid (cntK (l1 t_24_id t_24_year t_24_town t_24_traits t_32) m_ k1 (a_6l1, b_7l1, most_8l1) (e1 (fun s' => cntK (l0 list) m0 (k0 + 1) s' (e0 ))) = some (r0, r1, r2, r3)) ∧ Hid (Below w.heap.size w wr) ∧ wr.cell? ⟨wr0.heap.size, 0, none⟩ = some (.int .i64 t_24_id) ∧ wr.cell? ⟨wr0.heap.size, 1, none⟩ = some (.int .i64 t_24_year) ∧ wr.cell? ⟨wr0.heap.size, 2, none⟩ = some (.string t_24_town) ∧ wr.cell? ⟨wr0.heap.size, 3, none⟩ = some (.slice Art_24 t_24_traits.length crt_24))
          case atStart => exact ⟨0, _, _, _, by omega, rfl, rfl, rfl, rfl, H, HBw_s_26, ks_26_0, ks_26_1, ks_26_2, ks_26_3⟩
          case round =>
            obtain ⟨k1, a_6l1, b_7l1, most_8l1, hkm1, rfl, rfl, rfl, rfl, H, HBwr1, ks_26_0, ks_26_1, ks_26_2, ks_26_3⟩ := hrel
            rename World => wr1
            cases gk with
            | zero =>
              obtain rfl : k1 = t_32.length := by omega
              have hc1 : decide (((t_32.length : Nat) : Int) < ((t_32.length : Nat) : Int)) = false := by simp
              replace H := cnt_zero H
              unfold e1 at H
              replace H := unp3_hid H
              replace H := app_hid H
              go_wp2_with fail
              have hnx0_ : t_31 ≤ (k0 : Int) + 1 ∧ (k0 : Int) + 1 ≤ t_31 := by rw [← ht_31, IntWalk.i64_in _ (by omega)]; omega
              go_roundg m0
              case measure => omega
              case rel => exact ⟨k0 + 1, _, _, _, by omega, by go_num, rfl, rfl, rfl, H, HBwr1⟩
            | succ m1 =>
              have hlt1 : k1 < t_32.length := by omega
              have hc1 : decide ((k1 : Int) < ((t_32.length : Nat) : Int)) = true := by simp; omega
              replace H := cnt_succ H
              unfold l1 at H
              replace H := unp3_hid H
              replace H := idx_hid H
              obtain ⟨nt_36, yt_36, et_36, lt_36, gt_36, H⟩ := H
              obtain rfl : k1 = nt_36 := by omega
              clear et_36
              obtain ⟨t_36_id, t_36_year, t_36_town, t_36_traits⟩ := yt_36
              replace H := unSighting_hid H
              obtain ⟨bbt_36, oot_36, zt_36, Art_36, crt_36, eAt_36, zzt_36, hKt_36, hrt_36, hqt_36, hnt_36⟩ := Go.Proofs.Ytpaakpbbahbhcaa.GoV.nest_at Mt_32.out (k := k1) lt_36
              obtain rfl := Option.some.inj (gt_36.out.symm.trans zzt_36)
              clear zzt_36
              subst eAt_36
              have hct_36_0 : w.cell? ⟨bbt_36, oot_36 + k1 * 4, none⟩ = some (.int .i64 t_36_id) := hKt_36 0 _ rfl
              have hct_36_1 : w.cell? ⟨bbt_36, oot_36 + k1 * 4 + 1, none⟩ = some (.int .i64 t_36_year) := hKt_36 1 _ rfl
              have hct_36_2 : w.cell? ⟨bbt_36, oot_36 + k1 * 4 + 2, none⟩ = some (.string t_36_town) := hKt_36 2 _ rfl
              have hct_36_3 : w.cell? ⟨bbt_36, oot_36 + k1 * 4 + 3, none⟩ = some (.slice Art_36 t_36_traits.length crt_36) := hKt_36 3 _ rfl
              clear hKt_36
              have ltt_36 := cell_lt hct_36_0
              replace hct_36_0 := cell_below HBwr1.out hct_36_0
              replace hct_36_1 := cell_below HBwr1.out hct_36_1
              replace hct_36_2 := cell_below HBwr1.out hct_36_2
              replace hct_36_3 := cell_below HBwr1.out hct_36_3
              have Mrt_36 := Lib.hid hrt_36
              have Qrt_36 := Lib.hid hqt_36
              have Nrt_36 := Lib.hid hnt_36
              clear hrt_36 hqt_36 hnt_36
              have b0t_36 : (0 : Int) ≤ (k1 : Int) := by omega
              have b1t_36 : (k1 : Int) < ((t_32.length : Nat) : Int) := by omega
              have b2t_36 : ((k1 : Int)).toNat = k1 := by omega
              obtain ⟨w_t_38, hw_t_38⟩ : ∃ x, wr1.alloc (.cells #[.int .i64 t_36_id, .int .i64 t_36_year, .string t_36_town, .slice Art_36 t_36_traits.length crt_36] 67) = x := ⟨_, rfl⟩
              have bw_t_38 : Below wr1.heap.size wr1 w_t_38 := by rw [← hw_t_38]; exact (Below.refl _ _).alloc (Nat.le_refl _) _
              have HBw_t_38 := Lib.hid (Below.step HBwr1.out bw_t_38)
              have ks_26_0__105 := cell_below bw_t_38 ks_26_0
              have ks_26_1__106 := cell_below bw_t_38 ks_26_1
              have ks_26_2__107 := cell_below bw_t_38 ks_26_2
              have ks_26_3__108 := cell_below bw_t_38 ks_26_3
              have hct_36_0__109 := cell_below bw_t_38 hct_36_0
              have hct_36_1__110 := cell_below bw_t_38 hct_36_1
              have hct_36_2__111 := cell_below bw_t_38 hct_36_2
              have hct_36_3__112 := cell_below bw_t_38 hct_36_3
              clear bw_t_38
              have kt_38_0 : w_t_38.cell? ⟨wr1.heap.size, 0, none⟩ = some (.int .i64 t_36_id) := by rw [← hw_t_38]; exact box_new _ _ _ 0 _ rfl
              have kt_38_1 : w_t_38.cell? ⟨wr1.heap.size, 1, none⟩ = some (.int .i64 t_36_year) := by rw [← hw_t_38]; exact box_new _ _ _ 1 _ rfl
              have kt_38_2 : w_t_38.cell? ⟨wr1.heap.size, 2, none⟩ = some (.string t_36_town) := by rw [← hw_t_38]; exact box_new _ _ _ 2 _ rfl
              have kt_38_3 : w_t_38.cell? ⟨wr1.heap.size, 3, none⟩ = some (.slice Art_36 t_36_traits.length crt_36) := by rw [← hw_t_38]; exact box_new _ _ _ 3 _ rfl
              replace H := bind_hid H
              obtain ⟨t_42, qt_42, H⟩ := H
              go_wp2_with fail
              clear ks_26_0 ks_26_1 ks_26_2 ks_26_3 hct_36_0 hct_36_1 hct_36_2 hct_36_3
              go_at_call 59
              refine (Go.Proofs.Ytpaakpbbahbhcaa.GiEvidence.C (t_24_id) (t_24_year) (t_24_town) (t_24_traits) (t_36_id) (t_36_year) (t_36_town) (t_36_traits) Art_24 crt_24 Art_36 crt_36 _   (Lib.hid (Cells.below Mrt_24.out HBw_t_38.out)) Nrt_24 (Lib.hid (Cells.below Mrt_36.out HBw_t_38.out)) Nrt_36 qt_42).mono ?_
              rintro e_t_42 wt_42 ⟨rfl, bt_42⟩
              have HBwt_42 := Lib.hid (Below.step HBw_t_38.out bt_42)
              replace ks_26_0__105 := cell_below bt_42 ks_26_0__105
              replace ks_26_1__106 := cell_below bt_42 ks_26_1__106
              replace ks_26_2__107 := cell_below bt_42 ks_26_2__107
              replace ks_26_3__108 := cell_below bt_42 ks_26_3__108
              replace hct_36_0__109 := cell_below bt_42 hct_36_0__109
              replace hct_36_1__110 := cell_below bt_42 hct_36_1__110
              replace hct_36_2__111 := cell_below bt_42 hct_36_2__111
              replace hct_36_3__112 := cell_below bt_42 hct_36_3__112
              replace kt_38_0 := cell_below bt_42 kt_38_0
              replace kt_38_1 := cell_below bt_42 kt_38_1
              replace kt_38_2 := cell_below bt_42 kt_38_2
              replace kt_38_3 := cell_below bt_42 kt_38_3
              clear bt_42
              replace H := let_hid H
              obtain ⟨t_46, ht_46, H⟩ := H
              cases t_46 with
              | false =>
                replace H := ite_f H
                replace H := app_hid H
                go_wp2_with fail
                go_roundg m1
                case measure => omega
                case rel => exact ⟨k1 + 1, _, _, _, by omega, by go_num, rfl, rfl, rfl, H, HBwt_42, ks_26_0__105, ks_26_1__106, ks_26_2__107, ks_26_3__108⟩
              | true =>
                replace H := ite_t H
                go_wp2_with fail
                have Hks_26_0__105 := Lib.hid ks_26_0__105
                replace ks_26_0__105 := cell_regrown ks_26_0__105
                have Hks_26_1__106 := Lib.hid ks_26_1__106
                replace ks_26_1__106 := cell_regrown ks_26_1__106
                have Hks_26_2__107 := Lib.hid ks_26_2__107
                replace ks_26_2__107 := cell_regrown ks_26_2__107
                have Hks_26_3__108 := Lib.hid ks_26_3__108
                replace ks_26_3__108 := cell_regrown ks_26_3__108
                have Hhct_36_0__109 := Lib.hid hct_36_0__109
                replace hct_36_0__109 := cell_regrown hct_36_0__109
                have Hhct_36_1__110 := Lib.hid hct_36_1__110
                replace hct_36_1__110 := cell_regrown hct_36_1__110
                have Hhct_36_2__111 := Lib.hid hct_36_2__111
                replace hct_36_2__111 := cell_regrown hct_36_2__111
                have Hhct_36_3__112 := Lib.hid hct_36_3__112
                replace hct_36_3__112 := cell_regrown hct_36_3__112
                have Hkt_38_0 := Lib.hid kt_38_0
                replace kt_38_0 := cell_regrown kt_38_0
                have Hkt_38_1 := Lib.hid kt_38_1
                replace kt_38_1 := cell_regrown kt_38_1
                have Hkt_38_2 := Lib.hid kt_38_2
                replace kt_38_2 := cell_regrown kt_38_2
                have Hkt_38_3 := Lib.hid kt_38_3
                replace kt_38_3 := cell_regrown kt_38_3
                refine wp_region_quiet_below (by kernel_rfl) (by kernel_rfl) ?_
                repeat (go_big_quiet_step (fail))
                refine wpQuiet_nil ?_
                intro Y12 hY12
                replace hY12 := below_class hY12
                replace ks_26_0__105 := Hks_26_0__105.out
                clear Hks_26_0__105
                replace ks_26_1__106 := Hks_26_1__106.out
                clear Hks_26_1__106
                replace ks_26_2__107 := Hks_26_2__107.out
                clear Hks_26_2__107
                replace ks_26_3__108 := Hks_26_3__108.out
                clear Hks_26_3__108
                replace hct_36_0__109 := Hhct_36_0__109.out
                clear Hhct_36_0__109
                replace hct_36_1__110 := Hhct_36_1__110.out
                clear Hhct_36_1__110
                replace hct_36_2__111 := Hhct_36_2__111.out
                clear Hhct_36_2__111
                replace hct_36_3__112 := Hhct_36_3__112.out
                clear Hhct_36_3__112
                replace kt_38_0 := Hkt_38_0.out
                clear Hkt_38_0
                replace kt_38_1 := Hkt_38_1.out
                clear Hkt_38_1
                replace kt_38_2 := Hkt_38_2.out
                clear Hkt_38_2
                replace kt_38_3 := Hkt_38_3.out
                clear Hkt_38_3
                have HBY12 := Lib.hid (Below.step HBwt_42.out hY12)
                replace ks_26_0__105 := cell_below hY12 ks_26_0__105
                replace ks_26_1__106 := cell_below hY12 ks_26_1__106
                replace ks_26_2__107 := cell_below hY12 ks_26_2__107
                replace ks_26_3__108 := cell_below hY12 ks_26_3__108
                replace hct_36_0__109 := cell_below hY12 hct_36_0__109
                replace hct_36_1__110 := cell_below hY12 hct_36_1__110
                replace hct_36_2__111 := cell_below hY12 hct_36_2__111
                replace hct_36_3__112 := cell_below hY12 hct_36_3__112
                replace kt_38_0 := cell_below hY12 kt_38_0
                replace kt_38_1 := cell_below hY12 kt_38_1
                replace kt_38_2 := cell_below hY12 kt_38_2
                replace kt_38_3 := cell_below hY12 kt_38_3
                clear hY12
                replace H := app_hid H
                go_wp2_with fail
                go_roundg m1
                case measure => omega
                case rel => exact ⟨k1 + 1, _, _, _, by omega, by go_num, rfl, rfl, rfl, H, HBY12, ks_26_0__105, ks_26_1__106, ks_26_2__107, ks_26_3__108⟩
    | true =>
      have nht_10 : list.length < 2 := by have := of_decide_eq_true ht_10; omega
      replace H := ite_t H
      cases ret_hid H
      go_wp2_with fail
      (try simp only [Exit.inBlock, Exit.then]); refine bodyPost_ret (results_tmp4 rfl _ _ _) rfl ?_
      exact ⟨rfl, HBwt_5.out⟩
end Go.Proofs.Ytpaakpbbahbhcaa.GiStrongestPair

/- loop.example/g01062/laws.FnExactStrongestPair as a plain function, and the contract of the program's: where the plain one has an answer, the program has it. Conditions: slices read as lists. -/
namespace Go.Proofs.Ytpaakpbbahbhcaa.GlFnExactStrongestPair
set_option linter.unusedVariables false
set_option linter.unusedSimpArgs false
open Go.RowKit
open Go.Proofs.Ytpaakpbbahbhcaa.Rowed Go.Proofs.Ytpaakpbbahbhcaa.Turn Go.Proofs.Ytpaakpbbahbhcaa.Aid Go.Proofs.Ytpaakpbbahbhcaa.GoP Go.Proofs.Ytpaakpbbahbhcaa.GoM

def P (fuel : Nat) (aList : (List Go.Proofs.Ytpaakpbbahbhcaa.PSighting.Sighting)) : Option (Bool) :=
  Option.bind (Go.Proofs.Ytpaakpbbahbhcaa.GlSzSightingS.P aList 1048576) fun (t_4 : Int) =>
  letK (decide (t_4 < 0)) fun (t_7 : Bool) =>
  iteK t_7
  (some true)
  (Option.bind (Go.Proofs.Ytpaakpbbahbhcaa.GlToSightingS.P aList) fun (t_10 : (List Go.Proofs.Ytpaakpbbahbhcaa.PSighting.Sighting)) =>
  bind4 (Go.Proofs.Ytpaakpbbahbhcaa.GsStrongestPair.P fuel t_10) fun (t_11a : Int) (t_11b : Int) (t_11c : Int) (t_11d : Bool) =>
  Option.bind (Go.Proofs.Ytpaakpbbahbhcaa.GlToSightingS.P aList) fun (t_22 : (List Go.Proofs.Ytpaakpbbahbhcaa.PSighting.Sighting)) =>
  bind4 (Go.Proofs.Ytpaakpbbahbhcaa.GiStrongestPair.P t_22) fun (t_25a : Int) (t_25b : Int) (t_25c : Int) (t_25d : Bool) =>
  letK (t_25a != t_11a) fun (t_37 : Bool) =>
  joinK (fun (t_42 : Bool) =>
  joinK (fun (t_47 : Bool) =>
  joinK (fun (t_52 : Bool) =>
  iteK t_52
  (some false)
  (Option.bind (Go.Proofs.Ytpaakpbbahbhcaa.GlToSightingS.P aList) fun (t_56 : (List Go.Proofs.Ytpaakpbbahbhcaa.PSighting.Sighting)) =>
  Option.bind (Go.Proofs.Ytpaakpbbahbhcaa.GlEqSightingS.P t_22 t_56) fun (t_57 : Bool) =>
  letK (!t_57) fun (t_58 : Bool) =>
  iteK t_58
  (some false)
  (some true))) fun jt_52 => iteK t_47 (appK jt_52 true) (letK (!(t_25d == t_11d)) fun (t_51 : Bool) =>
  appK jt_52 t_51)) fun jt_47 => iteK t_42 (appK jt_47 true) (letK (t_25c != t_11c) fun (t_46 : Bool) =>
  appK jt_47 t_46)) fun jt_42 => iteK t_37 (appK jt_42 true) (letK (t_25b != t_11b) fun (t_41 : Bool) =>
  appK jt_42 t_41))

set_option maxRecDepth 100000 in
set_option maxHeartbeats 2000000 in
theorem C (fuel : Nat) (aList : (List Go.Proofs.Ytpaakpbbahbhcaa.PSighting.Sighting)) (A0 : Option Addr) (c0 : Nat)  (w : World) (M0 : Hid (Go.Proofs.Ytpaakpbbahbhcaa.GoV.ReadNest w Go.Proofs.Ytpaakpbbahbhcaa.GoVSighting.lay A0 aList)) (N0 : Hid (aList.length ≤ 9223372036854775807))  {r : Bool} (H : Hid (P fuel aList = some r)) :
    Calls Try.prog 8 #[.slice A0 aList.length c0] w (Gives (.bool r) w) := by
  have HB := Lib.hid (Below.refl w.heap.size w)
  unfold P at H
  have N0o := N0.out
  go_enter Try.func8, Try.ntmps8
  replace H := bind_hid H
  obtain ⟨t_4, qt_4, H⟩ := H
  go_wp2_with fail
  go_at_call 30
  refine (Go.Proofs.Ytpaakpbbahbhcaa.GlSzSightingS.C (aList) (1048576) A0 c0 _   (Lib.hid (Go.Proofs.Ytpaakpbbahbhcaa.GoV.read_below M0.out HB.out)) N0 qt_4).mono ?_
  rintro e_t_4 wt_4 ⟨rfl, bt_4⟩
  have HBwt_4 := Lib.hid (Below.step HB.out bt_4)
  clear bt_4
  replace H := let_hid H
  obtain ⟨t_7, ht_7, H⟩ := H
  cases t_7 with
  | false =>
    replace H := ite_f H
    replace H := bind_hid H
    obtain ⟨t_10, qt_10, H⟩ := H
    go_wp2_with fail
    go_at_call 31
    refine (Go.Proofs.Ytpaakpbbahbhcaa.GlToSightingS.C (aList) A0 c0 _   (Lib.hid (Go.Proofs.Ytpaakpbbahbhcaa.GoV.read_below M0.out HBwt_4.out)) N0 qt_10).mono ?_
    rintro e_t_10 wt_10 ⟨At_10, ct_10, rfl, ⟨Bt_10, ot_10⟩, bt_10⟩
    have Ot_10 := Lib.hid (Go.Proofs.Ytpaakpbbahbhcaa.GoV.nest_lower ot_10 HBwt_4.out.size)
    clear ot_10
    have HBwt_10 := Lib.hid (Below.step HBwt_4.out bt_10)
    clear bt_10
    replace H := bind4_hid H
    obtain ⟨t_11a, t_11b, t_11c, t_11d, qt_11, H⟩ := H
    go_wp2_with fail
    go_at_call 40
    refine (Go.Proofs.Ytpaakpbbahbhcaa.GsStrongestPair.C fuel (t_10) At_10 ct_10 _   (Lib.hid (Go.Proofs.Ytpaakpbbahbhcaa.GoV.nest_read Ot_10.out)) (Lib.hid (Go.Proofs.Ytpaakpbbahbhcaa.GoV.nest_max Ot_10.out)) qt_11).mono ?_
    rintro e_t_11 wt_11 ⟨rfl, bt_11⟩
    have HBwt_11 := Lib.hid (Below.step HBwt_10.out bt_11)
    replace Ot_10 := Lib.hid (Go.Proofs.Ytpaakpbbahbhcaa.GoV.nest_below Ot_10.out bt_11)
    clear bt_11
    replace H := bind_hid H
    obtain ⟨t_22, qt_22, H⟩ := H
    go_wp2_with fail
    go_at_call 31
    refine (Go.Proofs.Ytpaakpbbahbhcaa.GlToSightingS.C (aList) A0 c0 _   (Lib.hid (Go.Proofs.Ytpaakpbbahbhcaa.GoV.read_below M0.out HBwt_11.out)) N0 qt_22).mono ?_
    rintro e_t_22 wt_22 ⟨At_22, ct_22, rfl, ⟨Bt_22, ot_22⟩, bt_22⟩
    have Dt_22_t_10 := Lib.hid (Go.Proofs.Ytpaakpbbahbhcaa.GoV.lts_apart (Go.Proofs.Ytpaakpbbahbhcaa.GoV.nest_lt ot_22) (Go.Proofs.Ytpaakpbbahbhcaa.GoV.nest_lt Ot_10.out))
    have Ot_22 := Lib.hid (Go.Proofs.Ytpaakpbbahbhcaa.GoV.nest_lower ot_22 HBwt_11.out.size)
    clear ot_22
    have HBwt_22 := Lib.hid (Below.step HBwt_11.out bt_22)
    replace Ot_10 := Lib.hid (Go.Proofs.Ytpaakpbbahbhcaa.GoV.nest_below Ot_10.out bt_22)
    clear bt_22
    replace H := bind4_hid H
    obtain ⟨t_25a, t_25b, t_25c, t_25d, qt_25, H⟩ := H
    go_wp2_with fail
    go_at_call 41
    refine (Go.Proofs.Ytpaakpbbahbhcaa.GiStrongestPair.C (t_22) At_22 ct_22 _   (Lib.hid (Go.Proofs.Ytpaakpbbahbhcaa.GoV.nest_read Ot_22.out)) (Lib.hid (Go.Proofs.Ytpaakpbbahbhcaa.GoV.nest_max Ot_22.out)) (Lib.hid (Go.Proofs.Ytpaakpbbahbhcaa.GoV.nest_room Ot_22.out)) qt_25).mono ?_
    rintro e_t_25 wt_25 ⟨rfl, bt_25⟩
    have HBwt_25 := Lib.hid (Below.step HBwt_22.out bt_25)
    replace Ot_10 := Lib.hid (Go.Proofs.Ytpaakpbbahbhcaa.GoV.nest_below Ot_10.out bt_25)
    replace Ot_22 := Lib.hid (Go.Proofs.Ytpaakpbbahbhcaa.GoV.nest_below Ot_22.out bt_25)
    clear bt_25
    replace H := let_hid H
    obtain ⟨t_37, ht_37, H⟩ := H
    replace H := join_hid H
    cases t_37 with
    | false =>
      replace H := ite_f H
      replace H := let_hid H
      obtain ⟨t_41, ht_41, H⟩ := H
      replace H := app_hid H
      replace H := join_hid H
      cases t_41 with
      | false =>
        replace H := ite_f H
        replace H := let_hid H
        obtain ⟨t_46, ht_46, H⟩ := H
        replace H := app_hid H
        replace H := join_hid H
        cases t_46 with
        | false =>
          replace H := ite_f H
          replace H := let_hid H
          obtain ⟨t_51, ht_51, H⟩ := H
          replace H := app_hid H
          cases t_51 with
          | false =>
            replace H := ite_f H
            replace H := bind_hid H
            obtain ⟨t_56, qt_56, H⟩ := H
            go_wp2_with fail
            go_at_call 31
            refine (Go.Proofs.Ytpaakpbbahbhcaa.GlToSightingS.C (aList) A0 c0 _   (Lib.hid (Go.Proofs.Ytpaakpbbahbhcaa.GoV.read_below M0.out HBwt_25.out)) N0 qt_56).mono ?_
            rintro e_t_56 wt_56 ⟨At_56, ct_56, rfl, ⟨Bt_56, ot_56⟩, bt_56⟩
            have Dt_56_t_10 := Lib.hid (Go.Proofs.Ytpaakpbbahbhcaa.GoV.lts_apart (Go.Proofs.Ytpaakpbbahbhcaa.GoV.nest_lt ot_56) (Go.Proofs.Ytpaakpbbahbhcaa.GoV.nest_lt Ot_10.out))
            have Dt_56_t_22 := Lib.hid (Go.Proofs.Ytpaakpbbahbhcaa.GoV.lts_apart (Go.Proofs.Ytpaakpbbahbhcaa.GoV.nest_lt ot_56) (Go.Proofs.Ytpaakpbbahbhcaa.GoV.nest_lt Ot_22.out))
            have Ot_56 := Lib.hid (Go.Proofs.Ytpaakpbbahbhcaa.GoV.nest_lower ot_56 HBwt_25.out.size)
            clear ot_56
            have HBwt_56 := Lib.hid (Below.step HBwt_25.out bt_56)
            replace Ot_10 := Lib.hid (Go.Proofs.Ytpaakpbbahbhcaa.GoV.nest_below Ot_10.out bt_56)
            replace Ot_22 := Lib.hid (Go.Proofs.Ytpaakpbbahbhcaa.GoV.nest_below Ot_22.out bt_56)
            clear bt_56
            replace H := bind_hid H
            obtain ⟨t_57, qt_57, H⟩ := H
            go_wp2_with fail
            go_at_call 32
            refine (Go.Proofs.Ytpaakpbbahbhcaa.GlEqSightingS.C (t_22) (t_56) At_22 ct_22 At_56 ct_56 _   (Lib.hid (Go.Proofs.Ytpaakpbbahbhcaa.GoV.nest_read Ot_22.out)) (Lib.hid (Go.Proofs.Ytpaakpbbahbhcaa.GoV.nest_max Ot_22.out)) (Lib.hid (Go.Proofs.Ytpaakpbbahbhcaa.GoV.nest_read Ot_56.out)) (Lib.hid (Go.Proofs.Ytpaakpbbahbhcaa.GoV.nest_max Ot_56.out)) qt_57).mono ?_
            rintro e_t_57 wt_57 ⟨rfl, bt_57⟩
            have HBwt_57 := Lib.hid (Below.step HBwt_56.out bt_57)
            replace Ot_10 := Lib.hid (Go.Proofs.Ytpaakpbbahbhcaa.GoV.nest_below Ot_10.out bt_57)
            replace Ot_22 := Lib.hid (Go.Proofs.Ytpaakpbbahbhcaa.GoV.nest_below Ot_22.out bt_57)
            replace Ot_56 := Lib.hid (Go.Proofs.Ytpaakpbbahbhcaa.GoV.nest_below Ot_56.out bt_57)
            clear bt_57
            cases t_57 with
            | false =>
              replace H := let_hid H
              obtain ⟨t_58, ht_58, H⟩ := H
              obtain rfl : t_58 = true := ht_58.symm
              replace H := ite_t H
              obtain rfl := ret_hid H
              go_wp2_with fail
              go_ret
              exact ⟨rfl, HBwt_57.out⟩
            | true =>
              replace H := let_hid H
              obtain ⟨t_58, ht_58, H⟩ := H
              obtain rfl : t_58 = false := ht_58.symm
              replace H := ite_f H
              obtain rfl := ret_hid H
              go_wp2_with fail
              go_ret
              exact ⟨rfl, HBwt_57.out⟩
          | true =>
            replace H := ite_t H
            obtain rfl := ret_hid H
            go_wp2_with fail
            go_ret
            exact ⟨rfl, HBwt_25.out⟩
        | true =>
          replace H := ite_t H
          replace H := app_hid H
          replace H := ite_t H
          obtain rfl := ret_hid H
          go_wp2_with fail
          go_ret
          exact ⟨rfl, HBwt_25.out⟩
      | true =>
        replace H := ite_t H
        replace H := app_hid H
        replace H := join_hid H
        replace H := ite_t H
        replace H := app_hid H
        replace H := ite_t H
        obtain rfl := ret_hid H
        go_wp2_with fail
        go_ret
        exact ⟨rfl, HBwt_25.out⟩
    | true =>
      replace H := ite_t H
      replace H := app_hid H
      replace H := join_hid H
      replace H := ite_t H
      replace H := app_hid H
      replace H := join_hid H
      replace H := ite_t H
      replace H := app_hid H
      replace H := ite_t H
      obtain rfl := ret_hid H
      go_wp2_with fail
      go_ret
      exact ⟨rfl, HBwt_25.out⟩
  | true =>
    replace H := ite_t H
    obtain rfl := ret_hid H
    go_wp2_with fail
    go_ret
    exact ⟨rfl, HBwt_4.out⟩
end Go.Proofs.Ytpaakpbbahbhcaa.GlFnExactStrongestPair

/- Chapter 13: censuses: the plain functions of the program and of the reference agree, and the laws answer true. (Q13Pair) No condition but those of each theorem. -/
namespace Go.Proofs.Ytpaakpbbahbhcaa.Q13Pair
set_option linter.unusedVariables false
set_option linter.unusedSimpArgs false
open Go.RowKit
open Go.Proofs.Ytpaakpbbahbhcaa.GoP Go.Proofs.Ytpaakpbbahbhcaa.PlainStamp Go.Proofs.Ytpaakpbbahbhcaa.QBase Go.Proofs.Ytpaakpbbahbhcaa.Q13Ev Go.Proofs.Ytpaakpbbahbhcaa.Q13List Go.Proofs.Ytpaakpbbahbhcaa.Q13One Go.Proofs.Ytpaakpbbahbhcaa.QUp Go.Proofs.Ytpaakpbbahbhcaa.QLoop Go.Proofs.Ytpaakpbbahbhcaa.PSighting

def upd (x : Sighting) (s : Int × Int × Int) (y : Sighting) : Int × Int × Int := if s.2.2 < ev x y then (x.id, y.id, ev x y) else s
def rowP (x : Sighting) : List Sighting → Int × Int × Int → Int × Int × Int
  | [], s => s
  | y :: ys, s => rowP x ys (upd x s y)
def goP : List Sighting → Int × Int × Int → Int × Int × Int
  | [], s => s
  | x :: xs, s => goP xs (rowP x xs s)
theorem drop_at {α : Type} {l : List α} {k : Nat} {x : α} (h : l[k]? = some x) : l.drop k = x :: l.drop (k + 1) := by
  obtain ⟨hk, e⟩ := List.getElem?_eq_some_iff.1 h
  rw [List.drop_eq_getElem_cons hk, e]
def pairOf (l : List Sighting) : Int × Int × Int × Bool := if okSis l = true ∧ 2 ≤ l.length then ((goP l (0, 0, -30)).1, (goP l (0, 0, -30)).2.1, (goP l (0, 0, -30)).2.2, true) else (0, 0, 0, false)
theorem start_eq {l : List Sighting} (hk : okSis l = true) (h2 : 2 ≤ l.length) : goP l (0, 0, -99) = goP l (0, 0, -30) := by
  match l, hk, h2 with
  | x :: y :: t, hk, _ =>
    have hx := (okSi_of (okSis_at hk (List.mem_cons_self))).2.2.2.1
    have hy := (okSi_of (okSis_at hk (List.mem_cons_of_mem _ List.mem_cons_self))).2.2.2.1
    have he := ev_ge hx hy
    have e : upd x (0, 0, -99) y = upd x (0, 0, -30) y := by
      unfold upd
      rw [if_pos (by show (-99 : Int) < _; omega), if_pos (by show (-30 : Int) < _; omega)]
    simp only [goP, rowP, e]
theorem pair_impl (l : List Sighting) : GiStrongestPair.P l = some (pairOf l) := by
  simp only [GiStrongestPair.P, areSightings_eq, Option.bind_some, letK, joinK, appK, iteK_if]
  unfold pairOf
  cases hk : okSis l with
  | false => simp
  | true =>
    by_cases h2 : 2 ≤ l.length
    · have hn := okSis_len hk
      rw [if_neg (by simp), if_neg (by simp; omega), if_pos ⟨rfl, h2⟩]
      refine cnt_is _ (fun k (s : Int × Int × Int) => goP (l.drop k) s = goP l (0, 0, -30)) ?_ ?_ _ rfl
      · intro k s nx hlt hI hnx
        obtain ⟨x, hx, hi⟩ := at_lt (l := l) (k := k) hlt
        have w1 := wrap_in (x := (k : Int) + 1) (by omega) (by omega)
        obtain ⟨s1, s2, s3⟩ := s
        simp only [GiStrongestPair.l0, unp3, hi, Option.bind_some, unSighting, letK, w1]
        rw [guardK_pos (by omega), show Int.toNat ((k : Int) + 1) = k + 1 by omega]
        rw [drop_at hx] at hI
        simp only [goP] at hI
        have hxs := (okSi_of (okSis_at hk (List.mem_of_getElem? hx))).2.2.2.1
        refine cnt_is _ (fun j (s : Int × Int × Int) => rowP x ((l.drop (k + 1)).drop j) s = rowP x (l.drop (k + 1)) (s1, s2, s3)) ?_ ?_ _ rfl
        · intro j s nx' hj hJ hn'
          obtain ⟨y, hy, hyi⟩ := at_lt (l := l.drop (k + 1)) (k := j) hj
          have hys := (okSi_of (okSis_at hk (List.mem_of_mem_drop (List.mem_of_getElem? hy)))).2.2.2.1
          obtain ⟨t1, t2, t3⟩ := s
          simp only [GiStrongestPair.l1, unp3, hyi, Option.bind_some, unSighting, evidence_eq x y (by omega) (by omega), letK, appK, iteK_if]
          rw [drop_at hy] at hJ
          simp only [rowP] at hJ
          by_cases hlt2 : t3 < ev x y
          · rw [if_pos (by simpa using hlt2)]
            refine hn' _ ?_
            rw [← hJ]; unfold upd; rw [if_pos hlt2]
          · rw [if_neg (by simpa using hlt2)]
            refine hn' _ ?_
            rw [← hJ]; unfold upd; rw [if_neg hlt2]
        · intro s hJ
          rw [List.drop_of_length_le (Nat.le_refl _)] at hJ
          obtain ⟨t1, t2, t3⟩ := s
          simp only [GiStrongestPair.e1, unp3, appK]
          refine hnx _ ?_
          simp only [rowP] at hJ
          rw [hJ]; exact hI
      · intro s hI
        rw [List.drop_of_length_le (Nat.le_refl _)] at hI
        obtain ⟨t1, t2, t3⟩ := s
        simp only [goP] at hI
        simp only [GiStrongestPair.e0, unp3, ← hI]
    · rw [if_neg (by simp), if_pos (by simp; omega), if_neg (by omega)]
theorem pair_spec (l : List Sighting) (hf : ∀ s ∈ l, sz13 s) (hl : l.length ≤ 9223372036854775807) (fuel : Nat) (hfu : 2000 ≤ fuel) : GsStrongestPair.P fuel l = some (pairOf l) := by
  simp only [GsStrongestPair.P, l13Good_eq l hf hl, Option.bind_some, letK, joinK, appK, iteK_if]
  unfold pairOf
  cases hk : okSis l with
  | false => simp
  | true =>
    by_cases h2 : 2 ≤ l.length
    · have hn := okSis_len hk
      rw [if_neg (by simp), if_neg (by simp; omega), if_pos ⟨rfl, h2⟩, ← start_eq hk h2]
      refine cnt_is _ (fun k (s : Int × Int × Int) => goP (l.drop k) s = goP l (0, 0, -99)) ?_ ?_ _ rfl
      · intro k s nx hlt hI hnx
        obtain ⟨x, hx, hi⟩ := at_lt (l := l) (k := k) hlt
        have w1 := wrap_in (x := (k : Int) + 1) (by omega) (by omega)
        obtain ⟨s1, s2, s3⟩ := s
        simp only [GsStrongestPair.l0, unp3, letK, w1]
        rw [drop_at hx] at hI
        simp only [goP] at hI
        have hxs := (okSi_of (okSis_at hk (List.mem_of_getElem? hx))).2.2.2.1
        refine lp_is (n := l.length - (k + 1)) _ (fun j (s : Int × Int × Int × Int) => s.2.2.2 = ((k + 1 + j : Nat) : Int) ∧ rowP x (l.drop (k + 1 + j)) (s.1, s.2.1, s.2.2.1) = rowP x (l.drop (k + 1)) (s1, s2, s3)) ?_ ?_ fuel 0 _ (by omega) (by omega) ⟨by show ((k : Int) + 1) = _; omega, rfl⟩
        · rintro j ⟨t1, t2, t3, t4⟩ nx' hj ⟨hJ1, hJ⟩ hn'
          dsimp only at hJ1 hJ
          subst hJ1
          obtain ⟨y, hy, hyi⟩ := at_lt (l := l) (k := k + 1 + j) (by omega)
          have hys := (okSi_of (okSis_at hk (List.mem_of_getElem? hy))).2.2.2.1
          have w2 := wrap_in (x := ((k + 1 + j : Nat) : Int) + 1) (by omega) (by omega)
          simp only [GsStrongestPair.l1, unp4, hi, hyi, Option.bind_some, unSighting, l13Evidence_eq x y (by omega) (by omega) fuel hfu, letK, appK, iteK_if, w2]
          rw [if_pos (by simp; omega)]
          rw [drop_at hy] at hJ
          simp only [rowP] at hJ
          by_cases hlt2 : t3 < ev x y
          · rw [if_pos (by simpa using hlt2)]
            refine hn' _ ⟨by dsimp only; omega, ?_⟩
            rw [← hJ]; unfold upd; rw [if_pos hlt2]; rfl
          · rw [if_neg (by simpa using hlt2)]
            refine hn' _ ⟨by dsimp only; omega, ?_⟩
            rw [← hJ]; unfold upd; rw [if_neg hlt2]; rfl
        · rintro ⟨t1, t2, t3, t4⟩ nx' ⟨hJ1, hJ⟩
          dsimp only at hJ1 hJ
          subst hJ1
          simp only [GsStrongestPair.l1, unp4, letK, appK, iteK_if]
          rw [if_neg (by simp; omega)]
          rw [List.drop_of_length_le (by omega)] at hJ
          simp only [rowP] at hJ
          simp only [GsStrongestPair.e1, unp4, appK]
          refine hnx _ ?_
          rw [hJ]; exact hI
      · intro s hI
        rw [List.drop_of_length_le (Nat.le_refl _)] at hI
        obtain ⟨t1, t2, t3⟩ := s
        simp only [goP] at hI
        simp only [GsStrongestPair.e0, unp3, ← hI]
    · rw [if_neg (by simp), if_pos (by simp; omega), if_neg (by omega)]
end Go.Proofs.Ytpaakpbbahbhcaa.Q13Pair

/- Chapter 13: censuses: the plain functions of the program and of the reference agree, and the laws answer true. (QL13Pair) No condition but those of each theorem. -/
namespace Go.Proofs.Ytpaakpbbahbhcaa.QL13Pair
set_option linter.unusedVariables false
set_option linter.unusedSimpArgs false
open Go.RowKit
open Go.Proofs.Ytpaakpbbahbhcaa.GoP Go.Proofs.Ytpaakpbbahbhcaa.PlainStamp Go.Proofs.Ytpaakpbbahbhcaa.QBase Go.Proofs.Ytpaakpbbahbhcaa.Q13Pair Go.Proofs.Ytpaakpbbahbhcaa.Q13One Go.Proofs.Ytpaakpbbahbhcaa.QF13 Go.Proofs.Ytpaakpbbahbhcaa.QLoop Go.Proofs.Ytpaakpbbahbhcaa.PSighting Go.Proofs.Ytpaakpbbahbhcaa.QHVSightingE

theorem law_strongestPair (fuel : Nat) (hfu : 2000 ≤ fuel) (l : List Sighting) (hF : ∀ s ∈ l, Go.Proofs.Ytpaakpbbahbhcaa.OVSighting.Fits s) (hl : l.length ≤ 9223372036854775807) : GlFnExactStrongestPair.P fuel l = some true := by
  have hf : ∀ s ∈ l, sz13 s := fun s hs => fits_sz (hF s hs)
  obtain ⟨v, hv, hn⟩ := szS l hf hl
  simp only [GlFnExactStrongestPair.P, hv, Option.bind_some, letK, iteK_if]
  by_cases hb : v < 0
  · rw [if_pos (by simpa using hb)]
  · rw [if_neg (by simpa using hb)]
    obtain ⟨⟨p, q, r, t⟩, hr⟩ : ∃ x, x = pairOf l := ⟨_, rfl⟩
    simp [toS l (hn (by omega)), pair_impl, pair_spec l hf hl fuel hfu, ← hr, bind4, joinK, appK, iteK_if, eqS]
end Go.Proofs.Ytpaakpbbahbhcaa.QL13Pair

