/- Texts on which the proofs of several laws stand, one behind the other (18 of 20). No condition of their own. -/
import Derived.Test.YtpaakpbbahbhcaaChecked
import Derived.Test.YtpaakpbbahbhcaaX13P1
import Derived.WalkKit
import Derived.WalkSpells
import Derived.WalkLawsBesides
import Derived.BigQuiet
import Derived.OwnWalk
import Derived.Deep.LoopGhost
import Derived.Deep.QuietTactic
import Derived.IntWalk
import Derived.Lib.QuietBelow
import Derived.Test.YtpaakpbbahbhcaaX13P2
import Derived.Test.YtpaakpbbahbhcaaX13P5
import Derived.Test.YtpaakpbbahbhcaaX13P6
import Derived.Test.YtpaakpbbahbhcaaX13P9
import Derived.Test.YtpaakpbbahbhcaaX13P3
import Derived.Test.YtpaakpbbahbhcaaX13P8
import Derived.Test.YtpaakpbbahbhcaaX13P4
/- loop.example/g01062/spec.l1Least as a plain function, and the contract of the program's: where the plain one has an answer, the program has it. Conditions: slices read as lists. -/
namespace Go.Proofs.Ytpaakpbbahbhcaa.GsL1Least
set_option linter.unusedVariables false
set_option linter.unusedSimpArgs false
open Go.RowKit
open Go.Proofs.Ytpaakpbbahbhcaa.Rowed Go.Proofs.Ytpaakpbbahbhcaa.Turn Go.Proofs.Ytpaakpbbahbhcaa.Aid Go.Proofs.Ytpaakpbbahbhcaa.GoP Go.Proofs.Ytpaakpbbahbhcaa.GoM

def P (a : Int) (b : Int) : Option (Int) :=
  letK (decide (a < b)) fun (t_3 : Bool) =>
  iteK t_3
  (some a)
  (some b)

set_option maxRecDepth 100000 in
set_option maxHeartbeats 2000000 in
theorem C (a : Int) (b : Int)   (w : World)   {r : Int} (H : Hid (P a b = some r)) :
    Calls Try.prog 77 #[.int .i64 a, .int .i64 b] w (Gives (.int .i64 r) w) := by
  have HB := Lib.hid (Below.refl w.heap.size w)
  unfold P at H
  go_enter Try.func77, Try.ntmps77
  replace H := let_hid H
  obtain ⟨t_3, ht_3, H⟩ := H
  cases t_3 with
  | false =>
    replace H := ite_f H
    obtain rfl := ret_hid H
    go_wp2_with fail
    go_ret
    exact ⟨rfl, HB.out⟩
  | true =>
    replace H := ite_t H
    obtain rfl := ret_hid H
    go_wp2_with fail
    go_ret
    exact ⟨rfl, HB.out⟩

set_option maxRecDepth 100000 in
set_option maxHeartbeats 2000000 in
theorem C0 (a : Int) (b : Int)   (w : World)   {r : Int} (H : Hid (P a b = some r)) :
    Calls Try.prog 77 #[.int .i64 a, .int .i64 b] w (fun e w'' => e = .returned (.int .i64 r) ∧ w'' = w) := by
  have HB := Lib.hid (Below.refl w.heap.size w)
  unfold P at H
  go_enter Try.func77, Try.ntmps77
  replace H := let_hid H
  obtain ⟨t_3, ht_3, H⟩ := H
  cases t_3 with
  | false =>
    replace H := ite_f H
    obtain rfl := ret_hid H
    go_wp2_with fail
    go_ret
    exact ⟨rfl, rfl⟩
  | true =>
    replace H := ite_t H
    obtain rfl := ret_hid H
    go_wp2_with fail
    go_ret
    exact ⟨rfl, rfl⟩
end Go.Proofs.Ytpaakpbbahbhcaa.GsL1Least

/- loop.example/g01062/spec.l1Most as a plain function, and the contract of the program's: where the plain one has an answer, the program has it. Conditions: slices read as lists. -/
namespace Go.Proofs.Ytpaakpbbahbhcaa.GsL1Most
set_option linter.unusedVariables false
set_option linter.unusedSimpArgs false
open Go.RowKit
open Go.Proofs.Ytpaakpbbahbhcaa.Rowed Go.Proofs.Ytpaakpbbahbhcaa.Turn Go.Proofs.Ytpaakpbbahbhcaa.Aid Go.Proofs.Ytpaakpbbahbhcaa.GoP Go.Proofs.Ytpaakpbbahbhcaa.GoM

def P (a : Int) (b : Int) : Option (Int) :=
  letK (decide (b < a)) fun (t_3 : Bool) =>
  iteK t_3
  (some a)
  (some b)

set_option maxRecDepth 100000 in
set_option maxHeartbeats 2000000 in
theorem C (a : Int) (b : Int)   (w : World)   {r : Int} (H : Hid (P a b = some r)) :
    Calls Try.prog 78 #[.int .i64 a, .int .i64 b] w (Gives (.int .i64 r) w) := by
  have HB := Lib.hid (Below.refl w.heap.size w)
  unfold P at H
  go_enter Try.func78, Try.ntmps78
  replace H := let_hid H
  obtain ⟨t_3, ht_3, H⟩ := H
  cases t_3 with
  | false =>
    replace H := ite_f H
    obtain rfl := ret_hid H
    go_wp2_with fail
    go_ret
    exact ⟨rfl, HB.out⟩
  | true =>
    replace H := ite_t H
    obtain rfl := ret_hid H
    go_wp2_with fail
    go_ret
    exact ⟨rfl, HB.out⟩

set_option maxRecDepth 100000 in
set_option maxHeartbeats 2000000 in
theorem C0 (a : Int) (b : Int)   (w : World)   {r : Int} (H : Hid (P a b = some r)) :
    Calls Try.prog 78 #[.int .i64 a, .int .i64 b] w (fun e w'' => e = .returned (.int .i64 r) ∧ w'' = w) := by
  have HB := Lib.hid (Below.refl w.heap.size w)
  unfold P at H
  go_enter Try.func78, Try.ntmps78
  replace H := let_hid H
  obtain ⟨t_3, ht_3, H⟩ := H
  cases t_3 with
  | false =>
    replace H := ite_f H
    obtain rfl := ret_hid H
    go_wp2_with fail
    go_ret
    exact ⟨rfl, rfl⟩
  | true =>
    replace H := ite_t H
    obtain rfl := ret_hid H
    go_wp2_with fail
    go_ret
    exact ⟨rfl, rfl⟩
end Go.Proofs.Ytpaakpbbahbhcaa.GsL1Most

/- loop.example/g01062/spec.YearsSeen as a plain function, and the contract of the program's: where the plain one has an answer, the program has it. Conditions: slices read as lists. -/
namespace Go.Proofs.Ytpaakpbbahbhcaa.GsYearsSeen
set_option linter.unusedVariables false
set_option linter.unusedSimpArgs false
open Go.RowKit
open Go.Proofs.Ytpaakpbbahbhcaa.Rowed Go.Proofs.Ytpaakpbbahbhcaa.Turn Go.Proofs.Ytpaakpbbahbhcaa.Aid Go.Proofs.Ytpaakpbbahbhcaa.GoP Go.Proofs.Ytpaakpbbahbhcaa.GoM

def l0 (list : (List Go.Proofs.Ytpaakpbbahbhcaa.PSighting.Sighting)) (t_37 : (List Int)) (k0 : Nat) (s : Int × Int) (nx0 bk0 : Int × Int → Option (Int × Int × Bool)) : Option (Int × Int × Bool) :=
  unp2 s fun first_10l0 last_11l0 =>
  Option.bind (idx t_37 (k0 : Int)) fun (yt_48 : Int) =>
  Option.bind (idx list yt_48) fun (yt_50 : Go.Proofs.Ytpaakpbbahbhcaa.PSighting.Sighting) =>
  unSighting yt_50 fun (t_50_id : Int) (t_50_year : Int) (t_50_town : ByteArray) (t_50_traits : (List Int)) =>
  Option.bind (Go.Proofs.Ytpaakpbbahbhcaa.GsL1Least.P first_10l0 t_50_year) fun (t_53 : Int) =>
  Option.bind (idx t_37 (k0 : Int)) fun (yt_59 : Int) =>
  Option.bind (idx list yt_59) fun (yt_61 : Go.Proofs.Ytpaakpbbahbhcaa.PSighting.Sighting) =>
  unSighting yt_61 fun (t_61_id : Int) (t_61_year : Int) (t_61_town : ByteArray) (t_61_traits : (List Int)) =>
  Option.bind (Go.Proofs.Ytpaakpbbahbhcaa.GsL1Most.P last_11l0 t_61_year) fun (t_64 : Int) =>
  appK nx0 (t_53, t_64)

def e0  (s : Int × Int) : Option (Int × Int × Bool) :=
  unp2 s fun first_10l0 last_11l0 =>
  some (first_10l0, last_11l0, true)

def P (fuel : Nat) (list : (List Go.Proofs.Ytpaakpbbahbhcaa.PSighting.Sighting)) (limit : Int) (id : Int) : Option (Int × Int × Bool) :=
  Option.bind (Go.Proofs.Ytpaakpbbahbhcaa.GsL13Find.P list id) fun (t_5 : Int) =>
  Option.bind (Go.Proofs.Ytpaakpbbahbhcaa.GsL13Good.P list) fun (t_8 : Bool) =>
  letK (!t_8) fun (t_9 : Bool) =>
  joinK (fun (t_14 : Bool) =>
  joinK (fun (t_18 : Bool) =>
  iteK t_18
  (some (0, 0, false))
  (Option.bind (idx list t_5) fun (yt_24 : Go.Proofs.Ytpaakpbbahbhcaa.PSighting.Sighting) =>
  unSighting yt_24 fun (t_24_id : Int) (t_24_year : Int) (t_24_town : ByteArray) (t_24_traits : (List Int)) =>
  Option.bind (idx list t_5) fun (yt_29 : Go.Proofs.Ytpaakpbbahbhcaa.PSighting.Sighting) =>
  unSighting yt_29 fun (t_29_id : Int) (t_29_year : Int) (t_29_town : ByteArray) (t_29_traits : (List Int)) =>
  Option.bind (Go.Proofs.Ytpaakpbbahbhcaa.GsL13Cover.P fuel list limit t_5) fun (t_37 : (List Int)) =>
  cntK (l0 list t_37) (t_37.length) 0 (t_24_year, t_29_year) (e0 ))) fun jt_18 => iteK t_14 (appK jt_18 true) (letK (decide (t_5 < 0)) fun (t_17 : Bool) =>
  appK jt_18 t_17)) fun jt_14 => iteK t_9 (appK jt_14 true) (Option.bind (Go.Proofs.Ytpaakpbbahbhcaa.GsL13Limit.P limit) fun (t_12 : Bool) =>
  letK (!t_12) fun (t_13 : Bool) =>
  appK jt_14 t_13)

set_option maxRecDepth 100000 in
set_option maxHeartbeats 2000000 in
theorem C (fuel : Nat) (list : (List Go.Proofs.Ytpaakpbbahbhcaa.PSighting.Sighting)) (limit : Int) (id : Int) (A0 : Option Addr) (c0 : Nat)  (w : World) (M0 : Hid (Go.Proofs.Ytpaakpbbahbhcaa.GoV.ReadNest w Go.Proofs.Ytpaakpbbahbhcaa.GoVSighting.lay A0 list)) (N0 : Hid (list.length ≤ 9223372036854775807))  {r0 : Int} {r1 : Int} {r2 : Bool} (H : Hid (P fuel list limit id = some (r0, r1, r2))) :
    Calls Try.prog 46 #[.slice A0 list.length c0, .int .i64 limit, .int .i64 id] w (Gives (.tuple #[.int .i64 r0, .int .i64 r1, .bool r2]) w) := by
  have HB := Lib.hid (Below.refl w.heap.size w)
  unfold P at H
  have N0o := N0.out
  go_enter Try.func46, Try.ntmps46
  replace H := bind_hid H
  obtain ⟨t_5, qt_5, H⟩ := H
  go_wp2_with fail
  go_at_call 55
  refine (Go.Proofs.Ytpaakpbbahbhcaa.GsL13Find.C (list) (id) A0 c0 _   (Lib.hid (Go.Proofs.Ytpaakpbbahbhcaa.GoV.read_below M0.out HB.out)) N0 qt_5).mono ?_
  rintro e_t_5 wt_5 ⟨rfl, bt_5⟩
  have HBwt_5 := Lib.hid (Below.step HB.out bt_5)
  clear bt_5
  replace H := bind_hid H
  obtain ⟨t_8, qt_8, H⟩ := H
  go_wp2_with fail
  go_at_call 56
  refine (Go.Proofs.Ytpaakpbbahbhcaa.GsL13Good.C (list) A0 c0 _   (Lib.hid (Go.Proofs.Ytpaakpbbahbhcaa.GoV.read_below M0.out HBwt_5.out)) N0 qt_8).mono ?_
  rintro e_t_8 wt_8 ⟨rfl, bt_8⟩
  have HBwt_8 := Lib.hid (Below.step HBwt_5.out bt_8)
  clear bt_8
  cases t_8 with
  | false =>
    replace H := let_hid H
    obtain ⟨t_9, ht_9, H⟩ := H
    obtain rfl : t_9 = true := ht_9.symm
    replace H := join_hid H
    replace H := ite_t H
    replace H := app_hid H
    replace H := join_hid H
    replace H := ite_t H
    replace H := app_hid H
    replace H := ite_t H
    cases ret_hid H
    go_wp2_with fail
    go_ret3
    exact ⟨rfl, HBwt_8.out⟩
  | true =>
    replace H := let_hid H
    obtain ⟨t_9, ht_9, H⟩ := H
    obtain rfl : t_9 = false := ht_9.symm
    replace H := join_hid H
    replace H := ite_f H
    replace H := bind_hid H
    obtain ⟨t_12, qt_12, H⟩ := H
    go_wp2_with fail
    go_at_call 65
    refine (Go.Proofs.Ytpaakpbbahbhcaa.GsL13Limit.C (limit)  _    qt_12).mono ?_
    rintro e_t_12 wt_12 ⟨rfl, bt_12⟩
    have HBwt_12 := Lib.hid (Below.step HBwt_8.out bt_12)
    clear bt_12
    cases t_12 with
    | false =>
      replace H := let_hid H
      obtain ⟨t_13, ht_13, H⟩ := H
      obtain rfl : t_13 = true := ht_13.symm
      replace H := app_hid H
      replace H := join_hid H
      replace H := ite_t H
      replace H := app_hid H
      replace H := ite_t H
      cases ret_hid H
      go_wp2_with fail
      go_ret3
      exact ⟨rfl, HBwt_12.out⟩
    | true =>
      replace H := let_hid H
      obtain ⟨t_13, ht_13, H⟩ := H
      obtain rfl : t_13 = false := ht_13.symm
      replace H := app_hid H
      replace H := join_hid H
      replace H := ite_f H
      replace H := let_hid H
      obtain ⟨t_17, ht_17, H⟩ := H
      replace H := app_hid H
      cases t_17 with
      | false =>
        replace H := ite_f H
        go_wp2_with fail
        replace H := idx_hid H
        obtain ⟨nt_24, yt_24, et_24, lt_24, gt_24, H⟩ := H
        subst et_24
        have nc_267 : ¬ (nt_24 < 0) := by have := of_decide_eq_false ht_17; omega
        obtain ⟨t_24_id, t_24_year, t_24_town, t_24_traits⟩ := yt_24
        replace H := unSighting_hid H
        obtain ⟨bbt_24, oot_24, zt_24, Art_24, crt_24, eAt_24, zzt_24, hKt_24, hrt_24, hqt_24, hnt_24⟩ := Go.Proofs.Ytpaakpbbahbhcaa.GoV.nest_at M0.out (k := nt_24) lt_24
        obtain rfl := Option.some.inj (gt_24.out.symm.trans zzt_24)
        clear zzt_24
        subst eAt_24
        have hct_24_0 : w.cell? ⟨bbt_24, oot_24 + nt_24 * 4, none⟩ = some (.int .i64 t_24_id) := hKt_24 0 _ rfl
        have hct_24_1 : w.cell? ⟨bbt_24, oot_24 + nt_24 * 4 + 1, none⟩ = some (.int .i64 t_24_year) := hKt_24 1 _ rfl
        have hct_24_2 : w.cell? ⟨bbt_24, oot_24 + nt_24 * 4 + 2, none⟩ = some (.string t_24_town) := hKt_24 2 _ rfl
        have hct_24_3 : w.cell? ⟨bbt_24, oot_24 + nt_24 * 4 + 3, none⟩ = some (.slice Art_24 t_24_traits.length crt_24) := hKt_24 3 _ rfl
        clear hKt_24
        have ltt_24 := cell_lt hct_24_0
        replace hct_24_0 := cell_below HBwt_12.out hct_24_0
        replace hct_24_1 := cell_below HBwt_12.out hct_24_1
        replace hct_24_2 := cell_below HBwt_12.out hct_24_2
        replace hct_24_3 := cell_below HBwt_12.out hct_24_3
        have Mrt_24 := Lib.hid hrt_24
        have Qrt_24 := Lib.hid hqt_24
        have Nrt_24 := Lib.hid hnt_24
        clear hrt_24 hqt_24 hnt_24
        have b0t_24 : (0 : Int) ≤ (nt_24 : Int) := by omega
        have b1t_24 : (nt_24 : Int) < ((list.length : Nat) : Int) := by omega
        have b2t_24 : ((nt_24 : Int)).toNat = nt_24 := by omega
        have Hhct_24_0 := Lib.hid hct_24_0
        replace hct_24_0 := cell_regrown hct_24_0
        have Hhct_24_1 := Lib.hid hct_24_1
        replace hct_24_1 := cell_regrown hct_24_1
        have Hhct_24_2 := Lib.hid hct_24_2
        replace hct_24_2 := cell_regrown hct_24_2
        have Hhct_24_3 := Lib.hid hct_24_3
        replace hct_24_3 := cell_regrown hct_24_3
        replace H := idx_hid H
        obtain ⟨nt_29, yt_29, et_29, lt_29, gt_29, H⟩ := H
        obtain rfl : nt_24 = nt_29 := by omega
        clear et_29
        obtain rfl := Option.some.inj (gt_24.out.symm.trans gt_29.out)
        clear gt_29 lt_29
        replace H := unSighting_hid H
        refine wp_region_quiet_below (by kernel_rfl) (by kernel_rfl) ?_
        repeat (go_big_quiet_step (fail))
        refine wpQuiet_nil ?_
        intro Y4 hY4
        replace hY4 := below_class hY4
        replace hct_24_0 := Hhct_24_0.out
        clear Hhct_24_0
        replace hct_24_1 := Hhct_24_1.out
        clear Hhct_24_1
        replace hct_24_2 := Hhct_24_2.out
        clear Hhct_24_2
        replace hct_24_3 := Hhct_24_3.out
        clear Hhct_24_3
        have HBY4 := Lib.hid (Below.step HBwt_12.out hY4)
        replace hct_24_0 := cell_below hY4 hct_24_0
        replace hct_24_1 := cell_below hY4 hct_24_1
        replace hct_24_2 := cell_below hY4 hct_24_2
        replace hct_24_3 := cell_below hY4 hct_24_3
        clear hY4
        replace H := bind_hid H
        obtain ⟨t_37, qt_37, H⟩ := H
        go_wp2_with fail
        go_at_call 58
        refine (Go.Proofs.Ytpaakpbbahbhcaa.GsL13Cover.C fuel (list) (limit) ((nt_24 : Int)) (some ⟨bbt_24, oot_24, none⟩) c0 _   (Lib.hid (Go.Proofs.Ytpaakpbbahbhcaa.GoV.read_below M0.out HBY4.out)) N0 qt_37).mono ?_
        rintro e_t_37 wt_37 ⟨At_37, ct_37, rfl, ot_37, bt_37⟩
        have Ot_37 := Lib.hid (own_lower ot_37 HBY4.out.size)
        clear ot_37
        have HBwt_37 := Lib.hid (Below.step HBY4.out bt_37)
        replace hct_24_0 := cell_below bt_37 hct_24_0
        replace hct_24_1 := cell_below bt_37 hct_24_1
        replace hct_24_2 := cell_below bt_37 hct_24_2
        replace hct_24_3 := cell_below bt_37 hct_24_3
        clear bt_37
        have hb_0 : t_37.length ≤ 9223372036854775807 := own_max Ot_37.out
        go_wp2_with fail
        go_loopg [13, 10, 11] (t_37.length) (fun m_ v13_ v10_ v11_ wr => ∃ (k0 : Nat) (first_10l0 : Int) (last_11l0 : Int), k0 + m_ = t_37.length ∧ v13_ = .int .i64 (k0 : Int) ∧ v10_ = .int .i64 first_10l0 ∧ v11_ = .int .i64 last_11l0 ∧ Hid (cntK (l0 list t_37) m_ k0 (first_10l0, last_11l0) (e0 ) = some (r0, r1, r2)) ∧ Hid (Below w.heap.size w wr) ∧ Hid (wr.ownsRow w.heap.size 3 1 (.slice At_37 t_37.length ct_37) t_37.length (Go.Proofs.Ytpaakpbbahbhcaa.HelpInt.iv t_37)))
        case atStart => exact ⟨0, _, _, by omega, rfl, rfl, rfl, H, HBwt_37, Ot_37⟩
        case round =>
          obtain ⟨k0, first_10l0, last_11l0, hkm0, rfl, rfl, rfl, H, HBwr0, Ot_37⟩ := hrel
          rename World => wr0
          cases gk with
          | zero =>
            obtain rfl : k0 = t_37.length := by omega
            have hc0 : decide (((t_37.length : Nat) : Int) < ((t_37.length : Nat) : Int)) = false := by simp
            replace H := cnt_zero H
            unfold e0 at H
            replace H := unp2_hid H
            cases ret_hid H
            go_wp2_with fail
            go_ret3
            exact ⟨rfl, HBwr0.out⟩
          | succ m0 =>
            have hlt0 : k0 < t_37.length := by omega
            have hc0 : decide ((k0 : Int) < ((t_37.length : Nat) : Int)) = true := by simp; omega
            replace H := cnt_succ H
            unfold l0 at H
            replace H := unp2_hid H
            replace H := idx_hid H
            obtain ⟨nt_48, yt_48, et_48, lt_48, gt_48, H⟩ := H
            obtain rfl : k0 = nt_48 := by omega
            clear et_48
            obtain ⟨qt_48, Qt_48⟩ := own_some Ot_37.out (by omega)
            subst Qt_48
            obtain ⟨ab_t_48, ao_t_48, zt_48, At_48, z_t_48, ct_48_0⟩ := Go.Proofs.Ytpaakpbbahbhcaa.HelpInt.Ints.at_ (own_cells Ot_37.out) (k := k0) (by omega)
            obtain rfl := Option.some.inj (gt_48.out.symm.trans z_t_48)
            simp only [Option.some.injEq, Addr.mk.injEq] at At_48
            obtain ⟨rfl, rfl, _⟩ := At_48
            clear z_t_48
            simp only [Nat.zero_add] at ct_48_0
            have b0t_48 : (0 : Int) ≤ (k0 : Int) := by omega
            have b1t_48 : (k0 : Int) < ((t_37.length : Nat) : Int) := by omega
            have b2t_48 : ((k0 : Int)).toNat = k0 := by omega
            replace H := idx_hid H
            obtain ⟨nt_50, yt_50, et_50, lt_50, gt_50, H⟩ := H
            subst et_50
            obtain ⟨t_50_id, t_50_year, t_50_town, t_50_traits⟩ := yt_50
            replace H := unSighting_hid H
            obtain ⟨bbt_50, oot_50, zt_50, Art_50, crt_50, eAt_50, zzt_50, hKt_50, hrt_50, hqt_50, hnt_50⟩ := Go.Proofs.Ytpaakpbbahbhcaa.GoV.nest_at M0.out (k := nt_50) lt_50
            obtain rfl := Option.some.inj (gt_50.out.symm.trans zzt_50)
            clear zzt_50
            simp only [Option.some.injEq, Addr.mk.injEq] at eAt_50
            obtain ⟨rfl, rfl, _⟩ := eAt_50
            have hct_50_0 : w.cell? ⟨bbt_24, oot_24 + nt_50 * 4, none⟩ = some (.int .i64 t_50_id) := hKt_50 0 _ rfl
            have hct_50_1 : w.cell? ⟨bbt_24, oot_24 + nt_50 * 4 + 1, none⟩ = some (.int .i64 t_50_year) := hKt_50 1 _ rfl
            have hct_50_2 : w.cell? ⟨bbt_24, oot_24 + nt_50 * 4 + 2, none⟩ = some (.string t_50_town) := hKt_50 2 _ rfl
            have hct_50_3 : w.cell? ⟨bbt_24, oot_24 + nt_50 * 4 + 3, none⟩ = some (.slice Art_50 t_50_traits.length crt_50) := hKt_50 3 _ rfl
            clear hKt_50
            have ltt_50 := cell_lt hct_50_0
            replace hct_50_0 := cell_below HBwr0.out hct_50_0
            replace hct_50_1 := cell_below HBwr0.out hct_50_1
            replace hct_50_2 := cell_below HBwr0.out hct_50_2
            replace hct_50_3 := cell_below HBwr0.out hct_50_3
            have Mrt_50 := Lib.hid hrt_50
            have Qrt_50 := Lib.hid hqt_50
            have Nrt_50 := Lib.hid hnt_50
            clear hrt_50 hqt_50 hnt_50
            have b0t_50 : (0 : Int) ≤ (nt_50 : Int) := by omega
            have b1t_50 : (nt_50 : Int) < ((list.length : Nat) : Int) := by omega
            have b2t_50 : ((nt_50 : Int)).toNat = nt_50 := by omega
            replace H := bind_hid H
            obtain ⟨t_53, qt_53, H⟩ := H
            go_wp2_with fail
            go_at_call 77
            refine (Go.Proofs.Ytpaakpbbahbhcaa.GsL1Least.C (first_10l0) (t_50_year)  _    qt_53).mono ?_
            rintro e_t_53 wt_53 ⟨rfl, bt_53⟩
            have HBwt_53 := Lib.hid (Below.step HBwr0.out bt_53)
            replace ct_48_0 := cell_below bt_53 ct_48_0
            replace hct_50_0 := cell_below bt_53 hct_50_0
            replace hct_50_1 := cell_below bt_53 hct_50_1
            replace hct_50_2 := cell_below bt_53 hct_50_2
            replace hct_50_3 := cell_below bt_53 hct_50_3
            replace Ot_37 := Lib.hid (own_below Ot_37.out bt_53)
            clear bt_53
            replace H := idx_hid H
            obtain ⟨nt_59, yt_59, et_59, lt_59, gt_59, H⟩ := H
            obtain rfl : k0 = nt_59 := by omega
            clear et_59
            obtain rfl := Option.some.inj (gt_48.out.symm.trans gt_59.out)
            clear gt_59 lt_59
            replace H := idx_hid H
            obtain ⟨nt_61, yt_61, et_61, lt_61, gt_61, H⟩ := H
            obtain rfl : nt_50 = nt_61 := by omega
            clear et_61
            obtain rfl := Option.some.inj (gt_50.out.symm.trans gt_61.out)
            clear gt_61 lt_61
            replace H := unSighting_hid H
            replace H := bind_hid H
            obtain ⟨t_64, qt_64, H⟩ := H
            go_wp2_with fail
            go_at_call 78
            refine (Go.Proofs.Ytpaakpbbahbhcaa.GsL1Most.C (last_11l0) (t_50_year)  _    qt_64).mono ?_
            rintro e_t_64 wt_64 ⟨rfl, bt_64⟩
            have HBwt_64 := Lib.hid (Below.step HBwt_53.out bt_64)
            replace ct_48_0 := cell_below bt_64 ct_48_0
            replace hct_50_0 := cell_below bt_64 hct_50_0
            replace hct_50_1 := cell_below bt_64 hct_50_1
            replace hct_50_2 := cell_below bt_64 hct_50_2
            replace hct_50_3 := cell_below bt_64 hct_50_3
            replace Ot_37 := Lib.hid (own_below Ot_37.out bt_64)
            clear bt_64
            replace H := app_hid H
            go_wp2_with fail
            go_roundg m0
            case measure => omega
            case rel => exact ⟨k0 + 1, _, _, by omega, by go_num, rfl, rfl, H, HBwt_64, Ot_37⟩
      | true =>
        replace H := ite_t H
        cases ret_hid H
        go_wp2_with fail
        go_ret3
        exact ⟨rfl, HBwt_12.out⟩
end Go.Proofs.Ytpaakpbbahbhcaa.GsYearsSeen

/- loop.example/g01062/impl.YearsSeen as a plain function, and the contract of the program's: where the plain one has an answer, the program has it. Conditions: slices read as lists. -/
namespace Go.Proofs.Ytpaakpbbahbhcaa.GiYearsSeen
set_option linter.unusedVariables false
set_option linter.unusedSimpArgs false
open Go.RowKit
open Go.Proofs.Ytpaakpbbahbhcaa.Rowed Go.Proofs.Ytpaakpbbahbhcaa.Turn Go.Proofs.Ytpaakpbbahbhcaa.Aid Go.Proofs.Ytpaakpbbahbhcaa.GoP Go.Proofs.Ytpaakpbbahbhcaa.GoM

def l0 (t_6 : (List Go.Proofs.Ytpaakpbbahbhcaa.PSighting.Sighting)) (k0 : Nat) (s : Int × Int) (nx0 bk0 : Int × Int → Option (Int × Int × Bool)) : Option (Int × Int × Bool) :=
  unp2 s fun first_10l0 last_11l0 =>
  Option.bind (idx t_6 (k0 : Int)) fun (yt_20 : Go.Proofs.Ytpaakpbbahbhcaa.PSighting.Sighting) =>
  unSighting yt_20 fun (t_20_id : Int) (t_20_year : Int) (t_20_town : ByteArray) (t_20_traits : (List Int)) =>
  letK (min first_10l0 t_20_year) fun (t_27 : Int) =>
  letK (max last_11l0 t_20_year) fun (t_31 : Int) =>
  appK nx0 (t_27, t_31)

def e0  (s : Int × Int) : Option (Int × Int × Bool) :=
  unp2 s fun first_10l0 last_11l0 =>
  some (first_10l0, last_11l0, true)

def P (list : (List Go.Proofs.Ytpaakpbbahbhcaa.PSighting.Sighting)) (limit : Int) (id : Int) : Option (Int × Int × Bool) :=
  Option.bind (Go.Proofs.Ytpaakpbbahbhcaa.GiCoverWith.P list limit id) fun (t_6 : (List Go.Proofs.Ytpaakpbbahbhcaa.PSighting.Sighting)) =>
  letK ((t_6.length : Int) == 0) fun (t_10 : Bool) =>
  iteK t_10
  (some (0, 0, false))
  (cntK (l0 t_6) (t_6.length) 0 (2100, 1840) (e0 ))

set_option maxRecDepth 100000 in
set_option maxHeartbeats 2000000 in
theorem C (list : (List Go.Proofs.Ytpaakpbbahbhcaa.PSighting.Sighting)) (limit : Int) (id : Int) (A0 : Option Addr) (c0 : Nat)  (w : World) (M0 : Hid (Go.Proofs.Ytpaakpbbahbhcaa.GoV.ReadNest w Go.Proofs.Ytpaakpbbahbhcaa.GoVSighting.lay A0 list)) (N0 : Hid (list.length ≤ 9223372036854775807)) (Q0 : Hid (Room A0 list.length c0))  {r0 : Int} {r1 : Int} {r2 : Bool} (H : Hid (P list limit id = some (r0, r1, r2))) :
    Calls Try.prog 47 #[.slice A0 list.length c0, .int .i64 limit, .int .i64 id] w (Gives (.tuple #[.int .i64 r0, .int .i64 r1, .bool r2]) w) := by
  have HB := Lib.hid (Below.refl w.heap.size w)
  unfold P at H
  have N0o := N0.out
  go_enter Try.func47, Try.ntmps47
  replace H := bind_hid H
  obtain ⟨t_6, qt_6, H⟩ := H
  go_wp2_with fail
  go_at_call 74
  refine (Go.Proofs.Ytpaakpbbahbhcaa.GiCoverWith.C (list) (limit) (id) A0 c0 w _ (Lib.hid HB.out)   M0 N0 Q0 qt_6).mono ?_
  rintro e_t_6 wt_6 ⟨At_6, ct_6, rfl, ⟨Bt_6, ot_6⟩, bt_6⟩
  have Ot_6 := Lib.hid (Go.Proofs.Ytpaakpbbahbhcaa.GoV.part_lower ot_6 HB.out.size)
  clear ot_6
  have HBwt_6 := Lib.hid (Below.step HB.out bt_6)
  clear bt_6
  replace H := let_hid H
  obtain ⟨t_10, ht_10, H⟩ := H
  cases t_10 with
  | false =>
    have nht_10 : ¬ (t_6.length = 0) := by have := ne_of_beq_false ht_10; omega
    replace H := ite_f H
    have hb_0 : t_6.length ≤ 9223372036854775807 := Go.Proofs.Ytpaakpbbahbhcaa.GoV.part_max Ot_6.out
    go_wp2_with fail
    go_loopg [23, 10, 11] (t_6.length) (fun m_ v23_ v10_ v11_ wr => ∃ (k0 : Nat) (first_10l0 : Int) (last_11l0 : Int), k0 + m_ = t_6.length ∧ v23_ = .int .i64 (k0 : Int) ∧ v10_ = .int .i64 first_10l0 ∧ v11_ = .int .i64 last_11l0 ∧ Hid (cntK (l0 t_6) m_ k0 (first_10l0, last_11l0) (e0 ) = some (r0, r1, r2)) ∧ Hid (Below w.heap.size w wr) ∧ Hid (Go.Proofs.Ytpaakpbbahbhcaa.GoV.PartNest wr w (w.heap.size) 67 3 Go.Proofs.Ytpaakpbbahbhcaa.GoVSighting.lay (fun _ => false) At_6 ct_6 t_6 Bt_6))
    case atStart => exact ⟨0, _, _, by omega, rfl, rfl, rfl, H, HBwt_6, Ot_6⟩
    case round =>
      obtain ⟨k0, first_10l0, last_11l0, hkm0, rfl, rfl, rfl, H, HBwr0, Ot_6⟩ := hrel
      rename World => wr0
      cases gk with
      | zero =>
        obtain rfl : k0 = t_6.length := by omega
        have hc0 : decide (((t_6.length : Nat) : Int) < ((t_6.length : Nat) : Int)) = false := by simp
        replace H := cnt_zero H
        unfold e0 at H
        replace H := unp2_hid H
        cases ret_hid H
        go_wp2_with fail
        go_ret3
        exact ⟨rfl, HBwr0.out⟩
      | succ m0 =>
        have hlt0 : k0 < t_6.length := by omega
        have hc0 : decide ((k0 : Int) < ((t_6.length : Nat) : Int)) = true := by simp; omega
        replace H := cnt_succ H
        unfold l0 at H
        replace H := unp2_hid H
        replace H := idx_hid H
        obtain ⟨nt_20, yt_20, et_20, lt_20, gt_20, H⟩ := H
        obtain rfl : k0 = nt_20 := by omega
        clear et_20
        obtain ⟨t_20_id, t_20_year, t_20_town, t_20_traits⟩ := yt_20
        replace H := unSighting_hid H
        obtain ⟨gt_20_, zt_20, Art_20, crt_20, eAt_20, zzt_20, hKt_20, hrt_20, hqt_20, hnt_20⟩ := Go.Proofs.Ytpaakpbbahbhcaa.GoV.part_held Ot_6.out (k := k0) lt_20
        obtain rfl := Option.some.inj (gt_20.out.symm.trans zzt_20)
        clear zzt_20
        subst eAt_20
        have hct_20_0 : wr0.cell? ⟨gt_20_, k0 * 4, none⟩ = some (.int .i64 t_20_id) := hKt_20 0 _ rfl
        have hct_20_1 : wr0.cell? ⟨gt_20_, k0 * 4 + 1, none⟩ = some (.int .i64 t_20_year) := hKt_20 1 _ rfl
        have hct_20_2 : wr0.cell? ⟨gt_20_, k0 * 4 + 2, none⟩ = some (.string t_20_town) := hKt_20 2 _ rfl
        have hct_20_3 : wr0.cell? ⟨gt_20_, k0 * 4 + 3, none⟩ = some (.slice Art_20 t_20_traits.length crt_20) := hKt_20 3 _ rfl
        clear hKt_20
        have ltt_20 := cell_lt hct_20_0
        have Mrt_20 := Lib.hid hrt_20
        have Qrt_20 := Lib.hid hqt_20
        have Nrt_20 := Lib.hid hnt_20
        clear hrt_20 hqt_20 hnt_20
        have b0t_20 : (0 : Int) ≤ (k0 : Int) := by omega
        have b1t_20 : (k0 : Int) < ((t_6.length : Nat) : Int) := by omega
        have b2t_20 : ((k0 : Int)).toNat = k0 := by omega
        obtain ⟨w_s_22, hw_s_22⟩ : ∃ x, wr0.alloc (.cells #[.int .i64 t_20_id, .int .i64 t_20_year, .string t_20_town, .slice Art_20 t_20_traits.length crt_20] 67) = x := ⟨_, rfl⟩
        have bw_s_22 : Below wr0.heap.size wr0 w_s_22 := by rw [← hw_s_22]; exact (Below.refl _ _).alloc (Nat.le_refl _) _
        have Ds_22_t_6 := Lib.hid (Go.Proofs.Ytpaakpbbahbhcaa.GoV.part_fresh Ot_6.out)
        have HBw_s_22 := Lib.hid (Below.step HBwr0.out bw_s_22)
        have hct_20_0__268 := cell_below bw_s_22 hct_20_0
        have hct_20_1__269 := cell_below bw_s_22 hct_20_1
        have hct_20_2__270 := cell_below bw_s_22 hct_20_2
        have hct_20_3__271 := cell_below bw_s_22 hct_20_3
        replace Ot_6 := Lib.hid (Go.Proofs.Ytpaakpbbahbhcaa.GoV.part_below Ot_6.out bw_s_22)
        clear bw_s_22
        have ks_22_0 : w_s_22.cell? ⟨wr0.heap.size, 0, none⟩ = some (.int .i64 t_20_id) := by rw [← hw_s_22]; exact box_new _ _ _ 0 _ rfl
        have ks_22_1 : w_s_22.cell? ⟨wr0.heap.size, 1, none⟩ = some (.int .i64 t_20_year) := by rw [← hw_s_22]; exact box_new _ _ _ 1 _ rfl
        have ks_22_2 : w_s_22.cell? ⟨wr0.heap.size, 2, none⟩ = some (.string t_20_town) := by rw [← hw_s_22]; exact box_new _ _ _ 2 _ rfl
        have ks_22_3 : w_s_22.cell? ⟨wr0.heap.size, 3, none⟩ = some (.slice Art_20 t_20_traits.length crt_20) := by rw [← hw_s_22]; exact box_new _ _ _ 3 _ rfl
        go_wp2_with fail
        clear hct_20_0 hct_20_1 hct_20_2 hct_20_3
        have Hhct_20_0__268 := Lib.hid hct_20_0__268
        replace hct_20_0__268 := cell_regrown hct_20_0__268
        have Hhct_20_1__269 := Lib.hid hct_20_1__269
        replace hct_20_1__269 := cell_regrown hct_20_1__269
        have Hhct_20_2__270 := Lib.hid hct_20_2__270
        replace hct_20_2__270 := cell_regrown hct_20_2__270
        have Hhct_20_3__271 := Lib.hid hct_20_3__271
        replace hct_20_3__271 := cell_regrown hct_20_3__271
        have Hks_22_0 := Lib.hid ks_22_0
        replace ks_22_0 := cell_regrown ks_22_0
        have Hks_22_1 := Lib.hid ks_22_1
        replace ks_22_1 := cell_regrown ks_22_1
        have Hks_22_2 := Lib.hid ks_22_2
        replace ks_22_2 := cell_regrown ks_22_2
        have Hks_22_3 := Lib.hid ks_22_3
        replace ks_22_3 := cell_regrown ks_22_3
        replace H := let_hid H
        obtain ⟨t_27, ht_27, H⟩ := H
        replace H := let_hid H
        obtain ⟨t_31, ht_31, H⟩ := H
        refine wp_region_quiet_below (by kernel_rfl) (by kernel_rfl) ?_
        repeat (go_big_quiet_step (fail))
        refine wpQuiet_nil ?_
        intro Y8 hY8
        replace hY8 := below_class hY8
        replace hct_20_0__268 := Hhct_20_0__268.out
        clear Hhct_20_0__268
        replace hct_20_1__269 := Hhct_20_1__269.out
        clear Hhct_20_1__269
        replace hct_20_2__270 := Hhct_20_2__270.out
        clear Hhct_20_2__270
        replace hct_20_3__271 := Hhct_20_3__271.out
        clear Hhct_20_3__271
        replace ks_22_0 := Hks_22_0.out
        clear Hks_22_0
        replace ks_22_1 := Hks_22_1.out
        clear Hks_22_1
        replace ks_22_2 := Hks_22_2.out
        clear Hks_22_2
        replace ks_22_3 := Hks_22_3.out
        clear Hks_22_3
        have HBY8 := Lib.hid (Below.step HBw_s_22.out hY8)
        replace hct_20_0__268 := cell_below hY8 hct_20_0__268
        replace hct_20_1__269 := cell_below hY8 hct_20_1__269
        replace hct_20_2__270 := cell_below hY8 hct_20_2__270
        replace hct_20_3__271 := cell_below hY8 hct_20_3__271
        replace ks_22_0 := cell_below hY8 ks_22_0
        replace ks_22_1 := cell_below hY8 ks_22_1
        replace ks_22_2 := cell_below hY8 ks_22_2
        replace ks_22_3 := cell_below hY8 ks_22_3
        replace Ot_6 := Lib.hid (Go.Proofs.Ytpaakpbbahbhcaa.GoV.part_below Ot_6.out hY8)
        clear hY8
        replace H := app_hid H
        go_wp2_with fail
        go_roundg m0
        case measure => omega
        case rel => exact ⟨k0 + 1, _, _, by omega, by go_num, rfl, rfl, H, HBY8, Ot_6⟩
  | true =>
    have Hht_10 : Hid (t_6.length = 0) := Lib.hid (by have := eq_of_beq ht_10; omega)
    have nht_10 : (t_6.length == 0) = true := beq_iff_eq.2 Hht_10.out
    replace H := ite_t H
    cases ret_hid H
    go_wp2_with fail
    go_ret3
    exact ⟨rfl, HBwt_6.out⟩
end Go.Proofs.Ytpaakpbbahbhcaa.GiYearsSeen

/- loop.example/g01062/laws.FnExactYearsSeen as a plain function, and the contract of the program's: where the plain one has an answer, the program has it. Conditions: slices read as lists. -/
namespace Go.Proofs.Ytpaakpbbahbhcaa.GlFnExactYearsSeen
set_option linter.unusedVariables false
set_option linter.unusedSimpArgs false
open Go.RowKit
open Go.Proofs.Ytpaakpbbahbhcaa.Rowed Go.Proofs.Ytpaakpbbahbhcaa.Turn Go.Proofs.Ytpaakpbbahbhcaa.Aid Go.Proofs.Ytpaakpbbahbhcaa.GoP Go.Proofs.Ytpaakpbbahbhcaa.GoM

def P (fuel : Nat) (aList : (List Go.Proofs.Ytpaakpbbahbhcaa.PSighting.Sighting)) (aLimit : Int) (aId : Int) : Option (Bool) :=
  Option.bind (Go.Proofs.Ytpaakpbbahbhcaa.GlSzSightingS.P aList 1048576) fun (t_4 : Int) =>
  letK (decide (t_4 < 0)) fun (t_7 : Bool) =>
  iteK t_7
  (some true)
  (Option.bind (Go.Proofs.Ytpaakpbbahbhcaa.GlToSightingS.P aList) fun (t_10 : (List Go.Proofs.Ytpaakpbbahbhcaa.PSighting.Sighting)) =>
  bind3 (Go.Proofs.Ytpaakpbbahbhcaa.GsYearsSeen.P fuel t_10 aLimit aId) fun (t_13a : Int) (t_13b : Int) (t_13c : Bool) =>
  Option.bind (Go.Proofs.Ytpaakpbbahbhcaa.GlToSightingS.P aList) fun (t_22 : (List Go.Proofs.Ytpaakpbbahbhcaa.PSighting.Sighting)) =>
  bind3 (Go.Proofs.Ytpaakpbbahbhcaa.GiYearsSeen.P t_22 aLimit aId) fun (t_27a : Int) (t_27b : Int) (t_27c : Bool) =>
  letK (t_27a != t_13a) fun (t_37 : Bool) =>
  joinK (fun (t_42 : Bool) =>
  joinK (fun (t_47 : Bool) =>
  iteK t_47
  (some false)
  (Option.bind (Go.Proofs.Ytpaakpbbahbhcaa.GlToSightingS.P aList) fun (t_51 : (List Go.Proofs.Ytpaakpbbahbhcaa.PSighting.Sighting)) =>
  Option.bind (Go.Proofs.Ytpaakpbbahbhcaa.GlEqSightingS.P t_22 t_51) fun (t_52 : Bool) =>
  letK (!t_52) fun (t_53 : Bool) =>
  iteK t_53
  (some false)
  (some true))) fun jt_47 => iteK t_42 (appK jt_47 true) (letK (!(t_27c == t_13c)) fun (t_46 : Bool) =>
  appK jt_47 t_46)) fun jt_42 => iteK t_37 (appK jt_42 true) (letK (t_27b != t_13b) fun (t_41 : Bool) =>
  appK jt_42 t_41))

set_option maxRecDepth 100000 in
set_option maxHeartbeats 2000000 in
theorem C (fuel : Nat) (aList : (List Go.Proofs.Ytpaakpbbahbhcaa.PSighting.Sighting)) (aLimit : Int) (aId : Int) (A0 : Option Addr) (c0 : Nat)  (w : World) (M0 : Hid (Go.Proofs.Ytpaakpbbahbhcaa.GoV.ReadNest w Go.Proofs.Ytpaakpbbahbhcaa.GoVSighting.lay A0 aList)) (N0 : Hid (aList.length ≤ 9223372036854775807))  {r : Bool} (H : Hid (P fuel aList aLimit aId = some r)) :
    Calls Try.prog 11 #[.slice A0 aList.length c0, .int .i64 aLimit, .int .i64 aId] w (Gives (.bool r) w) := by
  have HB := Lib.hid (Below.refl w.heap.size w)
  unfold P at H
  have N0o := N0.out
  go_enter Try.func11, Try.ntmps11
  replace H := bind_hid H
  obtain ⟨t_4, qt_4, H⟩ := H
  go_wp2_with fail
  go_at_call 30
  refine (Go.Proofs.Ytpaakpbbahbhcaa.GlSzSightingS.C (aList) (1048576) A0 c0 _   (Lib.hid (Go.Proofs.Ytpaakpbbahbhcaa.GoV.read_below M0.out HB.out)) N0 qt_4).mono ?_
  rintro e_t_4 wt_4 ⟨rfl, bt_4⟩
  have HBwt_4 := Lib.hid (Below.step HB.out bt_4)
  clear bt_4
  replace H := let_hid H
  obtain ⟨t_7, ht_7, H⟩ := H
  cases t_7 with
  | false =>
    replace H := ite_f H
    replace H := bind_hid H
    obtain ⟨t_10, qt_10, H⟩ := H
    go_wp2_with fail
    go_at_call 31
    refine (Go.Proofs.Ytpaakpbbahbhcaa.GlToSightingS.C (aList) A0 c0 _   (Lib.hid (Go.Proofs.Ytpaakpbbahbhcaa.GoV.read_below M0.out HBwt_4.out)) N0 qt_10).mono ?_
    rintro e_t_10 wt_10 ⟨At_10, ct_10, rfl, ⟨Bt_10, ot_10⟩, bt_10⟩
    have Ot_10 := Lib.hid (Go.Proofs.Ytpaakpbbahbhcaa.GoV.nest_lower ot_10 HBwt_4.out.size)
    clear ot_10
    have HBwt_10 := Lib.hid (Below.step HBwt_4.out bt_10)
    clear bt_10
    replace H := bind3_hid H
    obtain ⟨t_13a, t_13b, t_13c, qt_13, H⟩ := H
    go_wp2_with fail
    go_at_call 46
    refine (Go.Proofs.Ytpaakpbbahbhcaa.GsYearsSeen.C fuel (t_10) (aLimit) (aId) At_10 ct_10 _   (Lib.hid (Go.Proofs.Ytpaakpbbahbhcaa.GoV.nest_read Ot_10.out)) (Lib.hid (Go.Proofs.Ytpaakpbbahbhcaa.GoV.nest_max Ot_10.out)) qt_13).mono ?_
    rintro e_t_13 wt_13 ⟨rfl, bt_13⟩
    have HBwt_13 := Lib.hid (Below.step HBwt_10.out bt_13)
    replace Ot_10 := Lib.hid (Go.Proofs.Ytpaakpbbahbhcaa.GoV.nest_below Ot_10.out bt_13)
    clear bt_13
    replace H := bind_hid H
    obtain ⟨t_22, qt_22, H⟩ := H
    go_wp2_with fail
    go_at_call 31
    refine (Go.Proofs.Ytpaakpbbahbhcaa.GlToSightingS.C (aList) A0 c0 _   (Lib.hid (Go.Proofs.Ytpaakpbbahbhcaa.GoV.read_below M0.out HBwt_13.out)) N0 qt_22).mono ?_
    rintro e_t_22 wt_22 ⟨At_22, ct_22, rfl, ⟨Bt_22, ot_22⟩, bt_22⟩
    have Dt_22_t_10 := Lib.hid (Go.Proofs.Ytpaakpbbahbhcaa.GoV.lts_apart (Go.Proofs.Ytpaakpbbahbhcaa.GoV.nest_lt ot_22) (Go.Proofs.Ytpaakpbbahbhcaa.GoV.nest_lt Ot_10.out))
    have Ot_22 := Lib.hid (Go.Proofs.Ytpaakpbbahbhcaa.GoV.nest_lower ot_22 HBwt_13.out.size)
    clear ot_22
    have HBwt_22 := Lib.hid (Below.step HBwt_13.out bt_22)
    replace Ot_10 := Lib.hid (Go.Proofs.Ytpaakpbbahbhcaa.GoV.nest_below Ot_10.out bt_22)
    clear bt_22
    replace H := bind3_hid H
    obtain ⟨t_27a, t_27b, t_27c, qt_27, H⟩ := H
    go_wp2_with fail
    go_at_call 47
    refine (Go.Proofs.Ytpaakpbbahbhcaa.GiYearsSeen.C (t_22) (aLimit) (aId) At_22 ct_22 _   (Lib.hid (Go.Proofs.Ytpaakpbbahbhcaa.GoV.nest_read Ot_22.out)) (Lib.hid (Go.Proofs.Ytpaakpbbahbhcaa.GoV.nest_max Ot_22.out)) (Lib.hid (Go.Proofs.Ytpaakpbbahbhcaa.GoV.nest_room Ot_22.out)) qt_27).mono ?_
    rintro e_t_27 wt_27 ⟨rfl, bt_27⟩
    have HBwt_27 := Lib.hid (Below.step HBwt_22.out bt_27)
    replace Ot_10 := Lib.hid (Go.Proofs.Ytpaakpbbahbhcaa.GoV.nest_below Ot_10.out bt_27)
    replace Ot_22 := Lib.hid (Go.Proofs.Ytpaakpbbahbhcaa.GoV.nest_below Ot_22.out bt_27)
    clear bt_27
    replace H := let_hid H
    obtain ⟨t_37, ht_37, H⟩ := H
    replace H := join_hid H
    cases t_37 with
    | false =>
      replace H := ite_f H
      replace H := let_hid H
      obtain ⟨t_41, ht_41, H⟩ := H
      replace H := app_hid H
      replace H := join_hid H
      cases t_41 with
      | false =>
        replace H := ite_f H
        replace H := let_hid H
        obtain ⟨t_46, ht_46, H⟩ := H
        replace H := app_hid H
        cases t_46 with
        | false =>
          replace H := ite_f H
          replace H := bind_hid H
          obtain ⟨t_51, qt_51, H⟩ := H
          go_wp2_with fail
          go_at_call 31
          refine (Go.Proofs.Ytpaakpbbahbhcaa.GlToSightingS.C (aList) A0 c0 _   (Lib.hid (Go.Proofs.Ytpaakpbbahbhcaa.GoV.read_below M0.out HBwt_27.out)) N0 qt_51).mono ?_
          rintro e_t_51 wt_51 ⟨At_51, ct_51, rfl, ⟨Bt_51, ot_51⟩, bt_51⟩
          have Dt_51_t_10 := Lib.hid (Go.Proofs.Ytpaakpbbahbhcaa.GoV.lts_apart (Go.Proofs.Ytpaakpbbahbhcaa.GoV.nest_lt ot_51) (Go.Proofs.Ytpaakpbbahbhcaa.GoV.nest_lt Ot_10.out))
          have Dt_51_t_22 := Lib.hid (Go.Proofs.Ytpaakpbbahbhcaa.GoV.lts_apart (Go.Proofs.Ytpaakpbbahbhcaa.GoV.nest_lt ot_51) (Go.Proofs.Ytpaakpbbahbhcaa.GoV.nest_lt Ot_22.out))
          have Ot_51 := Lib.hid (Go.Proofs.Ytpaakpbbahbhcaa.GoV.nest_lower ot_51 HBwt_27.out.size)
          clear ot_51
          have HBwt_51 := Lib.hid (Below.step HBwt_27.out bt_51)
          replace Ot_10 := Lib.hid (Go.Proofs.Ytpaakpbbahbhcaa.GoV.nest_below Ot_10.out bt_51)
          replace Ot_22 := Lib.hid (Go.Proofs.Ytpaakpbbahbhcaa.GoV.nest_below Ot_22.out bt_51)
          clear bt_51
          replace H := bind_hid H
          obtain ⟨t_52, qt_52, H⟩ := H
          go_wp2_with fail
          go_at_call 32
          refine (Go.Proofs.Ytpaakpbbahbhcaa.GlEqSightingS.C (t_22) (t_51) At_22 ct_22 At_51 ct_51 _   (Lib.hid (Go.Proofs.Ytpaakpbbahbhcaa.GoV.nest_read Ot_22.out)) (Lib.hid (Go.Proofs.Ytpaakpbbahbhcaa.GoV.nest_max Ot_22.out)) (Lib.hid (Go.Proofs.Ytpaakpbbahbhcaa.GoV.nest_read Ot_51.out)) (Lib.hid (Go.Proofs.Ytpaakpbbahbhcaa.GoV.nest_max Ot_51.out)) qt_52).mono ?_
          rintro e_t_52 wt_52 ⟨rfl, bt_52⟩
          have HBwt_52 := Lib.hid (Below.step HBwt_51.out bt_52)
          replace Ot_10 := Lib.hid (Go.Proofs.Ytpaakpbbahbhcaa.GoV.nest_below Ot_10.out bt_52)
          replace Ot_22 := Lib.hid (Go.Proofs.Ytpaakpbbahbhcaa.GoV.nest_below Ot_22.out bt_52)
          replace Ot_51 := Lib.hid (Go.Proofs.Ytpaakpbbahbhcaa.GoV.nest_below Ot_51.out bt_52)
          clear bt_52
          cases t_52 with
          | false =>
            replace H := let_hid H
            obtain ⟨t_53, ht_53, H⟩ := H
            obtain rfl : t_53 = true := ht_53.symm
            replace H := ite_t H
            obtain rfl := ret_hid H
            go_wp2_with fail
            go_ret
            exact ⟨rfl, HBwt_52.out⟩
          | true =>
            replace H := let_hid H
            obtain ⟨t_53, ht_53, H⟩ := H
            obtain rfl : t_53 = false := ht_53.symm
            replace H := ite_f H
            obtain rfl := ret_hid H
            go_wp2_with fail
            go_ret
            exact ⟨rfl, HBwt_52.out⟩
        | true =>
          replace H := ite_t H
          obtain rfl := ret_hid H
          go_wp2_with fail
          go_ret
          exact ⟨rfl, HBwt_27.out⟩
      | true =>
        replace H := ite_t H
        replace H := app_hid H
        replace H := ite_t H
        obtain rfl := ret_hid H
        go_wp2_with fail
        go_ret
        exact ⟨rfl, HBwt_27.out⟩
    | true =>
      replace H := ite_t H
      replace H := app_hid H
      replace H := join_hid H
      replace H := ite_t H
      replace H := app_hid H
      replace H := ite_t H
      obtain rfl := ret_hid H
      go_wp2_with fail
      go_ret
      exact ⟨rfl, HBwt_27.out⟩
  | true =>
    replace H := ite_t H
    obtain rfl := ret_hid H
    go_wp2_with fail
    go_ret
    exact ⟨rfl, HBwt_4.out⟩
end Go.Proofs.Ytpaakpbbahbhcaa.GlFnExactYearsSeen

/- Chapter 13: censuses: the plain functions of the program and of the reference agree, and the laws answer true. (Q13Years) No condition but those of each theorem. -/
namespace Go.Proofs.Ytpaakpbbahbhcaa.Q13Years
set_option linter.unusedVariables false
set_option linter.unusedSimpArgs false
open Go.RowKit
open Go.Proofs.Ytpaakpbbahbhcaa.GoP Go.Proofs.Ytpaakpbbahbhcaa.PlainStamp Go.Proofs.Ytpaakpbbahbhcaa.QBase Go.Proofs.Ytpaakpbbahbhcaa.Q13With Go.Proofs.Ytpaakpbbahbhcaa.Q13Find Go.Proofs.Ytpaakpbbahbhcaa.Q13Tools Go.Proofs.Ytpaakpbbahbhcaa.Q13Cover Go.Proofs.Ytpaakpbbahbhcaa.Q13Bonds Go.Proofs.Ytpaakpbbahbhcaa.Q13Ev Go.Proofs.Ytpaakpbbahbhcaa.Q13List Go.Proofs.Ytpaakpbbahbhcaa.Q13One Go.Proofs.Ytpaakpbbahbhcaa.QUp Go.Proofs.Ytpaakpbbahbhcaa.QLoop Go.Proofs.Ytpaakpbbahbhcaa.PSighting

def lowY : List Sighting → Int → Int
  | [], a => a
  | x :: xs, a => lowY xs (min a x.year)
def highY : List Sighting → Int → Int
  | [], a => a
  | x :: xs, a => highY xs (max a x.year)
theorem lowY_snoc (xs : List Sighting) (x : Sighting) : ∀ a, lowY (xs ++ [x]) a = min (lowY xs a) x.year := by
  induction xs with
  | nil => intro a; rfl
  | cons y ys ih => intro a; exact ih _
theorem highY_snoc (xs : List Sighting) (x : Sighting) : ∀ a, highY (xs ++ [x]) a = max (highY xs a) x.year := by
  induction xs with
  | nil => intro a; rfl
  | cons y ys ih => intro a; exact ih _
theorem lowY_le (xs : List Sighting) : ∀ a, lowY xs a ≤ a ∧ ∀ x ∈ xs, lowY xs a ≤ x.year := by
  induction xs with
  | nil => intro a; exact ⟨Int.le_refl _, by simp⟩
  | cons y ys ih =>
    intro a
    obtain ⟨h1, h2⟩ := ih (min a y.year)
    simp only [lowY]
    refine ⟨by omega, fun x hx => ?_⟩
    rcases List.mem_cons.1 hx with rfl | hx
    · omega
    · exact h2 x hx
theorem highY_ge (xs : List Sighting) : ∀ a, a ≤ highY xs a ∧ ∀ x ∈ xs, x.year ≤ highY xs a := by
  induction xs with
  | nil => intro a; exact ⟨Int.le_refl _, by simp⟩
  | cons y ys ih =>
    intro a
    obtain ⟨h1, h2⟩ := ih (max a y.year)
    simp only [highY]
    refine ⟨by omega, fun x hx => ?_⟩
    rcases List.mem_cons.1 hx with rfl | hx
    · omega
    · exact h2 x hx
theorem lowY_min (xs : List Sighting) : ∀ a b, lowY xs (min a b) = min (lowY xs a) b := by
  induction xs with
  | nil => intro a b; rfl
  | cons y ys ih =>
    intro a b
    simp only [lowY]
    rw [show min (min a b) y.year = min (min a y.year) b by omega, ih]
theorem highY_max (xs : List Sighting) : ∀ a b, highY xs (max a b) = max (highY xs a) b := by
  induction xs with
  | nil => intro a b; rfl
  | cons y ys ih =>
    intro a b
    simp only [highY]
    rw [show max (max a b) y.year = max (max a y.year) b by omega, ih]
def yearsRes (l : List Sighting) (L id : Int) : Int × Int × Bool := if okW l L id = true then (lowY (withS l L id) 2100, highY (withS l L id) 1840, true) else (0, 0, false)
theorem years_impl (l : List Sighting) (L id : Int) : GiYearsSeen.P l L id = some (yearsRes l L id) := by
  simp only [GiYearsSeen.P, with_eq, Option.bind_some, letK, iteK_if]
  unfold yearsRes
  cases h : okW l L id with
  | false =>
    have : withS l L id = [] := by unfold withS; rw [if_neg (by simp [h])]
    rw [this]; simp
  | true =>
    have hp := withS_some h
    have hlen := withS_len l L id
    rw [if_neg (by simp only [beq_iff_eq]; omega), if_pos rfl]
    refine cnt_is _ (fun k (s : Int × Int) => s = (lowY ((withS l L id).take k) 2100, highY ((withS l L id).take k) 1840)) ?_ ?_ _ rfl
    · rintro k s nx hkl rfl hn'
      obtain ⟨x, hx, hxi⟩ := at_lt (l := withS l L id) (k := k) hkl
      simp only [GiYearsSeen.l0, unp2, hxi, Option.bind_some, unSighting, letK, appK]
      refine hn' _ ?_
      rw [take_next hx, lowY_snoc, highY_snoc]
    · rintro s rfl
      rw [List.take_of_length_le (Nat.le_refl _)]
      simp only [GiYearsSeen.e0, unp2]
theorem years_spec (l : List Sighting) (L id : Int) (hf : ∀ s ∈ l, sz13 s) (hl : l.length ≤ 9223372036854775807) (fuel : Nat) (hfu : 2000 ≤ fuel) : GsYearsSeen.P fuel l L id = some (yearsRes l L id) := by
  simp only [GsYearsSeen.P, l13Find_eq, l13Good_eq l hf hl, l13Limit_eq, Option.bind_some, letK, joinK, appK, iteK_if]
  unfold yearsRes
  cases hk : okSis l with
  | false => simp [okW, hk]
  | true =>
    cases hL0 : inB L (-30) 16 with
    | false => simp [okW, hk, hL0]
    | true =>
      by_cases h0 : 0 ≤ fnd l id
      · have hw : okW l L id = true := by simp [okW, hk, hL0, h0]
        have hL := inB_of hL0
        have hn := okSis_len hk
        obtain ⟨h1, h2⟩ := fnd_lt h0
        generalize hi : (fnd l id).toNat = i at h1 h2
        have hxi : idx l (fnd l id) = some (sAt l i) := by rw [h2, idx_nat]; exact sAt_at h1
        simp only [Bool.not_true, Bool.false_eq_true, if_false, hw, if_true, hxi, Option.bind_some, unSighting]
        rw [if_neg (by simp; omega), h2]
        have hlo : ∀ a b : Int, GsL1Least.P a b = some (min a b) := by
          intro a b
          simp only [GsL1Least.P, letK, iteK_if]
          by_cases h : a < b
          · rw [if_pos (by simpa using h)]; congr 1; omega
          · rw [if_neg (by simpa using h)]; congr 1; omega
        have hhi : ∀ a b : Int, GsL1Most.P a b = some (max a b) := by
          intro a b
          simp only [GsL1Most.P, letK, iteK_if]
          by_cases h : b < a
          · rw [if_pos (by simpa using h)]; congr 1; omega
          · rw [if_neg (by simpa using h)]; congr 1; omega
        simp only [cover_eq hk (by omega : L ≤ 16) h1 fuel hfu, Option.bind_some]
        have hws : withS l L id = covS l L i := by unfold withS; rw [if_pos hw, hi]
        have hself := covN_self (l := l) (L := L) (by omega) h1
        have hme : sAt l i ∈ covS l L i := List.mem_map.2 ⟨i, hself, rfl⟩
        have hyr := (okSi_of (okSis_at hk (List.mem_of_getElem? (sAt_at h1)))).2.1
        have hl1 := lowY_le (covS l L i) 2100
        have hh1 := highY_ge (covS l L i) 1840
        have e1 : lowY (covS l L i) (sAt l i).year = lowY (covS l L i) 2100 := by
          have := lowY_min (covS l L i) 2100 (sAt l i).year
          rw [show min (2100 : Int) (sAt l i).year = (sAt l i).year by omega] at this
          have := hl1.2 _ hme
          omega
        have e2 : highY (covS l L i) (sAt l i).year = highY (covS l L i) 1840 := by
          have := highY_max (covS l L i) 1840 (sAt l i).year
          rw [show max (1840 : Int) (sAt l i).year = (sAt l i).year by omega] at this
          have := hh1.2 _ hme
          omega
        rw [hws, ← e1, ← e2]
        have hcl : (cov l L i).length = (covN l L i).length := by unfold cov; rw [List.length_map]
        rw [hcl]
        refine cnt_is _ (fun k (s : Int × Int) => s = (lowY ((covS l L i).take k) (sAt l i).year, highY ((covS l L i).take k) (sAt l i).year)) ?_ ?_ _ rfl
        · rintro k s nx hkl rfl hn'
          obtain ⟨j, hj, _⟩ := at_lt (l := covN l L i) (k := k) hkl
          have hjl := (covN_mem.1 (List.mem_of_getElem? hj)).1
          have hci : idx (cov l L i) (k : Int) = some (j : Int) := by rw [idx_nat]; unfold cov; rw [List.getElem?_map, hj]; rfl
          have hyi : idx l (j : Int) = some (sAt l j) := by rw [idx_nat]; exact sAt_at hjl
          have hx : (covS l L i)[k]? = some (sAt l j) := by unfold covS; rw [List.getElem?_map, hj]; rfl
          simp only [GsYearsSeen.l0, unp2, hci, hyi, hlo, hhi, Option.bind_some, unSighting, appK]
          refine hn' _ ?_
          rw [take_next hx, lowY_snoc, highY_snoc]
        · rintro s rfl
          rw [List.take_of_length_le (by unfold covS; rw [List.length_map]; exact Nat.le_refl _)]
          simp only [GsYearsSeen.e0, unp2]
      · have hw : okW l L id = false := by simp [okW, h0]
        simp only [Bool.not_true, Bool.false_eq_true, if_false, hw]
        rw [if_pos (by simp; omega)]
end Go.Proofs.Ytpaakpbbahbhcaa.Q13Years

/- Chapter 13: censuses: the plain functions of the program and of the reference agree, and the laws answer true. (QL13Years) No condition but those of each theorem. -/
namespace Go.Proofs.Ytpaakpbbahbhcaa.QL13Years
set_option linter.unusedVariables false
set_option linter.unusedSimpArgs false
open Go.RowKit
open Go.Proofs.Ytpaakpbbahbhcaa.GoP Go.Proofs.Ytpaakpbbahbhcaa.PlainStamp Go.Proofs.Ytpaakpbbahbhcaa.QBase Go.Proofs.Ytpaakpbbahbhcaa.Q13Years Go.Proofs.Ytpaakpbbahbhcaa.Q13One Go.Proofs.Ytpaakpbbahbhcaa.QF13 Go.Proofs.Ytpaakpbbahbhcaa.QLoop Go.Proofs.Ytpaakpbbahbhcaa.PSighting Go.Proofs.Ytpaakpbbahbhcaa.QHVSightingE

theorem law_yearsSeen (fuel : Nat) (hfu : 2000 ≤ fuel) (l : List Sighting) (L id : Int) (hF : ∀ s ∈ l, Go.Proofs.Ytpaakpbbahbhcaa.OVSighting.Fits s) (hl : l.length ≤ 9223372036854775807) : GlFnExactYearsSeen.P fuel l L id = some true := by
  have hf : ∀ s ∈ l, sz13 s := fun s hs => fits_sz (hF s hs)
  obtain ⟨v, hv, hn⟩ := szS l hf hl
  simp only [GlFnExactYearsSeen.P, hv, Option.bind_some, letK, iteK_if]
  by_cases hb : v < 0
  · rw [if_pos (by simpa using hb)]
  · rw [if_neg (by simpa using hb)]
    obtain ⟨⟨p, q, r⟩, hr⟩ : ∃ x, x = yearsRes l L id := ⟨_, rfl⟩
    simp [toS l (hn (by omega)), years_impl, years_spec l L id hf hl fuel hfu, ← hr, bind3, joinK, appK, iteK_if, eqS]
end Go.Proofs.Ytpaakpbbahbhcaa.QL13Years

