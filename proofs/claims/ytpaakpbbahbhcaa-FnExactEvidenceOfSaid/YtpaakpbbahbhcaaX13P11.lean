/- Texts on which the proofs of several laws stand, one behind the other (11 of 20). No condition of their own. -/
import Derived.Test.YtpaakpbbahbhcaaChecked
import Derived.Test.YtpaakpbbahbhcaaX13P1
import Derived.Test.YtpaakpbbahbhcaaX13P2
import Derived.Test.YtpaakpbbahbhcaaX13P5
import Derived.WalkKit
import Derived.WalkSpells
import Derived.WalkLawsBesides
import Derived.BigQuiet
import Derived.OwnWalk
import Derived.Deep.LoopGhost
import Derived.Deep.QuietTactic
import Derived.IntWalk
import Derived.Lib.QuietBelow
import Derived.Test.YtpaakpbbahbhcaaX13P3
import Derived.Test.YtpaakpbbahbhcaaX13P4
/- loop.example/g01062/spec.EvidenceOf as a plain function, and the contract of the program's: where the plain one has an answer, the program has it. Conditions: slices read as lists. -/
namespace Go.Proofs.Ytpaakpbbahbhcaa.GsEvidenceOf
set_option linter.unusedVariables false
set_option linter.unusedSimpArgs false
open Go.RowKit
open Go.Proofs.Ytpaakpbbahbhcaa.Rowed Go.Proofs.Ytpaakpbbahbhcaa.Turn Go.Proofs.Ytpaakpbbahbhcaa.Aid Go.Proofs.Ytpaakpbbahbhcaa.GoP Go.Proofs.Ytpaakpbbahbhcaa.GoM

def P (fuel : Nat) (list : (List Go.Proofs.Ytpaakpbbahbhcaa.PSighting.Sighting)) (a : Int) (b : Int) : Option (Int × Bool) :=
  Option.bind (Go.Proofs.Ytpaakpbbahbhcaa.GsL13Find.P list a) fun (t_4 : Int) =>
  Option.bind (Go.Proofs.Ytpaakpbbahbhcaa.GsL13Find.P list b) fun (t_7 : Int) =>
  Option.bind (Go.Proofs.Ytpaakpbbahbhcaa.GsL13Good.P list) fun (t_11 : Bool) =>
  letK (!t_11) fun (t_12 : Bool) =>
  joinK (fun (t_16 : Bool) =>
  joinK (fun (t_20 : Bool) =>
  iteK t_20
  (some (0, false))
  (Option.bind (idx list t_4) fun (yt_25 : Go.Proofs.Ytpaakpbbahbhcaa.PSighting.Sighting) =>
  unSighting yt_25 fun (t_25_id : Int) (t_25_year : Int) (t_25_town : ByteArray) (t_25_traits : (List Int)) =>
  Option.bind (idx list t_7) fun (yt_29 : Go.Proofs.Ytpaakpbbahbhcaa.PSighting.Sighting) =>
  unSighting yt_29 fun (t_29_id : Int) (t_29_year : Int) (t_29_town : ByteArray) (t_29_traits : (List Int)) =>
  Option.bind (Go.Proofs.Ytpaakpbbahbhcaa.GsL13Evidence.P fuel t_25_id t_25_year t_25_town t_25_traits t_29_id t_29_year t_29_town t_29_traits) fun (t_31 : Int) =>
  some (t_31, true))) fun jt_20 => iteK t_16 (appK jt_20 true) (letK (decide (t_7 < 0)) fun (t_19 : Bool) =>
  appK jt_20 t_19)) fun jt_16 => iteK t_12 (appK jt_16 true) (letK (decide (t_4 < 0)) fun (t_15 : Bool) =>
  appK jt_16 t_15)

set_option maxRecDepth 100000 in
set_option maxHeartbeats 2000000 in
theorem C (fuel : Nat) (list : (List Go.Proofs.Ytpaakpbbahbhcaa.PSighting.Sighting)) (a : Int) (b : Int) (A0 : Option Addr) (c0 : Nat)  (w : World) (M0 : Hid (Go.Proofs.Ytpaakpbbahbhcaa.GoV.ReadNest w Go.Proofs.Ytpaakpbbahbhcaa.GoVSighting.lay A0 list)) (N0 : Hid (list.length ≤ 9223372036854775807))  {r0 : Int} {r1 : Bool} (H : Hid (P fuel list a b = some (r0, r1))) :
    Calls Try.prog 19 #[.slice A0 list.length c0, .int .i64 a, .int .i64 b] w (Gives (.tuple #[.int .i64 r0, .bool r1]) w) := by
  have HB := Lib.hid (Below.refl w.heap.size w)
  unfold P at H
  have N0o := N0.out
  go_enter Try.func19, Try.ntmps19
  replace H := bind_hid H
  obtain ⟨t_4, qt_4, H⟩ := H
  go_wp2_with fail
  go_at_call 55
  refine (Go.Proofs.Ytpaakpbbahbhcaa.GsL13Find.C (list) (a) A0 c0 _   (Lib.hid (Go.Proofs.Ytpaakpbbahbhcaa.GoV.read_below M0.out HB.out)) N0 qt_4).mono ?_
  rintro e_t_4 wt_4 ⟨rfl, bt_4⟩
  have HBwt_4 := Lib.hid (Below.step HB.out bt_4)
  clear bt_4
  replace H := bind_hid H
  obtain ⟨t_7, qt_7, H⟩ := H
  go_wp2_with fail
  go_at_call 55
  refine (Go.Proofs.Ytpaakpbbahbhcaa.GsL13Find.C (list) (b) A0 c0 _   (Lib.hid (Go.Proofs.Ytpaakpbbahbhcaa.GoV.read_below M0.out HBwt_4.out)) N0 qt_7).mono ?_
  rintro e_t_7 wt_7 ⟨rfl, bt_7⟩
  have HBwt_7 := Lib.hid (Below.step HBwt_4.out bt_7)
  clear bt_7
  replace H := bind_hid H
  obtain ⟨t_11, qt_11, H⟩ := H
  go_wp2_with fail
  go_at_call 56
  refine (Go.Proofs.Ytpaakpbbahbhcaa.GsL13Good.C (list) A0 c0 _   (Lib.hid (Go.Proofs.Ytpaakpbbahbhcaa.GoV.read_below M0.out HBwt_7.out)) N0 qt_11).mono ?_
  rintro e_t_11 wt_11 ⟨rfl, bt_11⟩
  have HBwt_11 := Lib.hid (Below.step HBwt_7.out bt_11)
  clear bt_11
  cases t_11 with
  | false =>
    replace H := let_hid H
    obtain ⟨t_12, ht_12, H⟩ := H
    obtain rfl : t_12 = true := ht_12.symm
    replace H := join_hid H
    replace H := ite_t H
    replace H := app_hid H
    replace H := join_hid H
    replace H := ite_t H
    replace H := app_hid H
    replace H := ite_t H
    cases ret_hid H
    go_wp2_with fail
    go_ret2
    exact ⟨rfl, HBwt_11.out⟩
  | true =>
    replace H := let_hid H
    obtain ⟨t_12, ht_12, H⟩ := H
    obtain rfl : t_12 = false := ht_12.symm
    replace H := join_hid H
    replace H := ite_f H
    replace H := let_hid H
    obtain ⟨t_15, ht_15, H⟩ := H
    replace H := app_hid H
    replace H := join_hid H
    cases t_15 with
    | false =>
      replace H := ite_f H
      replace H := let_hid H
      obtain ⟨t_19, ht_19, H⟩ := H
      replace H := app_hid H
      cases t_19 with
      | false =>
        replace H := ite_f H
        go_wp2_with fail
        replace H := idx_hid H
        obtain ⟨nt_25, yt_25, et_25, lt_25, gt_25, H⟩ := H
        subst et_25
        have nc_91 : ¬ (nt_25 < 0) := by have := of_decide_eq_false ht_15; omega
        obtain ⟨t_25_id, t_25_year, t_25_town, t_25_traits⟩ := yt_25
        replace H := unSighting_hid H
        obtain ⟨bbt_25, oot_25, zt_25, Art_25, crt_25, eAt_25, zzt_25, hKt_25, hrt_25, hqt_25, hnt_25⟩ := Go.Proofs.Ytpaakpbbahbhcaa.GoV.nest_at M0.out (k := nt_25) lt_25
        obtain rfl := Option.some.inj (gt_25.out.symm.trans zzt_25)
        clear zzt_25
        subst eAt_25
        have hct_25_0 : w.cell? ⟨bbt_25, oot_25 + nt_25 * 4, none⟩ = some (.int .i64 t_25_id) := hKt_25 0 _ rfl
        have hct_25_1 : w.cell? ⟨bbt_25, oot_25 + nt_25 * 4 + 1, none⟩ = some (.int .i64 t_25_year) := hKt_25 1 _ rfl
        have hct_25_2 : w.cell? ⟨bbt_25, oot_25 + nt_25 * 4 + 2, none⟩ = some (.string t_25_town) := hKt_25 2 _ rfl
        have hct_25_3 : w.cell? ⟨bbt_25, oot_25 + nt_25 * 4 + 3, none⟩ = some (.slice Art_25 t_25_traits.length crt_25) := hKt_25 3 _ rfl
        clear hKt_25
        have ltt_25 := cell_lt hct_25_0
        replace hct_25_0 := cell_below HBwt_11.out hct_25_0
        replace hct_25_1 := cell_below HBwt_11.out hct_25_1
        replace hct_25_2 := cell_below HBwt_11.out hct_25_2
        replace hct_25_3 := cell_below HBwt_11.out hct_25_3
        have Mrt_25 := Lib.hid hrt_25
        have Qrt_25 := Lib.hid hqt_25
        have Nrt_25 := Lib.hid hnt_25
        clear hrt_25 hqt_25 hnt_25
        have b0t_25 : (0 : Int) ≤ (nt_25 : Int) := by omega
        have b1t_25 : (nt_25 : Int) < ((list.length : Nat) : Int) := by omega
        have b2t_25 : ((nt_25 : Int)).toNat = nt_25 := by omega
        have Hhct_25_0 := Lib.hid hct_25_0
        replace hct_25_0 := cell_regrown hct_25_0
        have Hhct_25_1 := Lib.hid hct_25_1
        replace hct_25_1 := cell_regrown hct_25_1
        have Hhct_25_2 := Lib.hid hct_25_2
        replace hct_25_2 := cell_regrown hct_25_2
        have Hhct_25_3 := Lib.hid hct_25_3
        replace hct_25_3 := cell_regrown hct_25_3
        replace H := idx_hid H
        obtain ⟨nt_29, yt_29, et_29, lt_29, gt_29, H⟩ := H
        subst et_29
        have nc_92 : ¬ (nt_29 < 0) := by have := of_decide_eq_false ht_19; omega
        obtain ⟨t_29_id, t_29_year, t_29_town, t_29_traits⟩ := yt_29
        replace H := unSighting_hid H
        obtain ⟨bbt_29, oot_29, zt_29, Art_29, crt_29, eAt_29, zzt_29, hKt_29, hrt_29, hqt_29, hnt_29⟩ := Go.Proofs.Ytpaakpbbahbhcaa.GoV.nest_at M0.out (k := nt_29) lt_29
        obtain rfl := Option.some.inj (gt_29.out.symm.trans zzt_29)
        clear zzt_29
        simp only [Option.some.injEq, Addr.mk.injEq] at eAt_29
        obtain ⟨rfl, rfl, _⟩ := eAt_29
        have hct_29_0 : w.cell? ⟨bbt_25, oot_25 + nt_29 * 4, none⟩ = some (.int .i64 t_29_id) := hKt_29 0 _ rfl
        have hct_29_1 : w.cell? ⟨bbt_25, oot_25 + nt_29 * 4 + 1, none⟩ = some (.int .i64 t_29_year) := hKt_29 1 _ rfl
        have hct_29_2 : w.cell? ⟨bbt_25, oot_25 + nt_29 * 4 + 2, none⟩ = some (.string t_29_town) := hKt_29 2 _ rfl
        have hct_29_3 : w.cell? ⟨bbt_25, oot_25 + nt_29 * 4 + 3, none⟩ = some (.slice Art_29 t_29_traits.length crt_29) := hKt_29 3 _ rfl
        clear hKt_29
        have ltt_29 := cell_lt hct_29_0
        replace hct_29_0 := cell_below HBwt_11.out hct_29_0
        replace hct_29_1 := cell_below HBwt_11.out hct_29_1
        replace hct_29_2 := cell_below HBwt_11.out hct_29_2
        replace hct_29_3 := cell_below HBwt_11.out hct_29_3
        have Mrt_29 := Lib.hid hrt_29
        have Qrt_29 := Lib.hid hqt_29
        have Nrt_29 := Lib.hid hnt_29
        clear hrt_29 hqt_29 hnt_29
        have b0t_29 : (0 : Int) ≤ (nt_29 : Int) := by omega
        have b1t_29 : (nt_29 : Int) < ((list.length : Nat) : Int) := by omega
        have b2t_29 : ((nt_29 : Int)).toNat = nt_29 := by omega
        have Hhct_29_0 := Lib.hid hct_29_0
        replace hct_29_0 := cell_regrown hct_29_0
        have Hhct_29_1 := Lib.hid hct_29_1
        replace hct_29_1 := cell_regrown hct_29_1
        have Hhct_29_2 := Lib.hid hct_29_2
        replace hct_29_2 := cell_regrown hct_29_2
        have Hhct_29_3 := Lib.hid hct_29_3
        replace hct_29_3 := cell_regrown hct_29_3
        replace H := bind_hid H
        obtain ⟨t_31, qt_31, H⟩ := H
        have nt_31 : ∀ d os, Calls Try.prog 60 #[.agg #[.int .i64 t_25_id, .int .i64 t_25_year, .string t_25_town, .slice Art_25 t_25_traits.length crt_25], .agg #[.int .i64 t_29_id, .int .i64 t_29_year, .string t_29_town, .slice Art_29 t_29_traits.length crt_29]] (Go.Sort.grow (redrawn wt_11 d) os) fun e w'' => e = .returned (.int .i64 t_31) ∧ ∃ p : Regrown, w'' = Go.Sort.grow (redrawn wt_11 p.d) p.os := fun d os => Calls.regrown_of (Go.Proofs.Ytpaakpbbahbhcaa.GsL13Evidence.C fuel (t_25_id) (t_25_year) (t_25_town) (t_25_traits) (t_29_id) (t_29_year) (t_29_town) (t_29_traits) Art_25 crt_25 Art_29 crt_29 _   (Lib.hid (Cells.below (Cells.below Mrt_25.out HBwt_11.out) (below_regrown _ _ _))) Nrt_25 (Lib.hid (Cells.below (Cells.below Mrt_29.out HBwt_11.out) (below_regrown _ _ _))) Nrt_29 qt_31)
        refine wp_region_quiet_below (by kernel_rfl) (by kernel_rfl) ?_
        repeat (go_big_quiet_step (first | (go_at_call 60; exact nt_31 _ _)))
        refine wpQuiet_nil ?_
        intro Y4 hY4
        replace hY4 := below_class hY4
        clear nt_31
        replace hct_25_0 := Hhct_25_0.out
        clear Hhct_25_0
        replace hct_25_1 := Hhct_25_1.out
        clear Hhct_25_1
        replace hct_25_2 := Hhct_25_2.out
        clear Hhct_25_2
        replace hct_25_3 := Hhct_25_3.out
        clear Hhct_25_3
        replace hct_29_0 := Hhct_29_0.out
        clear Hhct_29_0
        replace hct_29_1 := Hhct_29_1.out
        clear Hhct_29_1
        replace hct_29_2 := Hhct_29_2.out
        clear Hhct_29_2
        replace hct_29_3 := Hhct_29_3.out
        clear Hhct_29_3
        have HBY4 := Lib.hid (Below.step HBwt_11.out hY4)
        replace hct_25_0 := cell_below hY4 hct_25_0
        replace hct_25_1 := cell_below hY4 hct_25_1
        replace hct_25_2 := cell_below hY4 hct_25_2
        replace hct_25_3 := cell_below hY4 hct_25_3
        replace hct_29_0 := cell_below hY4 hct_29_0
        replace hct_29_1 := cell_below hY4 hct_29_1
        replace hct_29_2 := cell_below hY4 hct_29_2
        replace hct_29_3 := cell_below hY4 hct_29_3
        clear hY4
        cases ret_hid H
        go_wp2_with fail
        go_ret2
        exact ⟨rfl, HBY4.out⟩
      | true =>
        replace H := ite_t H
        cases ret_hid H
        go_wp2_with fail
        go_ret2
        exact ⟨rfl, HBwt_11.out⟩
    | true =>
      replace H := ite_t H
      replace H := app_hid H
      replace H := ite_t H
      cases ret_hid H
      go_wp2_with fail
      go_ret2
      exact ⟨rfl, HBwt_11.out⟩
end Go.Proofs.Ytpaakpbbahbhcaa.GsEvidenceOf

/- loop.example/g01062/impl.EvidenceOf as a plain function, and the contract of the program's: where the plain one has an answer, the program has it. Conditions: slices read as lists. -/
namespace Go.Proofs.Ytpaakpbbahbhcaa.GiEvidenceOf
set_option linter.unusedVariables false
set_option linter.unusedSimpArgs false
open Go.RowKit
open Go.Proofs.Ytpaakpbbahbhcaa.Rowed Go.Proofs.Ytpaakpbbahbhcaa.Turn Go.Proofs.Ytpaakpbbahbhcaa.Aid Go.Proofs.Ytpaakpbbahbhcaa.GoP Go.Proofs.Ytpaakpbbahbhcaa.GoM

def P (list : (List Go.Proofs.Ytpaakpbbahbhcaa.PSighting.Sighting)) (a : Int) (b : Int) : Option (Int × Bool) :=
  Option.bind (Go.Proofs.Ytpaakpbbahbhcaa.GiIndexOfSighting.P list a) fun (t_4 : Int) =>
  Option.bind (Go.Proofs.Ytpaakpbbahbhcaa.GiIndexOfSighting.P list b) fun (t_7 : Int) =>
  letK (decide (t_4 < 0)) fun (t_11 : Bool) =>
  joinK (fun (t_15 : Bool) =>
  iteK t_15
  (some (0, false))
  (Option.bind (idx list t_4) fun (yt_20 : Go.Proofs.Ytpaakpbbahbhcaa.PSighting.Sighting) =>
  unSighting yt_20 fun (t_20_id : Int) (t_20_year : Int) (t_20_town : ByteArray) (t_20_traits : (List Int)) =>
  Option.bind (idx list t_7) fun (yt_24 : Go.Proofs.Ytpaakpbbahbhcaa.PSighting.Sighting) =>
  unSighting yt_24 fun (t_24_id : Int) (t_24_year : Int) (t_24_town : ByteArray) (t_24_traits : (List Int)) =>
  Option.bind (Go.Proofs.Ytpaakpbbahbhcaa.GiEvidence.P t_20_id t_20_year t_20_town t_20_traits t_24_id t_24_year t_24_town t_24_traits) fun (t_26 : Int) =>
  some (t_26, true))) fun jt_15 => iteK t_11 (appK jt_15 true) (letK (decide (t_7 < 0)) fun (t_14 : Bool) =>
  appK jt_15 t_14)

set_option maxRecDepth 100000 in
set_option maxHeartbeats 2000000 in
theorem C (list : (List Go.Proofs.Ytpaakpbbahbhcaa.PSighting.Sighting)) (a : Int) (b : Int) (A0 : Option Addr) (c0 : Nat)  (w : World) (M0 : Hid (Go.Proofs.Ytpaakpbbahbhcaa.GoV.ReadNest w Go.Proofs.Ytpaakpbbahbhcaa.GoVSighting.lay A0 list)) (N0 : Hid (list.length ≤ 9223372036854775807))  {r0 : Int} {r1 : Bool} (H : Hid (P list a b = some (r0, r1))) :
    Calls Try.prog 18 #[.slice A0 list.length c0, .int .i64 a, .int .i64 b] w (Gives (.tuple #[.int .i64 r0, .bool r1]) w) := by
  have HB := Lib.hid (Below.refl w.heap.size w)
  unfold P at H
  have N0o := N0.out
  go_enter Try.func18, Try.ntmps18
  replace H := bind_hid H
  obtain ⟨t_4, qt_4, H⟩ := H
  go_wp2_with fail
  go_at_call 53
  refine (Go.Proofs.Ytpaakpbbahbhcaa.GiIndexOfSighting.C (list) (a) A0 c0 _   (Lib.hid (Go.Proofs.Ytpaakpbbahbhcaa.GoV.read_below M0.out HB.out)) N0 qt_4).mono ?_
  rintro e_t_4 wt_4 ⟨rfl, bt_4⟩
  have HBwt_4 := Lib.hid (Below.step HB.out bt_4)
  clear bt_4
  replace H := bind_hid H
  obtain ⟨t_7, qt_7, H⟩ := H
  go_wp2_with fail
  go_at_call 53
  refine (Go.Proofs.Ytpaakpbbahbhcaa.GiIndexOfSighting.C (list) (b) A0 c0 _   (Lib.hid (Go.Proofs.Ytpaakpbbahbhcaa.GoV.read_below M0.out HBwt_4.out)) N0 qt_7).mono ?_
  rintro e_t_7 wt_7 ⟨rfl, bt_7⟩
  have HBwt_7 := Lib.hid (Below.step HBwt_4.out bt_7)
  clear bt_7
  replace H := let_hid H
  obtain ⟨t_11, ht_11, H⟩ := H
  replace H := join_hid H
  cases t_11 with
  | false =>
    replace H := ite_f H
    replace H := let_hid H
    obtain ⟨t_14, ht_14, H⟩ := H
    replace H := app_hid H
    cases t_14 with
    | false =>
      replace H := ite_f H
      go_wp2_with fail
      replace H := idx_hid H
      obtain ⟨nt_20, yt_20, et_20, lt_20, gt_20, H⟩ := H
      subst et_20
      have nc_98 : ¬ (nt_20 < 0) := by have := of_decide_eq_false ht_11; omega
      obtain ⟨t_20_id, t_20_year, t_20_town, t_20_traits⟩ := yt_20
      replace H := unSighting_hid H
      obtain ⟨bbt_20, oot_20, zt_20, Art_20, crt_20, eAt_20, zzt_20, hKt_20, hrt_20, hqt_20, hnt_20⟩ := Go.Proofs.Ytpaakpbbahbhcaa.GoV.nest_at M0.out (k := nt_20) lt_20
      obtain rfl := Option.some.inj (gt_20.out.symm.trans zzt_20)
      clear zzt_20
      subst eAt_20
      have hct_20_0 : w.cell? ⟨bbt_20, oot_20 + nt_20 * 4, none⟩ = some (.int .i64 t_20_id) := hKt_20 0 _ rfl
      have hct_20_1 : w.cell? ⟨bbt_20, oot_20 + nt_20 * 4 + 1, none⟩ = some (.int .i64 t_20_year) := hKt_20 1 _ rfl
      have hct_20_2 : w.cell? ⟨bbt_20, oot_20 + nt_20 * 4 + 2, none⟩ = some (.string t_20_town) := hKt_20 2 _ rfl
      have hct_20_3 : w.cell? ⟨bbt_20, oot_20 + nt_20 * 4 + 3, none⟩ = some (.slice Art_20 t_20_traits.length crt_20) := hKt_20 3 _ rfl
      clear hKt_20
      have ltt_20 := cell_lt hct_20_0
      replace hct_20_0 := cell_below HBwt_7.out hct_20_0
      replace hct_20_1 := cell_below HBwt_7.out hct_20_1
      replace hct_20_2 := cell_below HBwt_7.out hct_20_2
      replace hct_20_3 := cell_below HBwt_7.out hct_20_3
      have Mrt_20 := Lib.hid hrt_20
      have Qrt_20 := Lib.hid hqt_20
      have Nrt_20 := Lib.hid hnt_20
      clear hrt_20 hqt_20 hnt_20
      have b0t_20 : (0 : Int) ≤ (nt_20 : Int) := by omega
      have b1t_20 : (nt_20 : Int) < ((list.length : Nat) : Int) := by omega
      have b2t_20 : ((nt_20 : Int)).toNat = nt_20 := by omega
      have Hhct_20_0 := Lib.hid hct_20_0
      replace hct_20_0 := cell_regrown hct_20_0
      have Hhct_20_1 := Lib.hid hct_20_1
      replace hct_20_1 := cell_regrown hct_20_1
      have Hhct_20_2 := Lib.hid hct_20_2
      replace hct_20_2 := cell_regrown hct_20_2
      have Hhct_20_3 := Lib.hid hct_20_3
      replace hct_20_3 := cell_regrown hct_20_3
      replace H := idx_hid H
      obtain ⟨nt_24, yt_24, et_24, lt_24, gt_24, H⟩ := H
      subst et_24
      have nc_99 : ¬ (nt_24 < 0) := by have := of_decide_eq_false ht_14; omega
      obtain ⟨t_24_id, t_24_year, t_24_town, t_24_traits⟩ := yt_24
      replace H := unSighting_hid H
      obtain ⟨bbt_24, oot_24, zt_24, Art_24, crt_24, eAt_24, zzt_24, hKt_24, hrt_24, hqt_24, hnt_24⟩ := Go.Proofs.Ytpaakpbbahbhcaa.GoV.nest_at M0.out (k := nt_24) lt_24
      obtain rfl := Option.some.inj (gt_24.out.symm.trans zzt_24)
      clear zzt_24
      simp only [Option.some.injEq, Addr.mk.injEq] at eAt_24
      obtain ⟨rfl, rfl, _⟩ := eAt_24
      have hct_24_0 : w.cell? ⟨bbt_20, oot_20 + nt_24 * 4, none⟩ = some (.int .i64 t_24_id) := hKt_24 0 _ rfl
      have hct_24_1 : w.cell? ⟨bbt_20, oot_20 + nt_24 * 4 + 1, none⟩ = some (.int .i64 t_24_year) := hKt_24 1 _ rfl
      have hct_24_2 : w.cell? ⟨bbt_20, oot_20 + nt_24 * 4 + 2, none⟩ = some (.string t_24_town) := hKt_24 2 _ rfl
      have hct_24_3 : w.cell? ⟨bbt_20, oot_20 + nt_24 * 4 + 3, none⟩ = some (.slice Art_24 t_24_traits.length crt_24) := hKt_24 3 _ rfl
      clear hKt_24
      have ltt_24 := cell_lt hct_24_0
      replace hct_24_0 := cell_below HBwt_7.out hct_24_0
      replace hct_24_1 := cell_below HBwt_7.out hct_24_1
      replace hct_24_2 := cell_below HBwt_7.out hct_24_2
      replace hct_24_3 := cell_below HBwt_7.out hct_24_3
      have Mrt_24 := Lib.hid hrt_24
      have Qrt_24 := Lib.hid hqt_24
      have Nrt_24 := Lib.hid hnt_24
      clear hrt_24 hqt_24 hnt_24
      have b0t_24 : (0 : Int) ≤ (nt_24 : Int) := by omega
      have b1t_24 : (nt_24 : Int) < ((list.length : Nat) : Int) := by omega
      have b2t_24 : ((nt_24 : Int)).toNat = nt_24 := by omega
      have Hhct_24_0 := Lib.hid hct_24_0
      replace hct_24_0 := cell_regrown hct_24_0
      have Hhct_24_1 := Lib.hid hct_24_1
      replace hct_24_1 := cell_regrown hct_24_1
      have Hhct_24_2 := Lib.hid hct_24_2
      replace hct_24_2 := cell_regrown hct_24_2
      have Hhct_24_3 := Lib.hid hct_24_3
      replace hct_24_3 := cell_regrown hct_24_3
      replace H := bind_hid H
      obtain ⟨t_26, qt_26, H⟩ := H
      have nt_26 : ∀ d os, Calls Try.prog 59 #[.agg #[.int .i64 t_20_id, .int .i64 t_20_year, .string t_20_town, .slice Art_20 t_20_traits.length crt_20], .agg #[.int .i64 t_24_id, .int .i64 t_24_year, .string t_24_town, .slice Art_24 t_24_traits.length crt_24]] (Go.Sort.grow (redrawn wt_7 d) os) fun e w'' => e = .returned (.int .i64 t_26) ∧ ∃ p : Regrown, w'' = Go.Sort.grow (redrawn wt_7 p.d) p.os := fun d os => Calls.regrown_of (Go.Proofs.Ytpaakpbbahbhcaa.GiEvidence.C (t_20_id) (t_20_year) (t_20_town) (t_20_traits) (t_24_id) (t_24_year) (t_24_town) (t_24_traits) Art_20 crt_20 Art_24 crt_24 _   (Lib.hid (Cells.below (Cells.below Mrt_20.out HBwt_7.out) (below_regrown _ _ _))) Nrt_20 (Lib.hid (Cells.below (Cells.below Mrt_24.out HBwt_7.out) (below_regrown _ _ _))) Nrt_24 qt_26)
      refine wp_region_quiet_below (by kernel_rfl) (by kernel_rfl) ?_
      repeat (go_big_quiet_step (first | (go_at_call 59; exact nt_26 _ _)))
      refine wpQuiet_nil ?_
      intro Y4 hY4
      replace hY4 := below_class hY4
      clear nt_26
      replace hct_20_0 := Hhct_20_0.out
      clear Hhct_20_0
      replace hct_20_1 := Hhct_20_1.out
      clear Hhct_20_1
      replace hct_20_2 := Hhct_20_2.out
      clear Hhct_20_2
      replace hct_20_3 := Hhct_20_3.out
      clear Hhct_20_3
      replace hct_24_0 := Hhct_24_0.out
      clear Hhct_24_0
      replace hct_24_1 := Hhct_24_1.out
      clear Hhct_24_1
      replace hct_24_2 := Hhct_24_2.out
      clear Hhct_24_2
      replace hct_24_3 := Hhct_24_3.out
      clear Hhct_24_3
      have HBY4 := Lib.hid (Below.step HBwt_7.out hY4)
      replace hct_20_0 := cell_below hY4 hct_20_0
      replace hct_20_1 := cell_below hY4 hct_20_1
      replace hct_20_2 := cell_below hY4 hct_20_2
      replace hct_20_3 := cell_below hY4 hct_20_3
      replace hct_24_0 := cell_below hY4 hct_24_0
      replace hct_24_1 := cell_below hY4 hct_24_1
      replace hct_24_2 := cell_below hY4 hct_24_2
      replace hct_24_3 := cell_below hY4 hct_24_3
      clear hY4
      cases ret_hid H
      go_wp2_with fail
      go_ret2
      exact ⟨rfl, HBY4.out⟩
    | true =>
      replace H := ite_t H
      cases ret_hid H
      go_wp2_with fail
      go_ret2
      exact ⟨rfl, HBwt_7.out⟩
  | true =>
    replace H := ite_t H
    replace H := app_hid H
    replace H := ite_t H
    cases ret_hid H
    go_wp2_with fail
    go_ret2
    exact ⟨rfl, HBwt_7.out⟩
end Go.Proofs.Ytpaakpbbahbhcaa.GiEvidenceOf

/- loop.example/g01062/laws.FnExactEvidenceOf as a plain function, and the contract of the program's: where the plain one has an answer, the program has it. Conditions: slices read as lists. -/
namespace Go.Proofs.Ytpaakpbbahbhcaa.GlFnExactEvidenceOf
set_option linter.unusedVariables false
set_option linter.unusedSimpArgs false
open Go.RowKit
open Go.Proofs.Ytpaakpbbahbhcaa.Rowed Go.Proofs.Ytpaakpbbahbhcaa.Turn Go.Proofs.Ytpaakpbbahbhcaa.Aid Go.Proofs.Ytpaakpbbahbhcaa.GoP Go.Proofs.Ytpaakpbbahbhcaa.GoM

def P (fuel : Nat) (aList : (List Go.Proofs.Ytpaakpbbahbhcaa.PSighting.Sighting)) (aA : Int) (aB : Int) : Option (Bool) :=
  Option.bind (Go.Proofs.Ytpaakpbbahbhcaa.GlSzSightingS.P aList 1048576) fun (t_4 : Int) =>
  letK (decide (t_4 < 0)) fun (t_7 : Bool) =>
  iteK t_7
  (some true)
  (Option.bind (Go.Proofs.Ytpaakpbbahbhcaa.GlToSightingS.P aList) fun (t_10 : (List Go.Proofs.Ytpaakpbbahbhcaa.PSighting.Sighting)) =>
  bind2 (Go.Proofs.Ytpaakpbbahbhcaa.GsEvidenceOf.P fuel t_10 aA aB) fun (t_13a : Int) (t_13b : Bool) =>
  Option.bind (Go.Proofs.Ytpaakpbbahbhcaa.GlToSightingS.P aList) fun (t_20 : (List Go.Proofs.Ytpaakpbbahbhcaa.PSighting.Sighting)) =>
  bind2 (Go.Proofs.Ytpaakpbbahbhcaa.GiEvidenceOf.P t_20 aA aB) fun (t_25a : Int) (t_25b : Bool) =>
  letK (t_25a != t_13a) fun (t_33 : Bool) =>
  joinK (fun (t_38 : Bool) =>
  iteK t_38
  (some false)
  (Option.bind (Go.Proofs.Ytpaakpbbahbhcaa.GlToSightingS.P aList) fun (t_42 : (List Go.Proofs.Ytpaakpbbahbhcaa.PSighting.Sighting)) =>
  Option.bind (Go.Proofs.Ytpaakpbbahbhcaa.GlEqSightingS.P t_20 t_42) fun (t_43 : Bool) =>
  letK (!t_43) fun (t_44 : Bool) =>
  iteK t_44
  (some false)
  (some true))) fun jt_38 => iteK t_33 (appK jt_38 true) (letK (!(t_25b == t_13b)) fun (t_37 : Bool) =>
  appK jt_38 t_37))

set_option maxRecDepth 100000 in
set_option maxHeartbeats 2000000 in
theorem C (fuel : Nat) (aList : (List Go.Proofs.Ytpaakpbbahbhcaa.PSighting.Sighting)) (aA : Int) (aB : Int) (A0 : Option Addr) (c0 : Nat)  (w : World) (M0 : Hid (Go.Proofs.Ytpaakpbbahbhcaa.GoV.ReadNest w Go.Proofs.Ytpaakpbbahbhcaa.GoVSighting.lay A0 aList)) (N0 : Hid (aList.length ≤ 9223372036854775807))  {r : Bool} (H : Hid (P fuel aList aA aB = some r)) :
    Calls Try.prog 5 #[.slice A0 aList.length c0, .int .i64 aA, .int .i64 aB] w (Gives (.bool r) w) := by
  have HB := Lib.hid (Below.refl w.heap.size w)
  unfold P at H
  have N0o := N0.out
  go_enter Try.func5, Try.ntmps5
  replace H := bind_hid H
  obtain ⟨t_4, qt_4, H⟩ := H
  go_wp2_with fail
  go_at_call 30
  refine (Go.Proofs.Ytpaakpbbahbhcaa.GlSzSightingS.C (aList) (1048576) A0 c0 _   (Lib.hid (Go.Proofs.Ytpaakpbbahbhcaa.GoV.read_below M0.out HB.out)) N0 qt_4).mono ?_
  rintro e_t_4 wt_4 ⟨rfl, bt_4⟩
  have HBwt_4 := Lib.hid (Below.step HB.out bt_4)
  clear bt_4
  replace H := let_hid H
  obtain ⟨t_7, ht_7, H⟩ := H
  cases t_7 with
  | false =>
    replace H := ite_f H
    replace H := bind_hid H
    obtain ⟨t_10, qt_10, H⟩ := H
    go_wp2_with fail
    go_at_call 31
    refine (Go.Proofs.Ytpaakpbbahbhcaa.GlToSightingS.C (aList) A0 c0 _   (Lib.hid (Go.Proofs.Ytpaakpbbahbhcaa.GoV.read_below M0.out HBwt_4.out)) N0 qt_10).mono ?_
    rintro e_t_10 wt_10 ⟨At_10, ct_10, rfl, ⟨Bt_10, ot_10⟩, bt_10⟩
    have Ot_10 := Lib.hid (Go.Proofs.Ytpaakpbbahbhcaa.GoV.nest_lower ot_10 HBwt_4.out.size)
    clear ot_10
    have HBwt_10 := Lib.hid (Below.step HBwt_4.out bt_10)
    clear bt_10
    replace H := bind2_hid H
    obtain ⟨t_13a, t_13b, qt_13, H⟩ := H
    go_wp2_with fail
    go_at_call 19
    refine (Go.Proofs.Ytpaakpbbahbhcaa.GsEvidenceOf.C fuel (t_10) (aA) (aB) At_10 ct_10 _   (Lib.hid (Go.Proofs.Ytpaakpbbahbhcaa.GoV.nest_read Ot_10.out)) (Lib.hid (Go.Proofs.Ytpaakpbbahbhcaa.GoV.nest_max Ot_10.out)) qt_13).mono ?_
    rintro e_t_13 wt_13 ⟨rfl, bt_13⟩
    have HBwt_13 := Lib.hid (Below.step HBwt_10.out bt_13)
    replace Ot_10 := Lib.hid (Go.Proofs.Ytpaakpbbahbhcaa.GoV.nest_below Ot_10.out bt_13)
    clear bt_13
    replace H := bind_hid H
    obtain ⟨t_20, qt_20, H⟩ := H
    go_wp2_with fail
    go_at_call 31
    refine (Go.Proofs.Ytpaakpbbahbhcaa.GlToSightingS.C (aList) A0 c0 _   (Lib.hid (Go.Proofs.Ytpaakpbbahbhcaa.GoV.read_below M0.out HBwt_13.out)) N0 qt_20).mono ?_
    rintro e_t_20 wt_20 ⟨At_20, ct_20, rfl, ⟨Bt_20, ot_20⟩, bt_20⟩
    have Dt_20_t_10 := Lib.hid (Go.Proofs.Ytpaakpbbahbhcaa.GoV.lts_apart (Go.Proofs.Ytpaakpbbahbhcaa.GoV.nest_lt ot_20) (Go.Proofs.Ytpaakpbbahbhcaa.GoV.nest_lt Ot_10.out))
    have Ot_20 := Lib.hid (Go.Proofs.Ytpaakpbbahbhcaa.GoV.nest_lower ot_20 HBwt_13.out.size)
    clear ot_20
    have HBwt_20 := Lib.hid (Below.step HBwt_13.out bt_20)
    replace Ot_10 := Lib.hid (Go.Proofs.Ytpaakpbbahbhcaa.GoV.nest_below Ot_10.out bt_20)
    clear bt_20
    replace H := bind2_hid H
    obtain ⟨t_25a, t_25b, qt_25, H⟩ := H
    go_wp2_with fail
    go_at_call 18
    refine (Go.Proofs.Ytpaakpbbahbhcaa.GiEvidenceOf.C (t_20) (aA) (aB) At_20 ct_20 _   (Lib.hid (Go.Proofs.Ytpaakpbbahbhcaa.GoV.nest_read Ot_20.out)) (Lib.hid (Go.Proofs.Ytpaakpbbahbhcaa.GoV.nest_max Ot_20.out)) qt_25).mono ?_
    rintro e_t_25 wt_25 ⟨rfl, bt_25⟩
    have HBwt_25 := Lib.hid (Below.step HBwt_20.out bt_25)
    replace Ot_10 := Lib.hid (Go.Proofs.Ytpaakpbbahbhcaa.GoV.nest_below Ot_10.out bt_25)
    replace Ot_20 := Lib.hid (Go.Proofs.Ytpaakpbbahbhcaa.GoV.nest_below Ot_20.out bt_25)
    clear bt_25
    replace H := let_hid H
    obtain ⟨t_33, ht_33, H⟩ := H
    replace H := join_hid H
    cases t_33 with
    | false =>
      replace H := ite_f H
      replace H := let_hid H
      obtain ⟨t_37, ht_37, H⟩ := H
      replace H := app_hid H
      cases t_37 with
      | false =>
        replace H := ite_f H
        replace H := bind_hid H
        obtain ⟨t_42, qt_42, H⟩ := H
        go_wp2_with fail
        go_at_call 31
        refine (Go.Proofs.Ytpaakpbbahbhcaa.GlToSightingS.C (aList) A0 c0 _   (Lib.hid (Go.Proofs.Ytpaakpbbahbhcaa.GoV.read_below M0.out HBwt_25.out)) N0 qt_42).mono ?_
        rintro e_t_42 wt_42 ⟨At_42, ct_42, rfl, ⟨Bt_42, ot_42⟩, bt_42⟩
        have Dt_42_t_10 := Lib.hid (Go.Proofs.Ytpaakpbbahbhcaa.GoV.lts_apart (Go.Proofs.Ytpaakpbbahbhcaa.GoV.nest_lt ot_42) (Go.Proofs.Ytpaakpbbahbhcaa.GoV.nest_lt Ot_10.out))
        have Dt_42_t_20 := Lib.hid (Go.Proofs.Ytpaakpbbahbhcaa.GoV.lts_apart (Go.Proofs.Ytpaakpbbahbhcaa.GoV.nest_lt ot_42) (Go.Proofs.Ytpaakpbbahbhcaa.GoV.nest_lt Ot_20.out))
        have Ot_42 := Lib.hid (Go.Proofs.Ytpaakpbbahbhcaa.GoV.nest_lower ot_42 HBwt_25.out.size)
        clear ot_42
        have HBwt_42 := Lib.hid (Below.step HBwt_25.out bt_42)
        replace Ot_10 := Lib.hid (Go.Proofs.Ytpaakpbbahbhcaa.GoV.nest_below Ot_10.out bt_42)
        replace Ot_20 := Lib.hid (Go.Proofs.Ytpaakpbbahbhcaa.GoV.nest_below Ot_20.out bt_42)
        clear bt_42
        replace H := bind_hid H
        obtain ⟨t_43, qt_43, H⟩ := H
        go_wp2_with fail
        go_at_call 32
        refine (Go.Proofs.Ytpaakpbbahbhcaa.GlEqSightingS.C (t_20) (t_42) At_20 ct_20 At_42 ct_42 _   (Lib.hid (Go.Proofs.Ytpaakpbbahbhcaa.GoV.nest_read Ot_20.out)) (Lib.hid (Go.Proofs.Ytpaakpbbahbhcaa.GoV.nest_max Ot_20.out)) (Lib.hid (Go.Proofs.Ytpaakpbbahbhcaa.GoV.nest_read Ot_42.out)) (Lib.hid (Go.Proofs.Ytpaakpbbahbhcaa.GoV.nest_max Ot_42.out)) qt_43).mono ?_
        rintro e_t_43 wt_43 ⟨rfl, bt_43⟩
        have HBwt_43 := Lib.hid (Below.step HBwt_42.out bt_43)
        replace Ot_10 := Lib.hid (Go.Proofs.Ytpaakpbbahbhcaa.GoV.nest_below Ot_10.out bt_43)
        replace Ot_20 := Lib.hid (Go.Proofs.Ytpaakpbbahbhcaa.GoV.nest_below Ot_20.out bt_43)
        replace Ot_42 := Lib.hid (Go.Proofs.Ytpaakpbbahbhcaa.GoV.nest_below Ot_42.out bt_43)
        clear bt_43
        cases t_43 with
        | false =>
          replace H := let_hid H
          obtain ⟨t_44, ht_44, H⟩ := H
          obtain rfl : t_44 = true := ht_44.symm
          replace H := ite_t H
          obtain rfl := ret_hid H
          go_wp2_with fail
          go_ret
          exact ⟨rfl, HBwt_43.out⟩
        | true =>
          replace H := let_hid H
          obtain ⟨t_44, ht_44, H⟩ := H
          obtain rfl : t_44 = false := ht_44.symm
          replace H := ite_f H
          obtain rfl := ret_hid H
          go_wp2_with fail
          go_ret
          exact ⟨rfl, HBwt_43.out⟩
      | true =>
        replace H := ite_t H
        obtain rfl := ret_hid H
        go_wp2_with fail
        go_ret
        exact ⟨rfl, HBwt_25.out⟩
    | true =>
      replace H := ite_t H
      replace H := app_hid H
      replace H := ite_t H
      obtain rfl := ret_hid H
      go_wp2_with fail
      go_ret
      exact ⟨rfl, HBwt_25.out⟩
  | true =>
    replace H := ite_t H
    obtain rfl := ret_hid H
    go_wp2_with fail
    go_ret
    exact ⟨rfl, HBwt_4.out⟩
end Go.Proofs.Ytpaakpbbahbhcaa.GlFnExactEvidenceOf

/- Chapter 13: censuses: the plain functions of the program and of the reference agree, and the laws answer true. (Q13EvOf) No condition but those of each theorem. -/
namespace Go.Proofs.Ytpaakpbbahbhcaa.Q13EvOf
set_option linter.unusedVariables false
set_option linter.unusedSimpArgs false
open Go.RowKit
open Go.Proofs.Ytpaakpbbahbhcaa.GoP Go.Proofs.Ytpaakpbbahbhcaa.PlainStamp Go.Proofs.Ytpaakpbbahbhcaa.QBase Go.Proofs.Ytpaakpbbahbhcaa.Q13Find Go.Proofs.Ytpaakpbbahbhcaa.Q13Ev Go.Proofs.Ytpaakpbbahbhcaa.Q13List Go.Proofs.Ytpaakpbbahbhcaa.Q13One Go.Proofs.Ytpaakpbbahbhcaa.QUp Go.Proofs.Ytpaakpbbahbhcaa.QLoop Go.Proofs.Ytpaakpbbahbhcaa.PSighting

def evOf (l : List Sighting) (a b : Int) : Int × Bool :=
  if okSis l = true then (match l[(fnd l a).toNat]?, l[(fnd l b).toNat]? with | some x, some y => if fnd l a < 0 ∨ fnd l b < 0 then (0, false) else (ev x y, true) | _, _ => (0, false)) else (0, false)
theorem evOf_impl (l : List Sighting) (a b : Int) : GiEvidenceOf.P l a b = some (evOf l a b) := by
  simp only [GiEvidenceOf.P, indexOf_eq, Option.bind_some, letK, joinK, appK, iteK_if, evOf]
  cases hk : okSis l with
  | false => simp
  | true =>
    simp only [if_true]
    rcases find_cases l a with ⟨i, x, h1, h2, _⟩ | ⟨h1, _⟩
    · rcases find_cases l b with ⟨j, y, g1, g2, _⟩ | ⟨g1, _⟩
      · have hi : idx l (i : Int) = some x := by rw [idx_nat, h2]
        have hj : idx l (j : Int) = some y := by rw [idx_nat, g2]
        have hx := (okSi_of (okSis_at hk (List.mem_of_getElem? h2))).2.2.2.1
        have hy := (okSi_of (okSis_at hk (List.mem_of_getElem? g2))).2.2.2.1
        rw [h1, g1, Int.toNat_natCast, Int.toNat_natCast, h2, g2]
        simp only [hi, hj, Option.bind_some, unSighting, evidence_eq x y (by omega) (by omega)]
        rw [if_neg (by simp), if_neg (by simp), if_neg (by omega)]
      · rw [h1, g1, Int.toNat_natCast, h2]
        rw [if_neg (by simp)]
        cases l[(-1 : Int).toNat]? <;> simp
    · rw [h1]
      cases l[(-1 : Int).toNat]? <;> cases l[(fnd l b).toNat]? <;> simp
theorem evOf_spec (l : List Sighting) (a b : Int) (hf : ∀ s ∈ l, sz13 s) (hl : l.length ≤ 9223372036854775807) (fuel : Nat) (hfu : 2000 ≤ fuel) : GsEvidenceOf.P fuel l a b = some (evOf l a b) := by
  simp only [GsEvidenceOf.P, l13Find_eq, l13Good_eq l hf hl, Option.bind_some, letK, joinK, appK, iteK_if, evOf]
  cases hk : okSis l with
  | false => simp
  | true =>
    simp only [Bool.not_true, Bool.false_eq_true, if_false, if_true]
    rcases find_cases l a with ⟨i, x, h1, h2, _⟩ | ⟨h1, _⟩
    · rcases find_cases l b with ⟨j, y, g1, g2, _⟩ | ⟨g1, _⟩
      · have hi : idx l (i : Int) = some x := by rw [idx_nat, h2]
        have hj : idx l (j : Int) = some y := by rw [idx_nat, g2]
        have hx := (okSi_of (okSis_at hk (List.mem_of_getElem? h2))).2.2.2.1
        have hy := (okSi_of (okSis_at hk (List.mem_of_getElem? g2))).2.2.2.1
        rw [h1, g1, Int.toNat_natCast, Int.toNat_natCast, h2, g2]
        simp only [hi, hj, Option.bind_some, unSighting, l13Evidence_eq x y (by omega) (by omega) fuel hfu]
        rw [if_neg (by simp), if_neg (by simp), if_neg (by omega)]
      · rw [h1, g1, Int.toNat_natCast, h2]
        rw [if_neg (by simp)]
        cases l[(-1 : Int).toNat]? <;> simp
    · rw [h1]
      cases l[(-1 : Int).toNat]? <;> cases l[(fnd l b).toNat]? <;> simp
end Go.Proofs.Ytpaakpbbahbhcaa.Q13EvOf

/- Chapter 13: censuses: the plain functions of the program and of the reference agree, and the laws answer true. (QL13EvOf) No condition but those of each theorem. -/
namespace Go.Proofs.Ytpaakpbbahbhcaa.QL13EvOf
set_option linter.unusedVariables false
set_option linter.unusedSimpArgs false
open Go.RowKit
open Go.Proofs.Ytpaakpbbahbhcaa.GoP Go.Proofs.Ytpaakpbbahbhcaa.PlainStamp Go.Proofs.Ytpaakpbbahbhcaa.QBase Go.Proofs.Ytpaakpbbahbhcaa.Q13EvOf Go.Proofs.Ytpaakpbbahbhcaa.Q13One Go.Proofs.Ytpaakpbbahbhcaa.QF13 Go.Proofs.Ytpaakpbbahbhcaa.QLoop Go.Proofs.Ytpaakpbbahbhcaa.PSighting Go.Proofs.Ytpaakpbbahbhcaa.QHVSightingE

theorem law_evidenceOf (fuel : Nat) (hfu : 2000 ≤ fuel) (l : List Sighting) (a b : Int) (hF : ∀ s ∈ l, Go.Proofs.Ytpaakpbbahbhcaa.OVSighting.Fits s) (hl : l.length ≤ 9223372036854775807) : GlFnExactEvidenceOf.P fuel l a b = some true := by
  have hf : ∀ s ∈ l, sz13 s := fun s hs => fits_sz (hF s hs)
  obtain ⟨v, hv, hn⟩ := szS l hf hl
  simp only [GlFnExactEvidenceOf.P, hv, Option.bind_some, letK, iteK_if]
  by_cases hb : v < 0
  · rw [if_pos (by simpa using hb)]
  · rw [if_neg (by simpa using hb)]
    obtain ⟨⟨p, q⟩, hr⟩ : ∃ x, x = evOf l a b := ⟨_, rfl⟩
    simp [toS l (hn (by omega)), evOf_impl, evOf_spec l a b hf hl fuel hfu, ← hr, bind2, joinK, appK, iteK_if, eqS]
end Go.Proofs.Ytpaakpbbahbhcaa.QL13EvOf

