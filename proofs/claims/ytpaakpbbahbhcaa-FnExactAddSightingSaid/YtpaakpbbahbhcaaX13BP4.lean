/- Texts on which the proofs of several laws stand, one behind the other (4 of 6). No condition of their own. -/
import Derived.Test.YtpaakpbbahbhcaaChecked
import Derived.Test.YtpaakpbbahbhcaaX13BP1
import Derived.Test.YtpaakpbbahbhcaaX13BP3
import Derived.WalkKit
import Derived.WalkSpells
import Derived.WalkLawsBesides
import Derived.BigQuiet
import Derived.OwnWalk
import Derived.Deep.LoopGhost
import Derived.Deep.QuietTactic
import Derived.IntWalk
import Derived.Lib.QuietBelow
import Derived.Lib.Hide
import Derived.Outline
import Derived.Lib.ItoaLen
import Derived.Lib.ItoaMem
import Derived.Laws.IdiomStrings
import Derived.Deep.RegionHeld3
/- loop.example/g01062/impl.areByKey[loop.example/g01062/impl.Sighting,int] as a plain function, and the contract of the program's: where the plain one has an answer, the program has it. Conditions: slices read as lists. -/
namespace Go.Proofs.Ytpaakpbbahbhcaa.GiAreByKeySightingIntiIsSightingiIdOfSighting
set_option linter.unusedVariables false
set_option linter.unusedSimpArgs false
open Go.RowKit
open Go.Proofs.Ytpaakpbbahbhcaa.Rowed Go.Proofs.Ytpaakpbbahbhcaa.Turn Go.Proofs.Ytpaakpbbahbhcaa.Aid Go.Proofs.Ytpaakpbbahbhcaa.GoP Go.Proofs.Ytpaakpbbahbhcaa.GoM

def l0 (list : (List Go.Proofs.Ytpaakpbbahbhcaa.PSighting.Sighting)) (k0 : Nat) (s : Unit) (nx0 bk0 : Unit → Option (Bool)) : Option (Bool) :=
  
  Option.bind (idx list (k0 : Int)) fun (yt_11 : Go.Proofs.Ytpaakpbbahbhcaa.PSighting.Sighting) =>
  unSighting yt_11 fun (t_11_id : Int) (t_11_year : Int) (t_11_town : ByteArray) (t_11_traits : (List Int)) =>
  Option.bind (Go.Proofs.Ytpaakpbbahbhcaa.GiIsSighting.P t_11_id t_11_year t_11_town t_11_traits) fun (t_18 : Bool) =>
  letK (!t_18) fun (t_19 : Bool) =>
  joinK (fun (t_36 : Bool) =>
  iteK t_36
  (some false)
  (appK nx0 ())) fun jt_36 => iteK t_19 (appK jt_36 true) (letK (decide (0 < (k0 : Int))) fun (t_22 : Bool) =>
  joinK (fun (t_35 : Bool) =>
  appK jt_36 t_35) fun jt_35 => iteK t_22 (Option.bind (Go.Proofs.Ytpaakpbbahbhcaa.GiIdOfSighting.P t_11_id t_11_year t_11_town t_11_traits) fun (t_26 : Int) =>
  letK (IntKind.i64.wrap ((k0 : Int) - 1)) fun (t_30 : Int) =>
  Option.bind (idx list t_30) fun (yt_31 : Go.Proofs.Ytpaakpbbahbhcaa.PSighting.Sighting) =>
  unSighting yt_31 fun (t_31_id : Int) (t_31_year : Int) (t_31_town : ByteArray) (t_31_traits : (List Int)) =>
  Option.bind (Go.Proofs.Ytpaakpbbahbhcaa.GiIdOfSighting.P t_31_id t_31_year t_31_town t_31_traits) fun (t_33 : Int) =>
  letK (decide (t_26 ≤ t_33)) fun (t_34 : Bool) =>
  appK jt_35 t_34) (appK jt_35 false))

def e0  (s : Unit) : Option (Bool) :=
  
  some true

def P (list : (List Go.Proofs.Ytpaakpbbahbhcaa.PSighting.Sighting)) (most : Int) : Option (Bool) :=
  letK (decide (most < (list.length : Int))) fun (t_4 : Bool) =>
  iteK t_4
  (some false)
  (cntK (l0 list) (list.length) 0 () (e0 ))

set_option maxRecDepth 100000 in
set_option maxHeartbeats 2000000 in
theorem C (list : (List Go.Proofs.Ytpaakpbbahbhcaa.PSighting.Sighting)) (most : Int) (A0 : Option Addr) (c0 : Nat)  (w : World) (M0 : Hid (Go.Proofs.Ytpaakpbbahbhcaa.GoV.ReadNest w Go.Proofs.Ytpaakpbbahbhcaa.GoVSighting.lay A0 list)) (N0 : Hid (list.length ≤ 9223372036854775807))  {r : Bool} (H : Hid (P list most = some r)) :
    Calls Try.prog 66 #[.slice A0 list.length c0, .int .i64 most, .func (.func 67) #[] #[], .func (.func 68) #[] #[]] w (Gives (.bool r) w) := by
  have HB := Lib.hid (Below.refl w.heap.size w)
  unfold P at H
  have N0o := N0.out
  go_enter Try.func66, Try.ntmps66
  replace H := let_hid H
  obtain ⟨t_4, ht_4, H⟩ := H
  cases t_4 with
  | false =>
    replace H := ite_f H
    go_wp2_with fail
    go_loopg [17] (list.length) (fun m_ v17_ wr => ∃ (k0 : Nat) , k0 + m_ = list.length ∧ v17_ = .int .i64 (k0 : Int) ∧ Hid (cntK (l0 list) m_ k0 () (e0 ) = some r) ∧ Hid (Below w.heap.size w wr))
    case atStart => exact ⟨0, by omega, rfl, H, HB⟩
    case round =>
      obtain ⟨k0, hkm0, rfl, H, HBwr0⟩ := hrel
      rename World => wr0
      cases gk with
      | zero =>
        obtain rfl : k0 = list.length := by omega
        have hc0 : decide (((list.length : Nat) : Int) < ((list.length : Nat) : Int)) = false := by simp
        replace H := cnt_zero H
        unfold e0 at H
        obtain rfl := ret_hid H
        go_wp2_with fail
        go_ret
        exact ⟨rfl, HBwr0.out⟩
      | succ m0 =>
        have hlt0 : k0 < list.length := by omega
        have hc0 : decide ((k0 : Int) < ((list.length : Nat) : Int)) = true := by simp; omega
        replace H := cnt_succ H
        unfold l0 at H
        replace H := idx_hid H
        obtain ⟨nt_11, yt_11, et_11, lt_11, gt_11, H⟩ := H
        obtain rfl : k0 = nt_11 := by omega
        clear et_11
        obtain ⟨t_11_id, t_11_year, t_11_town, t_11_traits⟩ := yt_11
        replace H := unSighting_hid H
        obtain ⟨bbt_11, oot_11, zt_11, Art_11, crt_11, eAt_11, zzt_11, hKt_11, hrt_11, hqt_11, hnt_11⟩ := Go.Proofs.Ytpaakpbbahbhcaa.GoV.nest_at M0.out (k := k0) lt_11
        obtain rfl := Option.some.inj (gt_11.out.symm.trans zzt_11)
        clear zzt_11
        subst eAt_11
        have hct_11_0 : w.cell? ⟨bbt_11, oot_11 + k0 * 4, none⟩ = some (.int .i64 t_11_id) := hKt_11 0 _ rfl
        have hct_11_1 : w.cell? ⟨bbt_11, oot_11 + k0 * 4 + 1, none⟩ = some (.int .i64 t_11_year) := hKt_11 1 _ rfl
        have hct_11_2 : w.cell? ⟨bbt_11, oot_11 + k0 * 4 + 2, none⟩ = some (.string t_11_town) := hKt_11 2 _ rfl
        have hct_11_3 : w.cell? ⟨bbt_11, oot_11 + k0 * 4 + 3, none⟩ = some (.slice Art_11 t_11_traits.length crt_11) := hKt_11 3 _ rfl
        clear hKt_11
        have ltt_11 := cell_lt hct_11_0
        replace hct_11_0 := cell_below HBwr0.out hct_11_0
        replace hct_11_1 := cell_below HBwr0.out hct_11_1
        replace hct_11_2 := cell_below HBwr0.out hct_11_2
        replace hct_11_3 := cell_below HBwr0.out hct_11_3
        have Mrt_11 := Lib.hid hrt_11
        have Qrt_11 := Lib.hid hqt_11
        have Nrt_11 := Lib.hid hnt_11
        clear hrt_11 hqt_11 hnt_11
        have b0t_11 : (0 : Int) ≤ (k0 : Int) := by omega
        have b1t_11 : (k0 : Int) < ((list.length : Nat) : Int) := by omega
        have b2t_11 : ((k0 : Int)).toNat = k0 := by omega
        obtain ⟨w_e_13, hw_e_13⟩ : ∃ x, wr0.alloc (.cells #[.int .i64 t_11_id, .int .i64 t_11_year, .string t_11_town, .slice Art_11 t_11_traits.length crt_11] 67) = x := ⟨_, rfl⟩
        have bw_e_13 : Below wr0.heap.size wr0 w_e_13 := by rw [← hw_e_13]; exact (Below.refl _ _).alloc (Nat.le_refl _) _
        have HBw_e_13 := Lib.hid (Below.step HBwr0.out bw_e_13)
        have hct_11_0__122 := cell_below bw_e_13 hct_11_0
        have hct_11_1__123 := cell_below bw_e_13 hct_11_1
        have hct_11_2__124 := cell_below bw_e_13 hct_11_2
        have hct_11_3__125 := cell_below bw_e_13 hct_11_3
        clear bw_e_13
        have ke_13_0 : w_e_13.cell? ⟨wr0.heap.size, 0, none⟩ = some (.int .i64 t_11_id) := by rw [← hw_e_13]; exact box_new _ _ _ 0 _ rfl
        have ke_13_1 : w_e_13.cell? ⟨wr0.heap.size, 1, none⟩ = some (.int .i64 t_11_year) := by rw [← hw_e_13]; exact box_new _ _ _ 1 _ rfl
        have ke_13_2 : w_e_13.cell? ⟨wr0.heap.size, 2, none⟩ = some (.string t_11_town) := by rw [← hw_e_13]; exact box_new _ _ _ 2 _ rfl
        have ke_13_3 : w_e_13.cell? ⟨wr0.heap.size, 3, none⟩ = some (.slice Art_11 t_11_traits.length crt_11) := by rw [← hw_e_13]; exact box_new _ _ _ 3 _ rfl
        go_wp2_with fail
        clear hct_11_0 hct_11_1 hct_11_2 hct_11_3
        have Hhct_11_0__122 := Lib.hid hct_11_0__122
        replace hct_11_0__122 := cell_regrown hct_11_0__122
        have Hhct_11_1__123 := Lib.hid hct_11_1__123
        replace hct_11_1__123 := cell_regrown hct_11_1__123
        have Hhct_11_2__124 := Lib.hid hct_11_2__124
        replace hct_11_2__124 := cell_regrown hct_11_2__124
        have Hhct_11_3__125 := Lib.hid hct_11_3__125
        replace hct_11_3__125 := cell_regrown hct_11_3__125
        have Hke_13_0 := Lib.hid ke_13_0
        replace ke_13_0 := cell_regrown ke_13_0
        have Hke_13_1 := Lib.hid ke_13_1
        replace ke_13_1 := cell_regrown ke_13_1
        have Hke_13_2 := Lib.hid ke_13_2
        replace ke_13_2 := cell_regrown ke_13_2
        have Hke_13_3 := Lib.hid ke_13_3
        replace ke_13_3 := cell_regrown ke_13_3
        replace H := bind_hid H
        obtain ⟨t_18, qt_18, H⟩ := H
        have nt_18 : ∀ d os, Calls Try.prog 67 #[.agg #[.int .i64 t_11_id, .int .i64 t_11_year, .string t_11_town, .slice Art_11 t_11_traits.length crt_11]] (Go.Sort.grow (redrawn w_e_13 d) os) fun e w'' => e = .returned (.bool t_18) ∧ ∃ p : Regrown, w'' = Go.Sort.grow (redrawn w_e_13 p.d) p.os := fun d os => Calls.regrown_of (Go.Proofs.Ytpaakpbbahbhcaa.GiIsSighting.C (t_11_id) (t_11_year) (t_11_town) (t_11_traits) Art_11 crt_11 _   (Lib.hid (Cells.below (Cells.below Mrt_11.out HBw_e_13.out) (below_regrown _ _ _))) Nrt_11 qt_18)
        cases t_18 with
        | false =>
          replace H := let_hid H
          obtain ⟨t_19, ht_19, H⟩ := H
          obtain rfl : t_19 = true := ht_19.symm
          replace H := join_hid H
          replace H := ite_t H
          replace H := app_hid H
          refine wp_region_quiet_below (by kernel_rfl) (by kernel_rfl) ?_
          repeat (go_big_quiet_step (first | (go_at_call 67; exact nt_18 _ _)))
          refine wpQuiet_nil ?_
          intro Y6 hY6
          replace hY6 := below_class hY6
          clear nt_18
          replace hct_11_0__122 := Hhct_11_0__122.out
          clear Hhct_11_0__122
          replace hct_11_1__123 := Hhct_11_1__123.out
          clear Hhct_11_1__123
          replace hct_11_2__124 := Hhct_11_2__124.out
          clear Hhct_11_2__124
          replace hct_11_3__125 := Hhct_11_3__125.out
          clear Hhct_11_3__125
          replace ke_13_0 := Hke_13_0.out
          clear Hke_13_0
          replace ke_13_1 := Hke_13_1.out
          clear Hke_13_1
          replace ke_13_2 := Hke_13_2.out
          clear Hke_13_2
          replace ke_13_3 := Hke_13_3.out
          clear Hke_13_3
          have HBY6 := Lib.hid (Below.step HBw_e_13.out hY6)
          replace hct_11_0__122 := cell_below hY6 hct_11_0__122
          replace hct_11_1__123 := cell_below hY6 hct_11_1__123
          replace hct_11_2__124 := cell_below hY6 hct_11_2__124
          replace hct_11_3__125 := cell_below hY6 hct_11_3__125
          replace ke_13_0 := cell_below hY6 ke_13_0
          replace ke_13_1 := cell_below hY6 ke_13_1
          replace ke_13_2 := cell_below hY6 ke_13_2
          replace ke_13_3 := cell_below hY6 ke_13_3
          clear hY6
          replace H := ite_t H
          obtain rfl := ret_hid H
          go_wp2_with fail
          go_ret
          exact ⟨rfl, HBY6.out⟩
        | true =>
          replace H := let_hid H
          obtain ⟨t_19, ht_19, H⟩ := H
          obtain rfl : t_19 = false := ht_19.symm
          replace H := join_hid H
          replace H := ite_f H
          replace H := let_hid H
          obtain ⟨t_22, ht_22, H⟩ := H
          replace H := join_hid H
          cases t_22 with
          | false =>
            have nht_22 : ¬ (0 < k0) := by have := of_decide_eq_false ht_22; omega
            replace H := ite_f H
            replace H := app_hid H
            replace H := app_hid H
            refine wp_region_quiet_below (by kernel_rfl) (by kernel_rfl) ?_
            repeat (go_big_quiet_step (first | (go_at_call 67; exact nt_18 _ _)))
            refine wpQuiet_nil ?_
            intro Y6 hY6
            replace hY6 := below_class hY6
            clear nt_18
            replace hct_11_0__122 := Hhct_11_0__122.out
            clear Hhct_11_0__122
            replace hct_11_1__123 := Hhct_11_1__123.out
            clear Hhct_11_1__123
            replace hct_11_2__124 := Hhct_11_2__124.out
            clear Hhct_11_2__124
            replace hct_11_3__125 := Hhct_11_3__125.out
            clear Hhct_11_3__125
            replace ke_13_0 := Hke_13_0.out
            clear Hke_13_0
            replace ke_13_1 := Hke_13_1.out
            clear Hke_13_1
            replace ke_13_2 := Hke_13_2.out
            clear Hke_13_2
            replace ke_13_3 := Hke_13_3.out
            clear Hke_13_3
            have HBY6 := Lib.hid (Below.step HBw_e_13.out hY6)
            replace hct_11_0__122 := cell_below hY6 hct_11_0__122
            replace hct_11_1__123 := cell_below hY6 hct_11_1__123
            replace hct_11_2__124 := cell_below hY6 hct_11_2__124
            replace hct_11_3__125 := cell_below hY6 hct_11_3__125
            replace ke_13_0 := cell_below hY6 ke_13_0
            replace ke_13_1 := cell_below hY6 ke_13_1
            replace ke_13_2 := cell_below hY6 ke_13_2
            replace ke_13_3 := cell_below hY6 ke_13_3
            clear hY6
            replace H := ite_f H
            replace H := app_hid H
            go_wp2_with fail
            go_roundg m0
            case measure => omega
            case rel => exact ⟨k0 + 1, by omega, by go_num, H, HBY6⟩
          | true =>
            have nht_22 : 0 < k0 := by have := of_decide_eq_true ht_22; omega
            replace H := ite_t H
            replace H := bind_hid H
            obtain ⟨t_26, qt_26, H⟩ := H
            have nt_26 : ∀ d os, Calls Try.prog 68 #[.agg #[.int .i64 t_11_id, .int .i64 t_11_year, .string t_11_town, .slice Art_11 t_11_traits.length crt_11]] (Go.Sort.grow (redrawn w_e_13 d) os) fun e w'' => e = .returned (.int .i64 t_26) ∧ ∃ p : Regrown, w'' = Go.Sort.grow (redrawn w_e_13 p.d) p.os := fun d os => Calls.regrown_of (Go.Proofs.Ytpaakpbbahbhcaa.GiIdOfSighting.C (t_11_id) (t_11_year) (t_11_town) (t_11_traits) Art_11 crt_11 _   (Lib.hid (Cells.below (Cells.below Mrt_11.out HBw_e_13.out) (below_regrown _ _ _))) Nrt_11 qt_26)
            replace H := let_hid H
            obtain ⟨t_30, ht_30, H⟩ := H
            replace H := idx_hid H
            obtain ⟨nt_31, yt_31, et_31, lt_31, gt_31, H⟩ := H
            subst et_31
            obtain ⟨t_31_id, t_31_year, t_31_town, t_31_traits⟩ := yt_31
            replace H := unSighting_hid H
            obtain ⟨bbt_31, oot_31, zt_31, Art_31, crt_31, eAt_31, zzt_31, hKt_31, hrt_31, hqt_31, hnt_31⟩ := Go.Proofs.Ytpaakpbbahbhcaa.GoV.nest_at M0.out (k := nt_31) lt_31
            obtain rfl := Option.some.inj (gt_31.out.symm.trans zzt_31)
            clear zzt_31
            simp only [Option.some.injEq, Addr.mk.injEq] at eAt_31
            obtain ⟨rfl, rfl, _⟩ := eAt_31
            have hct_31_0 : w.cell? ⟨bbt_11, oot_11 + nt_31 * 4, none⟩ = some (.int .i64 t_31_id) := hKt_31 0 _ rfl
            have hct_31_1 : w.cell? ⟨bbt_11, oot_11 + nt_31 * 4 + 1, none⟩ = some (.int .i64 t_31_year) := hKt_31 1 _ rfl
            have hct_31_2 : w.cell? ⟨bbt_11, oot_11 + nt_31 * 4 + 2, none⟩ = some (.string t_31_town) := hKt_31 2 _ rfl
            have hct_31_3 : w.cell? ⟨bbt_11, oot_11 + nt_31 * 4 + 3, none⟩ = some (.slice Art_31 t_31_traits.length crt_31) := hKt_31 3 _ rfl
            clear hKt_31
            have ltt_31 := cell_lt hct_31_0
            replace hct_31_0 := cell_below HBw_e_13.out hct_31_0
            replace hct_31_1 := cell_below HBw_e_13.out hct_31_1
            replace hct_31_2 := cell_below HBw_e_13.out hct_31_2
            replace hct_31_3 := cell_below HBw_e_13.out hct_31_3
            have Mrt_31 := Lib.hid hrt_31
            have Qrt_31 := Lib.hid hqt_31
            have Nrt_31 := Lib.hid hnt_31
            clear hrt_31 hqt_31 hnt_31
            have b0t_31 : (0 : Int) ≤ (nt_31 : Int) := by omega
            have b1t_31 : (nt_31 : Int) < ((list.length : Nat) : Int) := by omega
            have b2t_31 : ((nt_31 : Int)).toNat = nt_31 := by omega
            have Hhct_31_0 := Lib.hid hct_31_0
            replace hct_31_0 := cell_regrown hct_31_0
            have Hhct_31_1 := Lib.hid hct_31_1
            replace hct_31_1 := cell_regrown hct_31_1
            have Hhct_31_2 := Lib.hid hct_31_2
            replace hct_31_2 := cell_regrown hct_31_2
            have Hhct_31_3 := Lib.hid hct_31_3
            replace hct_31_3 := cell_regrown hct_31_3
            replace H := bind_hid H
            obtain ⟨t_33, qt_33, H⟩ := H
            have nt_33 : ∀ d os, Calls Try.prog 68 #[.agg #[.int .i64 t_31_id, .int .i64 t_31_year, .string t_31_town, .slice Art_31 t_31_traits.length crt_31]] (Go.Sort.grow (redrawn w_e_13 d) os) fun e w'' => e = .returned (.int .i64 t_33) ∧ ∃ p : Regrown, w'' = Go.Sort.grow (redrawn w_e_13 p.d) p.os := fun d os => Calls.regrown_of (Go.Proofs.Ytpaakpbbahbhcaa.GiIdOfSighting.C (t_31_id) (t_31_year) (t_31_town) (t_31_traits) Art_31 crt_31 _   (Lib.hid (Cells.below (Cells.below Mrt_31.out HBw_e_13.out) (below_regrown _ _ _))) Nrt_31 qt_33)
            replace H := let_hid H
            obtain ⟨t_34, ht_34, H⟩ := H
            replace H := app_hid H
            replace H := app_hid H
            refine wp_region_quiet_below (by kernel_rfl) (by kernel_rfl) ?_
            repeat (go_big_quiet_step (first | (go_at_call 68; with_reducible exact nt_26 _ _) | (go_at_call 68; with_reducible exact nt_33 _ _) | (go_at_call 67; exact nt_18 _ _) | (go_at_call 68; exact nt_26 _ _) | (go_at_call 68; exact nt_33 _ _)))
            refine wpQuiet_nil ?_
            intro Y6 hY6
            replace hY6 := below_class hY6
            clear nt_18 nt_26 nt_33
            replace hct_11_0__122 := Hhct_11_0__122.out
            clear Hhct_11_0__122
            replace hct_11_1__123 := Hhct_11_1__123.out
            clear Hhct_11_1__123
            replace hct_11_2__124 := Hhct_11_2__124.out
            clear Hhct_11_2__124
            replace hct_11_3__125 := Hhct_11_3__125.out
            clear Hhct_11_3__125
            replace ke_13_0 := Hke_13_0.out
            clear Hke_13_0
            replace ke_13_1 := Hke_13_1.out
            clear Hke_13_1
            replace ke_13_2 := Hke_13_2.out
            clear Hke_13_2
            replace ke_13_3 := Hke_13_3.out
            clear Hke_13_3
            replace hct_31_0 := Hhct_31_0.out
            clear Hhct_31_0
            replace hct_31_1 := Hhct_31_1.out
            clear Hhct_31_1
            replace hct_31_2 := Hhct_31_2.out
            clear Hhct_31_2
            replace hct_31_3 := Hhct_31_3.out
            clear Hhct_31_3
            have HBY6 := Lib.hid (Below.step HBw_e_13.out hY6)
            replace hct_11_0__122 := cell_below hY6 hct_11_0__122
            replace hct_11_1__123 := cell_below hY6 hct_11_1__123
            replace hct_11_2__124 := cell_below hY6 hct_11_2__124
            replace hct_11_3__125 := cell_below hY6 hct_11_3__125
            replace ke_13_0 := cell_below hY6 ke_13_0
            replace ke_13_1 := cell_below hY6 ke_13_1
            replace ke_13_2 := cell_below hY6 ke_13_2
            replace ke_13_3 := cell_below hY6 ke_13_3
            replace hct_31_0 := cell_below hY6 hct_31_0
            replace hct_31_1 := cell_below hY6 hct_31_1
            replace hct_31_2 := cell_below hY6 hct_31_2
            replace hct_31_3 := cell_below hY6 hct_31_3
            clear hY6
            cases t_34 with
            | false =>
              replace H := ite_f H
              replace H := app_hid H
              go_wp2_with fail
              go_roundg m0
              case measure => omega
              case rel => exact ⟨k0 + 1, by omega, by go_num, H, HBY6⟩
            | true =>
              replace H := ite_t H
              obtain rfl := ret_hid H
              go_wp2_with fail
              go_ret
              exact ⟨rfl, HBY6.out⟩
  | true =>
    replace H := ite_t H
    obtain rfl := ret_hid H
    go_wp2_with fail
    go_ret
    exact ⟨rfl, HB.out⟩
end Go.Proofs.Ytpaakpbbahbhcaa.GiAreByKeySightingIntiIsSightingiIdOfSighting

/- loop.example/g01062/impl.AreSightings as a plain function, and the contract of the program's: where the plain one has an answer, the program has it. Conditions: slices read as lists. -/
namespace Go.Proofs.Ytpaakpbbahbhcaa.GiAreSightings
set_option linter.unusedVariables false
set_option linter.unusedSimpArgs false
open Go.RowKit
open Go.Proofs.Ytpaakpbbahbhcaa.Rowed Go.Proofs.Ytpaakpbbahbhcaa.Turn Go.Proofs.Ytpaakpbbahbhcaa.Aid Go.Proofs.Ytpaakpbbahbhcaa.GoP Go.Proofs.Ytpaakpbbahbhcaa.GoM

def P (list : (List Go.Proofs.Ytpaakpbbahbhcaa.PSighting.Sighting)) : Option (Bool) :=
  Option.bind (Go.Proofs.Ytpaakpbbahbhcaa.GiAreByKeySightingIntiIsSightingiIdOfSighting.P list 10) fun (t_2 : Bool) =>
  some t_2

set_option maxRecDepth 100000 in
set_option maxHeartbeats 2000000 in
theorem C (list : (List Go.Proofs.Ytpaakpbbahbhcaa.PSighting.Sighting)) (A0 : Option Addr) (c0 : Nat)  (w : World) (M0 : Hid (Go.Proofs.Ytpaakpbbahbhcaa.GoV.ReadNest w Go.Proofs.Ytpaakpbbahbhcaa.GoVSighting.lay A0 list)) (N0 : Hid (list.length ≤ 9223372036854775807))  {r : Bool} (H : Hid (P list = some r)) :
    Calls Try.prog 28 #[.slice A0 list.length c0] w (Gives (.bool r) w) := by
  have HB := Lib.hid (Below.refl w.heap.size w)
  unfold P at H
  have N0o := N0.out
  go_enter Try.func28, Try.ntmps28
  replace H := bind_hid H
  obtain ⟨t_2, qt_2, H⟩ := H
  go_wp2_with fail
  go_at_call 66
  refine (Go.Proofs.Ytpaakpbbahbhcaa.GiAreByKeySightingIntiIsSightingiIdOfSighting.C (list) (10) A0 c0 _   (Lib.hid (Go.Proofs.Ytpaakpbbahbhcaa.GoV.read_below M0.out HB.out)) N0 qt_2).mono ?_
  rintro e_t_2 wt_2 ⟨rfl, bt_2⟩
  have HBwt_2 := Lib.hid (Below.step HB.out bt_2)
  clear bt_2
  obtain rfl := ret_hid H
  go_wp2_with fail
  go_ret
  exact ⟨rfl, HBwt_2.out⟩
end Go.Proofs.Ytpaakpbbahbhcaa.GiAreSightings

/- slices.Clone[[]int,int] as a plain function, and the contract of the program's: where the plain one has an answer, the program has it. Conditions: slices read as lists. -/
namespace Go.Proofs.Ytpaakpbbahbhcaa.GxSlicesCloneIntInt
set_option linter.unusedVariables false
set_option linter.unusedSimpArgs false
open Go.RowKit
open Go.Proofs.Ytpaakpbbahbhcaa.Rowed Go.Proofs.Ytpaakpbbahbhcaa.Turn Go.Proofs.Ytpaakpbbahbhcaa.Aid Go.Proofs.Ytpaakpbbahbhcaa.GoP Go.Proofs.Ytpaakpbbahbhcaa.GoM

def P (s_0 : (List Int)) : Option ((List Int)) :=
  Go.Proofs.Ytpaakpbbahbhcaa.GoK.nilK s_0 fun (nt_2 : Bool) =>
  iteK nt_2
  (some [])
  (guardK (([] : List Int).length + s_0.length ≤ 1099511627776) <|
  letK (([] : List Int) ++ s_0) fun (t_6 : (List Int)) =>
  some t_6)

set_option maxRecDepth 100000 in
set_option maxHeartbeats 2000000 in
theorem C (s_0 : (List Int)) (A0 : Option Addr) (c0 : Nat)  (w : World) (M0 : Hid (Cells w 1 A0 s_0.length (Go.Proofs.Ytpaakpbbahbhcaa.HelpInt.iv s_0))) (N0 : Hid (s_0.length ≤ 9223372036854775807)) (Q0 : Hid (Room A0 s_0.length c0))  {r : (List Int)} (H : Hid (P s_0 = some r)) :
    Calls Try.prog 81 #[.slice A0 s_0.length c0] w (fun e w' => ∃ A_r c_r, e = .returned (.slice A_r r.length c_r) ∧ w'.ownsRow w.heap.size 3 1 (.slice A_r r.length c_r) r.length (Go.Proofs.Ytpaakpbbahbhcaa.HelpInt.iv r) ∧ Below w.heap.size w w') := by
  have HB := Lib.hid (Below.refl w.heap.size w)
  unfold P at H
  have N0o := N0.out
  obtain ⟨i0_3, hi_3, hz0_3, hz1_3, hz2_3⟩ := Aid.info_parts (P := Try.prog) (T := 3) (z := .int .i64 0) (s := 1) (b := 8) (by kernel_rfl)
  go_enter Try.func81, Try.ntmps81
  have mt_2 := Go.Proofs.Ytpaakpbbahbhcaa.GoK.nil_cells (l := s_0) (Cells.below M0.out HB.out) (fun h_ => by cases s_0 with | nil => rfl | cons y_ ys_ => simp [Go.Proofs.Ytpaakpbbahbhcaa.HelpInt.iv] at h_)
  obtain ⟨nt_2, ht_2⟩ : ∃ z_, (A0 : Option Addr).isNone = z_ := ⟨_, rfl⟩
  have rt_2 : ∀ W_, (binOp .eql 32 (.slice A0 s_0.length c0) (.slice none 0 0)).run Try.prog W_ = .ok (.bool nt_2) W_ := by intro W_; rw [← ht_2]; exact Lib.run_eql_slice_nil W_ _ _ _ _ _ _ _ Try.underlying32
  replace H := Go.Proofs.Ytpaakpbbahbhcaa.GoK.nilK_hid H nt_2 (by rw [← ht_2]; exact mt_2) (by intro h_; subst h_; rfl)
  clear mt_2 ht_2
  cases nt_2 with
  | false =>
    replace H := ite_f H
    obtain ⟨w_t_4, hw_t_4⟩ : ∃ x, w.alloc (.cells #[] 3) = x := ⟨_, rfl⟩
    have bw_t_4 : Below w.heap.size w w_t_4 := by rw [← hw_t_4]; exact (Below.refl _ _).alloc (Nat.le_refl _) _
    have Ot_4 : Hid (w_t_4.ownsRow w.heap.size 3 1 (.slice (some ⟨w.heap.size, 0, none⟩) 0 0) 0 []) := Lib.hid (by rw [← hw_t_4]; exact own_empty HB.out.size)
    have HBw_t_4 := Lib.hid (Below.step HB.out bw_t_4)
    clear bw_t_4
    replace H := guard_hid H
    obtain ⟨hlt_6, H⟩ := H
    replace H := let_hid H
    obtain ⟨t_6, ht_6, H⟩ := H
    have hht_6 := Lib.hid ht_6
    clear ht_6
    have hst_6 := HBw_t_4.out.size
    have Ct_6 := Lib.hid ((Cells.below M0.out HBw_t_4.out))
    go_wp2_with (at_builtin; refine append_spread rfl _ _ 32 rfl w.heap.size 3 i0_3 (.int .i64 0) 1 8 Try.underlying32 hi_3 hz0_3 hz1_3 hz2_3 rfl (by decide) (some ⟨w.heap.size, 0, none⟩) 0 0 _ rfl Ot_4.out A0 s_0.length c0 (Go.Proofs.Ytpaakpbbahbhcaa.HelpInt.iv s_0) rfl Q0.out Ct_6.out (fun u hu => by unfold Go.Proofs.Ytpaakpbbahbhcaa.HelpInt.iv at hu; obtain ⟨y_, _, rfl⟩ := List.mem_map.1 hu; rfl) (by unfold maxLen; simp only [List.length_nil] at hlt_6; omega) (by simp only [List.length_nil] at hlt_6; omega) hst_6 ?_; intro vt_6 wt_6 ot_6 gt_6 yt_6; obtain ⟨At_6, ct_6, rfl, pt_6⟩ := own_pushS (f := Go.Proofs.Ytpaakpbbahbhcaa.HelpInt.iv) hht_6.out (by simp [Go.Proofs.Ytpaakpbbahbhcaa.HelpInt.iv]) rfl ot_6; have Pt_6 := Lib.hid pt_6; have Yt_6 := Lib.hid yt_6; have Gt_6 := Lib.hid gt_6; clear ot_6 gt_6 pt_6 yt_6; refine stop_in ?_)
    refine stop_out ?_
    clear Ct_6
    have HBwt_6 := Lib.hid (HBw_t_4.out.grown Gt_6.out hst_6 (fun q hq => (Ot_4.out.lt q hq).1))
    clear hst_6
    clear Ot_4 Yt_6 Gt_6
    obtain rfl := ret_hid H
    go_wp2_with fail
    go_ret
    exact ⟨At_6, ct_6, rfl, Pt_6.out, HBwt_6.out⟩
  | true =>
    replace H := ite_t H
    obtain rfl := ret_hid H
    go_wp2_with fail
    go_ret
    exact ⟨none, 0, rfl, own_nil, HB.out⟩
end Go.Proofs.Ytpaakpbbahbhcaa.GxSlicesCloneIntInt

/- loop.example/g01062/impl.AddSighting as a plain function, and the contract of the program's: where the plain one has an answer, the program has it. Conditions: slices read as lists. -/
namespace Go.Proofs.Ytpaakpbbahbhcaa.GiAddSighting
set_option linter.unusedVariables false
set_option linter.unusedSimpArgs false
open Go.RowKit
open Go.Proofs.Ytpaakpbbahbhcaa.Rowed Go.Proofs.Ytpaakpbbahbhcaa.Turn Go.Proofs.Ytpaakpbbahbhcaa.Aid Go.Proofs.Ytpaakpbbahbhcaa.GoP Go.Proofs.Ytpaakpbbahbhcaa.GoM

def l0  (k0 : Nat) (s : (List Go.Proofs.Ytpaakpbbahbhcaa.PSighting.Sighting)) (nx0 bk0 : (List Go.Proofs.Ytpaakpbbahbhcaa.PSighting.Sighting) → Option ((List Go.Proofs.Ytpaakpbbahbhcaa.PSighting.Sighting) × Int × Bool)) : Option ((List Go.Proofs.Ytpaakpbbahbhcaa.PSighting.Sighting) × Int × Bool) :=
  letK s fun longer_12l0 =>
  Option.bind (idx longer_12l0 (k0 : Int)) fun (yt_43 : Go.Proofs.Ytpaakpbbahbhcaa.PSighting.Sighting) =>
  unSighting yt_43 fun (t_43_id : Int) (t_43_year : Int) (t_43_town : ByteArray) (t_43_traits : (List Int)) =>
  Option.bind (Go.Proofs.Ytpaakpbbahbhcaa.GxSlicesCloneIntInt.P t_43_traits) fun (t_46 : (List Int)) =>
  Option.bind (idx longer_12l0 (k0 : Int)) fun (yt_47 : Go.Proofs.Ytpaakpbbahbhcaa.PSighting.Sighting) =>
  unSighting yt_47 fun (t_47_id : Int) (t_47_year : Int) (t_47_town : ByteArray) (t_47_traits : (List Int)) =>
  letK (longer_12l0.set k0 (Go.Proofs.Ytpaakpbbahbhcaa.PSighting.Sighting.mk t_47_id t_47_year t_47_town t_46)) fun (l49_49 : (List Go.Proofs.Ytpaakpbbahbhcaa.PSighting.Sighting)) =>
  appK nx0 (l49_49)

def e0 (id_11j0 : Int) (s : (List Go.Proofs.Ytpaakpbbahbhcaa.PSighting.Sighting)) : Option ((List Go.Proofs.Ytpaakpbbahbhcaa.PSighting.Sighting) × Int × Bool) :=
  letK s fun longer_12l0 =>
  some (longer_12l0, id_11j0, true)

def j0 (list : (List Go.Proofs.Ytpaakpbbahbhcaa.PSighting.Sighting)) (year : Int) (town : ByteArray) (traits : (List Int)) (s : Int) : Option ((List Go.Proofs.Ytpaakpbbahbhcaa.PSighting.Sighting) × Int × Bool) :=
  Option.bind (Go.Proofs.Ytpaakpbbahbhcaa.GxSlicesCloneLoopExampleG01062ImplSightingLoopExampleG01062ImplSighting.P list) fun (t_17 : (List Go.Proofs.Ytpaakpbbahbhcaa.PSighting.Sighting)) =>
  guardK (t_17.length ≤ 1099511627776) <|
  letK (t_17 ++ [(Go.Proofs.Ytpaakpbbahbhcaa.PSighting.Sighting.mk s year town traits)]) fun (t_24 : (List Go.Proofs.Ytpaakpbbahbhcaa.PSighting.Sighting)) =>
  Option.bind (Go.Proofs.Ytpaakpbbahbhcaa.GiAreSightings.P t_24) fun (t_27 : Bool) =>
  letK (!t_27) fun (t_28 : Bool) =>
  iteK t_28
  (some (([] : List Go.Proofs.Ytpaakpbbahbhcaa.PSighting.Sighting), 0, false))
  (cntK (l0 ) (t_24.length) 0 (t_24) (e0 s))

def P (list : (List Go.Proofs.Ytpaakpbbahbhcaa.PSighting.Sighting)) (year : Int) (town : ByteArray) (traits : (List Int)) : Option ((List Go.Proofs.Ytpaakpbbahbhcaa.PSighting.Sighting) × Int × Bool) :=
  letK (decide (0 < (list.length : Int))) fun (t_6 : Bool) =>
  iteK t_6
  (letK (IntKind.i64.wrap ((list.length : Int) - 1)) fun (t_10 : Int) =>
  Option.bind (idx list t_10) fun (yt_11 : Go.Proofs.Ytpaakpbbahbhcaa.PSighting.Sighting) =>
  unSighting yt_11 fun (t_11_id : Int) (t_11_year : Int) (t_11_town : ByteArray) (t_11_traits : (List Int)) =>
  letK (IntKind.i64.wrap (t_11_id + 1)) fun (t_14 : Int) =>
  j0 list year town traits (t_14))
  (j0 list year town traits (1))

set_option maxRecDepth 100000 in
set_option maxHeartbeats 2000000 in
theorem C (list : (List Go.Proofs.Ytpaakpbbahbhcaa.PSighting.Sighting)) (year : Int) (town : ByteArray) (traits : (List Int)) (A0 : Option Addr) (c0 : Nat) (A3 : Option Addr) (c3 : Nat)  (w : World) (M0 : Hid (Go.Proofs.Ytpaakpbbahbhcaa.GoV.ReadNest w Go.Proofs.Ytpaakpbbahbhcaa.GoVSighting.lay A0 list)) (N0 : Hid (list.length ≤ 9223372036854775807)) (Q0 : Hid (Room A0 list.length c0)) (M3 : Hid (Cells w 1 A3 traits.length (Go.Proofs.Ytpaakpbbahbhcaa.HelpInt.iv traits))) (N3 : Hid (traits.length ≤ 9223372036854775807)) (Q3 : Hid (Room A3 traits.length c3))  {r0 : (List Go.Proofs.Ytpaakpbbahbhcaa.PSighting.Sighting)} {r1 : Int} {r2 : Bool} (H : Hid (P list year town traits = some (r0, r1, r2))) :
    Calls Try.prog 50 #[.slice A0 list.length c0, .int .i64 year, .string town, .slice A3 traits.length c3] w (fun e w' => ∃ A_r0 c_r0, e = .returned (.tuple #[.slice A_r0 r0.length c_r0, .int .i64 r1, .bool r2]) ∧ (∃ B_, Go.Proofs.Ytpaakpbbahbhcaa.GoV.OwnNest w' (w.heap.size) 67 3 Go.Proofs.Ytpaakpbbahbhcaa.GoVSighting.lay A_r0 c_r0 r0 B_) ∧ Below w.heap.size w w') := by
  have HB := Lib.hid (Below.refl w.heap.size w)
  unfold P at H
  have N0o := N0.out
  have N3o := N3.out
  obtain ⟨i0_67, hi_67, hz0_67, hz1_67, hz2_67⟩ := Aid.info_parts (P := Try.prog) (T := 67) (z := .agg #[.int .i64 0, .int .i64 0, .string ByteArray.empty, .slice none 0 0]) (s := 4) (b := 56) (by kernel_rfl)
  go_enter Try.func50, Try.ntmps50
  replace H := let_hid H
  obtain ⟨t_6, ht_6, H⟩ := H
  cases t_6 with
  | false =>
    have nht_6 : ¬ (0 < list.length) := by have := of_decide_eq_false ht_6; omega
    replace H := ite_f H
    unfold j0 at H
    replace H := bind_hid H
    obtain ⟨t_17, qt_17, H⟩ := H
    go_wp2_with fail
    go_at_call 80
    refine (Go.Proofs.Ytpaakpbbahbhcaa.GxSlicesCloneLoopExampleG01062ImplSightingLoopExampleG01062ImplSighting.C (list) A0 c0 w _ (Lib.hid HB.out)   M0 N0 Q0 qt_17).mono ?_
    rintro e_t_17 wt_17 ⟨At_17, ct_17, rfl, ⟨Bt_17, ot_17⟩, bt_17⟩
    have Ot_17 := Lib.hid (Go.Proofs.Ytpaakpbbahbhcaa.GoV.part_lower ot_17 HB.out.size)
    clear ot_17
    have HBwt_17 := Lib.hid (Below.step HB.out bt_17)
    clear bt_17
    obtain ⟨w_t_23, hw_t_23⟩ : ∃ x, wt_17.alloc (.cells #[.int .i64 1, .int .i64 year, .string town, .slice A3 traits.length c3] 67) = x := ⟨_, rfl⟩
    have bw_t_23 : Below wt_17.heap.size wt_17 w_t_23 := by rw [← hw_t_23]; exact (Below.refl _ _).alloc (Nat.le_refl _) _
    have HBw_t_23 := Lib.hid (Below.step HBwt_17.out bw_t_23)
    replace Ot_17 := Lib.hid (Go.Proofs.Ytpaakpbbahbhcaa.GoV.part_below Ot_17.out bw_t_23)
    clear bw_t_23
    replace H := guard_hid H
    obtain ⟨hlt_24, H⟩ := H
    replace H := let_hid H
    obtain ⟨t_24, ht_24, H⟩ := H
    have hht_24 := Lib.hid ht_24
    clear ht_24
    have hst_24 := HBw_t_23.out.size
    obtain ⟨zt_24, Rt_24⟩ := Ot_17.out
    have Rt_24i := Lib.hid Rt_24
    clear Rt_24
    go_wp2_with (at_builtin; refine wpList_append_own_at _ rfl _ _ 24 rfl w.heap.size 67 i0_67 (.agg #[.int .i64 0, .int .i64 0, .string ByteArray.empty, .slice none 0 0]) 4 56 Try.underlying24 hi_67 hz0_67 hz1_67 hz2_67 rfl (by decide) _ _ _ rfl Rt_24i.out.row ⟨wt_17.heap.size, 0, none⟩ 1 1 [.int .i64 1, .int .i64 year, .string town, .slice A3 traits.length c3] rfl rfl (news_new hw_t_23) (one_cells rfl) (by unfold maxLen; omega) (by omega) hst_24 ?_; intro vt_24 wt_24 ot_24 gt_24 ut_24 yt_24; clear ut_24; obtain ⟨qt_24, ct_24, Bt_24, rfl, pt_24, dt_24⟩ := Go.Proofs.Ytpaakpbbahbhcaa.GoV.part_app (x := (Go.Proofs.Ytpaakpbbahbhcaa.PSighting.Sighting.mk 1 year town traits)) Rt_24i.out hht_24.out ⟨M3.out, Q3.out, N3.out⟩ gt_24 ot_24 yt_24; have Pt_24 := Lib.hid pt_24; have Ut_24 := Lib.hid dt_24; have Gt_24 := Lib.hid gt_24; clear ot_24 gt_24 pt_24 yt_24 dt_24; refine stop_in ?_)
    refine stop_out ?_
    have HBwt_24 := Lib.hid (HBw_t_23.out.grown Gt_24.out hst_24 (fun q hq => (Rt_24i.out.row.lt q hq).1))
    clear hst_24
    clear Ot_17 Gt_24 Rt_24i Ut_24
    replace H := bind_hid H
    obtain ⟨t_27, qt_27, H⟩ := H
    go_wp2_with fail
    go_at_call 28
    refine (Go.Proofs.Ytpaakpbbahbhcaa.GiAreSightings.C (t_24) (some ⟨qt_24, 0, none⟩) ct_24 _   (Lib.hid (Go.Proofs.Ytpaakpbbahbhcaa.GoV.part_read Pt_24.out HBwt_24.out)) (Lib.hid (Go.Proofs.Ytpaakpbbahbhcaa.GoV.part_max Pt_24.out)) qt_27).mono ?_
    rintro e_t_27 wt_27 ⟨rfl, bt_27⟩
    have HBwt_27 := Lib.hid (Below.step HBwt_24.out bt_27)
    replace Pt_24 := Lib.hid (Go.Proofs.Ytpaakpbbahbhcaa.GoV.part_below Pt_24.out bt_27)
    clear bt_27
    cases t_27 with
    | false =>
      replace H := let_hid H
      obtain ⟨t_28, ht_28, H⟩ := H
      obtain rfl : t_28 = true := ht_28.symm
      replace H := ite_t H
      obtain ⟨w_t_29, hw_t_29⟩ : ∃ x, wt_27.alloc (.cells #[] 67) = x := ⟨_, rfl⟩
      have bw_t_29 : Below wt_27.heap.size wt_27 w_t_29 := by rw [← hw_t_29]; exact (Below.refl _ _).alloc (Nat.le_refl _) _
      have Ot_29 : Hid (Go.Proofs.Ytpaakpbbahbhcaa.GoV.PartNest w_t_29 w (w.heap.size) 67 3 Go.Proofs.Ytpaakpbbahbhcaa.GoVSighting.lay (fun _ => false) (some ⟨wt_27.heap.size, 0, none⟩) 0 ([] : List Go.Proofs.Ytpaakpbbahbhcaa.PSighting.Sighting) [some ⟨wt_27.heap.size, 0, none⟩]) := Lib.hid (by rw [← hw_t_29]; exact Go.Proofs.Ytpaakpbbahbhcaa.GoV.part_empty HBwt_27.out.size)
      have Dt_29_t_24 := Lib.hid (fun x_ hx_ => Go.Proofs.Ytpaakpbbahbhcaa.GoN.nest_one (Go.Proofs.Ytpaakpbbahbhcaa.GoV.part_fresh Pt_24.out x_ hx_))
      have HBw_t_29 := Lib.hid (Below.step HBwt_27.out bw_t_29)
      replace Pt_24 := Lib.hid (Go.Proofs.Ytpaakpbbahbhcaa.GoV.part_below Pt_24.out bw_t_29)
      clear bw_t_29
      cases ret_hid H
      go_wp2_with fail
      go_ret3
      exact ⟨(some ⟨wt_27.heap.size, 0, none⟩), 0, rfl, ⟨_, Go.Proofs.Ytpaakpbbahbhcaa.GoV.part_all Ot_29.out (fun i_ hi_ => absurd hi_ (by simp))⟩, HBw_t_29.out⟩
    | true =>
      replace H := let_hid H
      obtain ⟨t_28, ht_28, H⟩ := H
      obtain rfl : t_28 = false := ht_28.symm
      replace H := ite_f H
      go_wp2_with fail
      have hb_0 : t_24.length ≤ 9223372036854775807 := Go.Proofs.Ytpaakpbbahbhcaa.GoV.part_max Pt_24.out
      go_wp2_with fail
      go_loopg [40] (t_24.length) (fun m_ v40_ wr => ∃ (k0 : Nat) (longer_12l0 : (List Go.Proofs.Ytpaakpbbahbhcaa.PSighting.Sighting)) (Blonger_12l0 : List (Option Addr)), k0 + m_ = t_24.length ∧ v40_ = .int .i64 (k0 : Int) ∧ Hid (cntK (l0 ) m_ k0 (longer_12l0) (e0 1) = some (r0, r1, r2)) ∧ Hid (Below w.heap.size w wr) ∧ Hid (Go.Proofs.Ytpaakpbbahbhcaa.GoV.PartNest wr w (w.heap.size) 67 3 Go.Proofs.Ytpaakpbbahbhcaa.GoVSighting.lay (fun i_ => decide (i_ < k0)) (some ⟨qt_24, 0, none⟩) ct_24 longer_12l0 Blonger_12l0) ∧ Hid (longer_12l0.length = t_24.length))
      replace Pt_24 := Lib.hid (Go.Proofs.Ytpaakpbbahbhcaa.GoV.part_inP (p' := fun i_ => decide (i_ < 0)) Pt_24.out (fun i_ _ => by simp))
      case atStart => exact ⟨0, _, _, by omega, rfl, H, HBwt_27, Pt_24, Lib.hid (rfl)⟩
      case round =>
        obtain ⟨k0, longer_12l0, Blonger_12l0, hkm0, rfl, H, HBwr0, Olonger_12l0, hnlonger_12l0⟩ := hrel
        rename World => wr0
        cases gk with
        | zero =>
          obtain rfl : k0 = t_24.length := by omega
          have hc0 : decide (((t_24.length : Nat) : Int) < ((t_24.length : Nat) : Int)) = false := by simp
          replace H := cnt_zero H
          unfold e0 at H
          replace H := let_hid H
          obtain ⟨_, rfl, H⟩ := H
          have hn_longer_12l0_ := hnlonger_12l0.out
          replace Olonger_12l0 := Lib.hid (Go.Proofs.Ytpaakpbbahbhcaa.GoV.part_all Olonger_12l0.out (fun i_ hi_ => by simp; omega))
          cases ret_hid H
          go_wp2_with fail
          go_ret3
          have hr_0 := hnlonger_12l0.out
          exact ⟨(some ⟨qt_24, 0, none⟩), ct_24, (by first | rfl | (rw [hr_0]; done) | (rw [hr_0]; rfl)), ⟨_, Olonger_12l0.out⟩, HBwr0.out⟩
        | succ m0 =>
          have hlt0 : k0 < t_24.length := by omega
          have hc0 : decide ((k0 : Int) < ((t_24.length : Nat) : Int)) = true := by simp; omega
          replace H := cnt_succ H
          unfold l0 at H
          replace H := let_hid H
          obtain ⟨_, rfl, H⟩ := H
          replace H := idx_hid H
          obtain ⟨nt_43, yt_43, et_43, lt_43, gt_43, H⟩ := H
          obtain rfl : k0 = nt_43 := by omega
          clear et_43
          obtain ⟨t_43_id, t_43_year, t_43_town, t_43_traits⟩ := yt_43
          replace H := unSighting_hid H
          obtain ⟨gt_43_, zt_43, Art_43, crt_43, eAt_43, zzt_43, hKt_43, hrt_43, hqt_43, hnt_43⟩ := Go.Proofs.Ytpaakpbbahbhcaa.GoV.part_heldp Olonger_12l0.out (k := k0) (by simp) lt_43
          obtain rfl := Option.some.inj (gt_43.out.symm.trans zzt_43)
          clear zzt_43
          simp only [Option.some.injEq, Addr.mk.injEq, and_true] at eAt_43
          subst eAt_43
          have hct_43_0 : wr0.cell? ⟨qt_24, k0 * 4, none⟩ = some (.int .i64 t_43_id) := hKt_43 0 _ rfl
          have hct_43_1 : wr0.cell? ⟨qt_24, k0 * 4 + 1, none⟩ = some (.int .i64 t_43_year) := hKt_43 1 _ rfl
          have hct_43_2 : wr0.cell? ⟨qt_24, k0 * 4 + 2, none⟩ = some (.string t_43_town) := hKt_43 2 _ rfl
          have hct_43_3 : wr0.cell? ⟨qt_24, k0 * 4 + 3, none⟩ = some (.slice Art_43 t_43_traits.length crt_43) := hKt_43 3 _ rfl
          clear hKt_43
          have ltt_43 := cell_lt hct_43_0
          have Mrt_43 := Lib.hid hrt_43
          have Qrt_43 := Lib.hid hqt_43
          have Nrt_43 := Lib.hid hnt_43
          clear hrt_43 hqt_43 hnt_43
          have b0t_43 : (0 : Int) ≤ (k0 : Int) := by omega
          have b1t_43 : (k0 : Int) < ((longer_12l0.length : Nat) : Int) := by omega
          have b2t_43 : ((k0 : Int)).toNat = k0 := by omega
          have hq_t_43 := hnlonger_12l0.out
          have b4t_43 : (k0 : Int) < ((t_24.length : Nat) : Int) := by omega
          clear hq_t_43
          replace H := bind_hid H
          obtain ⟨t_46, qt_46, H⟩ := H
          go_wp2_with fail
          go_at_call 81
          refine (Go.Proofs.Ytpaakpbbahbhcaa.GxSlicesCloneIntInt.C (t_43_traits) Art_43 crt_43 _   (Lib.hid (Cells.below Mrt_43.out HBwr0.out)) Nrt_43 Qrt_43 qt_46).mono ?_
          rintro e_t_46 wt_46 ⟨At_46, ct_46, rfl, ot_46, bt_46⟩
          have Dt_46_longer_12l0 := Lib.hid (Go.Proofs.Ytpaakpbbahbhcaa.GoV.part_call ot_46 Olonger_12l0.out)
          have Ot_46 := Lib.hid (own_lower ot_46 HBwr0.out.size)
          clear ot_46
          have HBwt_46 := Lib.hid (Below.step HBwr0.out bt_46)
          replace hct_43_0 := cell_below bt_46 hct_43_0
          replace hct_43_1 := cell_below bt_46 hct_43_1
          replace hct_43_2 := cell_below bt_46 hct_43_2
          replace hct_43_3 := cell_below bt_46 hct_43_3
          replace Olonger_12l0 := Lib.hid (Go.Proofs.Ytpaakpbbahbhcaa.GoV.part_below Olonger_12l0.out bt_46)
          clear bt_46
          replace H := idx_hid H
          obtain ⟨nt_47, yt_47, et_47, lt_47, gt_47, H⟩ := H
          obtain rfl : k0 = nt_47 := by omega
          clear et_47
          obtain rfl := Option.some.inj (gt_43.out.symm.trans gt_47.out)
          clear gt_47 lt_47
          replace H := unSighting_hid H
          replace H := let_hid H
          obtain ⟨l49_49, hl49_49, H⟩ := H
          try simp only [Int.toNat_natCast] at hl49_49
          obtain ⟨wl49_49, hwl49_49⟩ : ∃ x, wt_46.setCell ⟨qt_24, k0 * 4 + 3, none⟩ (.slice At_46 t_46.length ct_46) = x := ⟨_, rfl⟩
          have z0l49_49 := Go.Proofs.Ytpaakpbbahbhcaa.GoV.part_frozen Olonger_12l0.out (k0 * 4 + 3)
          have nl49_49 : Hid (l49_49.length = t_24.length) := Lib.hid (by rw [← hl49_49, List.length_set]; exact hnlonger_12l0.out)
          have Tl49_49 := Lib.hid (Go.Proofs.Ytpaakpbbahbhcaa.GoV.part_put1 (k := k0) (x := (Go.Proofs.Ytpaakpbbahbhcaa.PSighting.Sighting.mk t_43_id t_43_year t_43_town t_43_traits)) (x' := (Go.Proofs.Ytpaakpbbahbhcaa.PSighting.Sighting.mk t_43_id t_43_year t_43_town t_46)) Olonger_12l0.out gt_43.out (fun z_ => rfl) rfl Ot_46.out Dt_46_longer_12l0.out (by decide))
          have Pl49_49 : Hid (Go.Proofs.Ytpaakpbbahbhcaa.GoV.PartNest wl49_49 w (w.heap.size) 67 3 Go.Proofs.Ytpaakpbbahbhcaa.GoVSighting.lay (fun i_ => i_ == k0 || (fun i_ => decide (i_ < k0)) i_) (some ⟨qt_24, 0, none⟩) ct_24 l49_49 (At_46 :: Blonger_12l0)) := Lib.hid (by rw [← hl49_49, ← hwl49_49]; exact Tl49_49.out.1)
          have Gl49_49 : Hid (wt_46.grownBy wl49_49 (Value.slice (some ⟨qt_24, 0, none⟩) t_24.length ct_24).ownBlock) := Lib.hid (by rw [← hwl49_49]; exact Tl49_49.out.2)
          have Ul49_49 := Lib.hid (Go.Proofs.Ytpaakpbbahbhcaa.GoV.pushed_put (w := wt_46) (Ax := At_46) (Go.Proofs.Ytpaakpbbahbhcaa.GoV.part_head Olonger_12l0.out))
          clear Tl49_49
          have HBwl49_49 := Lib.hid (HBwt_46.out.grown Gl49_49.out HBwt_46.out.size (fun q hq => (Go.Proofs.Ytpaakpbbahbhcaa.GoV.part_lt Olonger_12l0.out _ (Go.Proofs.Ytpaakpbbahbhcaa.GoV.part_head Olonger_12l0.out) ⟨q, 0, none⟩ (by simpa [Value.ownBlock] using hq)).1))
          have hhl49_49 := Lib.hid hl49_49
          clear hl49_49
          replace Ot_46 := Lib.hid (own_other Ot_46.out Gl49_49.out (Apart.symm (Dt_46_longer_12l0.out _ (Go.Proofs.Ytpaakpbbahbhcaa.GoV.part_head Olonger_12l0.out))))
          clear Olonger_12l0 Gl49_49 Ul49_49
          replace H := app_hid H
          go_wp2_with fail
          clear z0l49_49 hct_43_0 hct_43_1 hct_43_2 hct_43_3
          replace Pl49_49 := Lib.hid (Go.Proofs.Ytpaakpbbahbhcaa.GoV.part_inP (p' := fun i_ => decide (i_ < k0 + 1)) Pl49_49.out (fun i_ _ => by rw [Bool.eq_iff_iff]; simp; omega))
          go_roundg m0
          case measure => omega
          case rel => exact ⟨k0 + 1, _, _, by omega, by go_num, H, HBwl49_49, Pl49_49, Lib.hid (nl49_49.out)⟩
  | true =>
    have nht_6 : 0 < list.length := by have := of_decide_eq_true ht_6; omega
    replace H := ite_t H
    replace H := let_hid H
    obtain ⟨t_10, ht_10, H⟩ := H
    try have hv_t_10 : (list.length : Int) - 1 = t_10 := by rw [← ht_10]; exact (IntWalk.i64_in _ (by omega)).symm
    try have hv2_t_10 : IntKind.i64.wrap t_10 = t_10 := by rw [← hv_t_10]; exact IntWalk.i64_in _ (by omega)
    replace H := idx_hid H
    obtain ⟨nt_11, yt_11, et_11, lt_11, gt_11, H⟩ := H
    subst et_11
    obtain ⟨t_11_id, t_11_year, t_11_town, t_11_traits⟩ := yt_11
    replace H := unSighting_hid H
    obtain ⟨bbt_11, oot_11, zt_11, Art_11, crt_11, eAt_11, zzt_11, hKt_11, hrt_11, hqt_11, hnt_11⟩ := Go.Proofs.Ytpaakpbbahbhcaa.GoV.nest_at M0.out (k := nt_11) lt_11
    obtain rfl := Option.some.inj (gt_11.out.symm.trans zzt_11)
    clear zzt_11
    subst eAt_11
    have hct_11_0 : w.cell? ⟨bbt_11, oot_11 + nt_11 * 4, none⟩ = some (.int .i64 t_11_id) := hKt_11 0 _ rfl
    have hct_11_1 : w.cell? ⟨bbt_11, oot_11 + nt_11 * 4 + 1, none⟩ = some (.int .i64 t_11_year) := hKt_11 1 _ rfl
    have hct_11_2 : w.cell? ⟨bbt_11, oot_11 + nt_11 * 4 + 2, none⟩ = some (.string t_11_town) := hKt_11 2 _ rfl
    have hct_11_3 : w.cell? ⟨bbt_11, oot_11 + nt_11 * 4 + 3, none⟩ = some (.slice Art_11 t_11_traits.length crt_11) := hKt_11 3 _ rfl
    clear hKt_11
    have ltt_11 := cell_lt hct_11_0
    replace hct_11_0 := cell_below HB.out hct_11_0
    replace hct_11_1 := cell_below HB.out hct_11_1
    replace hct_11_2 := cell_below HB.out hct_11_2
    replace hct_11_3 := cell_below HB.out hct_11_3
    have Mrt_11 := Lib.hid hrt_11
    have Qrt_11 := Lib.hid hqt_11
    have Nrt_11 := Lib.hid hnt_11
    clear hrt_11 hqt_11 hnt_11
    have b0t_11 : (0 : Int) ≤ (nt_11 : Int) := by omega
    have b1t_11 : (nt_11 : Int) < ((list.length : Nat) : Int) := by omega
    have b2t_11 : ((nt_11 : Int)).toNat = nt_11 := by omega
    replace H := let_hid H
    obtain ⟨t_14, ht_14, H⟩ := H
    unfold j0 at H
    replace H := bind_hid H
    obtain ⟨t_17, qt_17, H⟩ := H
    go_wp2_with fail
    go_at_call 80
    refine (Go.Proofs.Ytpaakpbbahbhcaa.GxSlicesCloneLoopExampleG01062ImplSightingLoopExampleG01062ImplSighting.C (list) (some ⟨bbt_11, oot_11, none⟩) c0 w _ (Lib.hid HB.out)   M0 N0 Q0 qt_17).mono ?_
    rintro e_t_17 wt_17 ⟨At_17, ct_17, rfl, ⟨Bt_17, ot_17⟩, bt_17⟩
    have Ot_17 := Lib.hid (Go.Proofs.Ytpaakpbbahbhcaa.GoV.part_lower ot_17 HB.out.size)
    clear ot_17
    have HBwt_17 := Lib.hid (Below.step HB.out bt_17)
    replace hct_11_0 := cell_below bt_17 hct_11_0
    replace hct_11_1 := cell_below bt_17 hct_11_1
    replace hct_11_2 := cell_below bt_17 hct_11_2
    replace hct_11_3 := cell_below bt_17 hct_11_3
    clear bt_17
    obtain ⟨w_t_23, hw_t_23⟩ : ∃ x, wt_17.alloc (.cells #[.int .i64 t_14, .int .i64 year, .string town, .slice A3 traits.length c3] 67) = x := ⟨_, rfl⟩
    have bw_t_23 : Below wt_17.heap.size wt_17 w_t_23 := by rw [← hw_t_23]; exact (Below.refl _ _).alloc (Nat.le_refl _) _
    have HBw_t_23 := Lib.hid (Below.step HBwt_17.out bw_t_23)
    have hct_11_0__126 := cell_below bw_t_23 hct_11_0
    have hct_11_1__127 := cell_below bw_t_23 hct_11_1
    have hct_11_2__128 := cell_below bw_t_23 hct_11_2
    have hct_11_3__129 := cell_below bw_t_23 hct_11_3
    replace Ot_17 := Lib.hid (Go.Proofs.Ytpaakpbbahbhcaa.GoV.part_below Ot_17.out bw_t_23)
    clear bw_t_23
    replace H := guard_hid H
    obtain ⟨hlt_24, H⟩ := H
    replace H := let_hid H
    obtain ⟨t_24, ht_24, H⟩ := H
    have hht_24 := Lib.hid ht_24
    clear ht_24
    have hst_24 := HBw_t_23.out.size
    obtain ⟨zt_24, Rt_24⟩ := Ot_17.out
    have Rt_24i := Lib.hid Rt_24
    clear Rt_24
    go_wp2_with (at_builtin; refine wpList_append_own_at _ rfl _ _ 24 rfl w.heap.size 67 i0_67 (.agg #[.int .i64 0, .int .i64 0, .string ByteArray.empty, .slice none 0 0]) 4 56 Try.underlying24 hi_67 hz0_67 hz1_67 hz2_67 rfl (by decide) _ _ _ rfl Rt_24i.out.row ⟨wt_17.heap.size, 0, none⟩ 1 1 [.int .i64 t_14, .int .i64 year, .string town, .slice A3 traits.length c3] rfl rfl (news_new hw_t_23) (one_cells rfl) (by unfold maxLen; omega) (by omega) hst_24 ?_; intro vt_24 wt_24 ot_24 gt_24 ut_24 yt_24; clear ut_24; obtain ⟨qt_24, ct_24, Bt_24, rfl, pt_24, dt_24⟩ := Go.Proofs.Ytpaakpbbahbhcaa.GoV.part_app (x := (Go.Proofs.Ytpaakpbbahbhcaa.PSighting.Sighting.mk t_14 year town traits)) Rt_24i.out hht_24.out ⟨M3.out, Q3.out, N3.out⟩ gt_24 ot_24 yt_24; have Pt_24 := Lib.hid pt_24; have Ut_24 := Lib.hid dt_24; have Gt_24 := Lib.hid gt_24; clear ot_24 gt_24 pt_24 yt_24 dt_24; refine stop_in ?_)
    refine stop_out ?_
    have HBwt_24 := Lib.hid (HBw_t_23.out.grown Gt_24.out hst_24 (fun q hq => (Rt_24i.out.row.lt q hq).1))
    clear hst_24
    replace hct_11_0__126 := cell_other hct_11_0__126 Gt_24.out (Go.Proofs.Ytpaakpbbahbhcaa.GoV.part_old Ot_17.out ltt_11)
    replace hct_11_1__127 := cell_other hct_11_1__127 Gt_24.out (Go.Proofs.Ytpaakpbbahbhcaa.GoV.part_old Ot_17.out ltt_11)
    replace hct_11_2__128 := cell_other hct_11_2__128 Gt_24.out (Go.Proofs.Ytpaakpbbahbhcaa.GoV.part_old Ot_17.out ltt_11)
    replace hct_11_3__129 := cell_other hct_11_3__129 Gt_24.out (Go.Proofs.Ytpaakpbbahbhcaa.GoV.part_old Ot_17.out ltt_11)
    clear hct_11_0 hct_11_1 hct_11_2 hct_11_3
    clear Ot_17 Gt_24 Rt_24i Ut_24
    replace H := bind_hid H
    obtain ⟨t_27, qt_27, H⟩ := H
    go_wp2_with fail
    go_at_call 28
    refine (Go.Proofs.Ytpaakpbbahbhcaa.GiAreSightings.C (t_24) (some ⟨qt_24, 0, none⟩) ct_24 _   (Lib.hid (Go.Proofs.Ytpaakpbbahbhcaa.GoV.part_read Pt_24.out HBwt_24.out)) (Lib.hid (Go.Proofs.Ytpaakpbbahbhcaa.GoV.part_max Pt_24.out)) qt_27).mono ?_
    rintro e_t_27 wt_27 ⟨rfl, bt_27⟩
    have HBwt_27 := Lib.hid (Below.step HBwt_24.out bt_27)
    replace hct_11_0__126 := cell_below bt_27 hct_11_0__126
    replace hct_11_1__127 := cell_below bt_27 hct_11_1__127
    replace hct_11_2__128 := cell_below bt_27 hct_11_2__128
    replace hct_11_3__129 := cell_below bt_27 hct_11_3__129
    replace Pt_24 := Lib.hid (Go.Proofs.Ytpaakpbbahbhcaa.GoV.part_below Pt_24.out bt_27)
    clear bt_27
    cases t_27 with
    | false =>
      replace H := let_hid H
      obtain ⟨t_28, ht_28, H⟩ := H
      obtain rfl : t_28 = true := ht_28.symm
      replace H := ite_t H
      obtain ⟨w_t_29, hw_t_29⟩ : ∃ x, wt_27.alloc (.cells #[] 67) = x := ⟨_, rfl⟩
      have bw_t_29 : Below wt_27.heap.size wt_27 w_t_29 := by rw [← hw_t_29]; exact (Below.refl _ _).alloc (Nat.le_refl _) _
      have Ot_29 : Hid (Go.Proofs.Ytpaakpbbahbhcaa.GoV.PartNest w_t_29 w (w.heap.size) 67 3 Go.Proofs.Ytpaakpbbahbhcaa.GoVSighting.lay (fun _ => false) (some ⟨wt_27.heap.size, 0, none⟩) 0 ([] : List Go.Proofs.Ytpaakpbbahbhcaa.PSighting.Sighting) [some ⟨wt_27.heap.size, 0, none⟩]) := Lib.hid (by rw [← hw_t_29]; exact Go.Proofs.Ytpaakpbbahbhcaa.GoV.part_empty HBwt_27.out.size)
      have Dt_29_t_24 := Lib.hid (fun x_ hx_ => Go.Proofs.Ytpaakpbbahbhcaa.GoN.nest_one (Go.Proofs.Ytpaakpbbahbhcaa.GoV.part_fresh Pt_24.out x_ hx_))
      have HBw_t_29 := Lib.hid (Below.step HBwt_27.out bw_t_29)
      have hct_11_0__130 := cell_below bw_t_29 hct_11_0__126
      have hct_11_1__131 := cell_below bw_t_29 hct_11_1__127
      have hct_11_2__132 := cell_below bw_t_29 hct_11_2__128
      have hct_11_3__133 := cell_below bw_t_29 hct_11_3__129
      replace Pt_24 := Lib.hid (Go.Proofs.Ytpaakpbbahbhcaa.GoV.part_below Pt_24.out bw_t_29)
      clear bw_t_29
      cases ret_hid H
      go_wp2_with fail
      go_ret3
      exact ⟨(some ⟨wt_27.heap.size, 0, none⟩), 0, rfl, ⟨_, Go.Proofs.Ytpaakpbbahbhcaa.GoV.part_all Ot_29.out (fun i_ hi_ => absurd hi_ (by simp))⟩, HBw_t_29.out⟩
    | true =>
      replace H := let_hid H
      obtain ⟨t_28, ht_28, H⟩ := H
      obtain rfl : t_28 = false := ht_28.symm
      replace H := ite_f H
      go_wp2_with fail
      have hb_0 : t_24.length ≤ 9223372036854775807 := Go.Proofs.Ytpaakpbbahbhcaa.GoV.part_max Pt_24.out
      go_wp2_with fail
      go_loopg [40] (t_24.length) (fun m_ v40_ wr => ∃ (k0 : Nat) (longer_12l0 : (List Go.Proofs.Ytpaakpbbahbhcaa.PSighting.Sighting)) (Blonger_12l0 : List (Option Addr)), k0 + m_ = t_24.length ∧ v40_ = .int .i64 (k0 : Int) ∧ Hid (cntK (l0 ) m_ k0 (longer_12l0) (e0 t_14) = some (r0, r1, r2)) ∧ Hid (Below w.heap.size w wr) ∧ Hid (Go.Proofs.Ytpaakpbbahbhcaa.GoV.PartNest wr w (w.heap.size) 67 3 Go.Proofs.Ytpaakpbbahbhcaa.GoVSighting.lay (fun i_ => decide (i_ < k0)) (some ⟨qt_24, 0, none⟩) ct_24 longer_12l0 Blonger_12l0) ∧ Hid (longer_12l0.length = t_24.length))
      replace Pt_24 := Lib.hid (Go.Proofs.Ytpaakpbbahbhcaa.GoV.part_inP (p' := fun i_ => decide (i_ < 0)) Pt_24.out (fun i_ _ => by simp))
      case atStart => exact ⟨0, _, _, by omega, rfl, H, HBwt_27, Pt_24, Lib.hid (rfl)⟩
      case round =>
        obtain ⟨k0, longer_12l0, Blonger_12l0, hkm0, rfl, H, HBwr0, Olonger_12l0, hnlonger_12l0⟩ := hrel
        rename World => wr0
        cases gk with
        | zero =>
          obtain rfl : k0 = t_24.length := by omega
          have hc0 : decide (((t_24.length : Nat) : Int) < ((t_24.length : Nat) : Int)) = false := by simp
          replace H := cnt_zero H
          unfold e0 at H
          replace H := let_hid H
          obtain ⟨_, rfl, H⟩ := H
          have hn_longer_12l0_ := hnlonger_12l0.out
          replace Olonger_12l0 := Lib.hid (Go.Proofs.Ytpaakpbbahbhcaa.GoV.part_all Olonger_12l0.out (fun i_ hi_ => by simp; omega))
          cases ret_hid H
          go_wp2_with fail
          go_ret3
          have hr_0 := hnlonger_12l0.out
          exact ⟨(some ⟨qt_24, 0, none⟩), ct_24, (by first | rfl | (rw [hr_0]; done) | (rw [hr_0]; rfl)), ⟨_, Olonger_12l0.out⟩, HBwr0.out⟩
        | succ m0 =>
          have hlt0 : k0 < t_24.length := by omega
          have hc0 : decide ((k0 : Int) < ((t_24.length : Nat) : Int)) = true := by simp; omega
          replace H := cnt_succ H
          unfold l0 at H
          replace H := let_hid H
          obtain ⟨_, rfl, H⟩ := H
          replace H := idx_hid H
          obtain ⟨nt_43, yt_43, et_43, lt_43, gt_43, H⟩ := H
          obtain rfl : k0 = nt_43 := by omega
          clear et_43
          obtain ⟨t_43_id, t_43_year, t_43_town, t_43_traits⟩ := yt_43
          replace H := unSighting_hid H
          obtain ⟨gt_43_, zt_43, Art_43, crt_43, eAt_43, zzt_43, hKt_43, hrt_43, hqt_43, hnt_43⟩ := Go.Proofs.Ytpaakpbbahbhcaa.GoV.part_heldp Olonger_12l0.out (k := k0) (by simp) lt_43
          obtain rfl := Option.some.inj (gt_43.out.symm.trans zzt_43)
          clear zzt_43
          simp only [Option.some.injEq, Addr.mk.injEq, and_true] at eAt_43
          subst eAt_43
          have hct_43_0 : wr0.cell? ⟨qt_24, k0 * 4, none⟩ = some (.int .i64 t_43_id) := hKt_43 0 _ rfl
          have hct_43_1 : wr0.cell? ⟨qt_24, k0 * 4 + 1, none⟩ = some (.int .i64 t_43_year) := hKt_43 1 _ rfl
          have hct_43_2 : wr0.cell? ⟨qt_24, k0 * 4 + 2, none⟩ = some (.string t_43_town) := hKt_43 2 _ rfl
          have hct_43_3 : wr0.cell? ⟨qt_24, k0 * 4 + 3, none⟩ = some (.slice Art_43 t_43_traits.length crt_43) := hKt_43 3 _ rfl
          clear hKt_43
          have ltt_43 := cell_lt hct_43_0
          have Mrt_43 := Lib.hid hrt_43
          have Qrt_43 := Lib.hid hqt_43
          have Nrt_43 := Lib.hid hnt_43
          clear hrt_43 hqt_43 hnt_43
          have b0t_43 : (0 : Int) ≤ (k0 : Int) := by omega
          have b1t_43 : (k0 : Int) < ((longer_12l0.length : Nat) : Int) := by omega
          have b2t_43 : ((k0 : Int)).toNat = k0 := by omega
          have hq_t_43 := hnlonger_12l0.out
          have b4t_43 : (k0 : Int) < ((t_24.length : Nat) : Int) := by omega
          clear hq_t_43
          replace H := bind_hid H
          obtain ⟨t_46, qt_46, H⟩ := H
          go_wp2_with fail
          go_at_call 81
          refine (Go.Proofs.Ytpaakpbbahbhcaa.GxSlicesCloneIntInt.C (t_43_traits) Art_43 crt_43 _   (Lib.hid (Cells.below Mrt_43.out HBwr0.out)) Nrt_43 Qrt_43 qt_46).mono ?_
          rintro e_t_46 wt_46 ⟨At_46, ct_46, rfl, ot_46, bt_46⟩
          have Dt_46_longer_12l0 := Lib.hid (Go.Proofs.Ytpaakpbbahbhcaa.GoV.part_call ot_46 Olonger_12l0.out)
          have Ot_46 := Lib.hid (own_lower ot_46 HBwr0.out.size)
          clear ot_46
          have HBwt_46 := Lib.hid (Below.step HBwr0.out bt_46)
          replace hct_43_0 := cell_below bt_46 hct_43_0
          replace hct_43_1 := cell_below bt_46 hct_43_1
          replace hct_43_2 := cell_below bt_46 hct_43_2
          replace hct_43_3 := cell_below bt_46 hct_43_3
          replace Olonger_12l0 := Lib.hid (Go.Proofs.Ytpaakpbbahbhcaa.GoV.part_below Olonger_12l0.out bt_46)
          clear bt_46
          replace H := idx_hid H
          obtain ⟨nt_47, yt_47, et_47, lt_47, gt_47, H⟩ := H
          obtain rfl : k0 = nt_47 := by omega
          clear et_47
          obtain rfl := Option.some.inj (gt_43.out.symm.trans gt_47.out)
          clear gt_47 lt_47
          replace H := unSighting_hid H
          replace H := let_hid H
          obtain ⟨l49_49, hl49_49, H⟩ := H
          try simp only [Int.toNat_natCast] at hl49_49
          obtain ⟨wl49_49, hwl49_49⟩ : ∃ x, wt_46.setCell ⟨qt_24, k0 * 4 + 3, none⟩ (.slice At_46 t_46.length ct_46) = x := ⟨_, rfl⟩
          have z0l49_49 := Go.Proofs.Ytpaakpbbahbhcaa.GoV.part_frozen Olonger_12l0.out (k0 * 4 + 3)
          have nl49_49 : Hid (l49_49.length = t_24.length) := Lib.hid (by rw [← hl49_49, List.length_set]; exact hnlonger_12l0.out)
          have Tl49_49 := Lib.hid (Go.Proofs.Ytpaakpbbahbhcaa.GoV.part_put1 (k := k0) (x := (Go.Proofs.Ytpaakpbbahbhcaa.PSighting.Sighting.mk t_43_id t_43_year t_43_town t_43_traits)) (x' := (Go.Proofs.Ytpaakpbbahbhcaa.PSighting.Sighting.mk t_43_id t_43_year t_43_town t_46)) Olonger_12l0.out gt_43.out (fun z_ => rfl) rfl Ot_46.out Dt_46_longer_12l0.out (by decide))
          have Pl49_49 : Hid (Go.Proofs.Ytpaakpbbahbhcaa.GoV.PartNest wl49_49 w (w.heap.size) 67 3 Go.Proofs.Ytpaakpbbahbhcaa.GoVSighting.lay (fun i_ => i_ == k0 || (fun i_ => decide (i_ < k0)) i_) (some ⟨qt_24, 0, none⟩) ct_24 l49_49 (At_46 :: Blonger_12l0)) := Lib.hid (by rw [← hl49_49, ← hwl49_49]; exact Tl49_49.out.1)
          have Gl49_49 : Hid (wt_46.grownBy wl49_49 (Value.slice (some ⟨qt_24, 0, none⟩) t_24.length ct_24).ownBlock) := Lib.hid (by rw [← hwl49_49]; exact Tl49_49.out.2)
          have Ul49_49 := Lib.hid (Go.Proofs.Ytpaakpbbahbhcaa.GoV.pushed_put (w := wt_46) (Ax := At_46) (Go.Proofs.Ytpaakpbbahbhcaa.GoV.part_head Olonger_12l0.out))
          clear Tl49_49
          have HBwl49_49 := Lib.hid (HBwt_46.out.grown Gl49_49.out HBwt_46.out.size (fun q hq => (Go.Proofs.Ytpaakpbbahbhcaa.GoV.part_lt Olonger_12l0.out _ (Go.Proofs.Ytpaakpbbahbhcaa.GoV.part_head Olonger_12l0.out) ⟨q, 0, none⟩ (by simpa [Value.ownBlock] using hq)).1))
          have hhl49_49 := Lib.hid hl49_49
          clear hl49_49
          replace Ot_46 := Lib.hid (own_other Ot_46.out Gl49_49.out (Apart.symm (Dt_46_longer_12l0.out _ (Go.Proofs.Ytpaakpbbahbhcaa.GoV.part_head Olonger_12l0.out))))
          clear Olonger_12l0 Gl49_49 Ul49_49
          replace H := app_hid H
          go_wp2_with fail
          clear z0l49_49 hct_43_0 hct_43_1 hct_43_2 hct_43_3
          replace Pl49_49 := Lib.hid (Go.Proofs.Ytpaakpbbahbhcaa.GoV.part_inP (p' := fun i_ => decide (i_ < k0 + 1)) Pl49_49.out (fun i_ _ => by rw [Bool.eq_iff_iff]; simp; omega))
          go_roundg m0
          case measure => omega
          case rel => exact ⟨k0 + 1, _, _, by omega, by go_num, H, HBwl49_49, Pl49_49, Lib.hid (nl49_49.out)⟩
end Go.Proofs.Ytpaakpbbahbhcaa.GiAddSighting

/- loop.example/g01062/laws.eqIntS as a plain function, and the contract of the program's: where the plain one has an answer, the program has it. Conditions: slices read as lists. -/
namespace Go.Proofs.Ytpaakpbbahbhcaa.GlEqIntS
set_option linter.unusedVariables false
set_option linter.unusedSimpArgs false
open Go.RowKit
open Go.Proofs.Ytpaakpbbahbhcaa.Rowed Go.Proofs.Ytpaakpbbahbhcaa.Turn Go.Proofs.Ytpaakpbbahbhcaa.Aid Go.Proofs.Ytpaakpbbahbhcaa.GoP Go.Proofs.Ytpaakpbbahbhcaa.GoM

def l0 (a : (List Int)) (b : (List Int)) (k0 : Nat) (s : Unit) (nx0 bk0 : Unit → Option (Bool)) : Option (Bool) :=
  
  Option.bind (idx a (k0 : Int)) fun (yt_14 : Int) =>
  Option.bind (idx b (k0 : Int)) fun (yt_18 : Int) =>
  letK (yt_14 != yt_18) fun (t_20 : Bool) =>
  iteK t_20
  (some false)
  (appK nx0 ())

def e0  (s : Unit) : Option (Bool) :=
  
  some true

def P (a : (List Int)) (b : (List Int)) : Option (Bool) :=
  letK ((a.length : Int) != (b.length : Int)) fun (t_5 : Bool) =>
  iteK t_5
  (some false)
  (cntK (l0 a b) (a.length) 0 () (e0 ))

set_option maxRecDepth 100000 in
set_option maxHeartbeats 2000000 in
theorem C (a : (List Int)) (b : (List Int)) (A0 : Option Addr) (c0 : Nat) (A1 : Option Addr) (c1 : Nat)  (w : World) (M0 : Hid (Cells w 1 A0 a.length (Go.Proofs.Ytpaakpbbahbhcaa.HelpInt.iv a))) (N0 : Hid (a.length ≤ 9223372036854775807)) (M1 : Hid (Cells w 1 A1 b.length (Go.Proofs.Ytpaakpbbahbhcaa.HelpInt.iv b))) (N1 : Hid (b.length ≤ 9223372036854775807))  {r : Bool} (H : Hid (P a b = some r)) :
    Calls Try.prog 37 #[.slice A0 a.length c0, .slice A1 b.length c1] w (Gives (.bool r) w) := by
  have HB := Lib.hid (Below.refl w.heap.size w)
  unfold P at H
  have N0o := N0.out
  have N1o := N1.out
  go_enter Try.func37, Try.ntmps37
  replace H := let_hid H
  obtain ⟨t_5, ht_5, H⟩ := H
  cases t_5 with
  | false =>
    have Hht_5 : Hid (a.length = b.length) := Lib.hid (by have := bne_eq_false_iff_eq.1 ht_5; omega)
    have nht_5 : (a.length == b.length) = true := beq_iff_eq.2 Hht_5.out
    replace H := ite_f H
    go_wp2_with fail
    go_loopg [5] (a.length) (fun m_ v5_ wr => ∃ (k0 : Nat) , k0 + m_ = a.length ∧ v5_ = .int .i64 (k0 : Int) ∧ Hid (cntK (l0 a b) m_ k0 () (e0 ) = some r) ∧ Hid (Below w.heap.size w wr))
    case atStart => exact ⟨0, by omega, rfl, H, HB⟩
    case round =>
      obtain ⟨k0, hkm0, rfl, H, HBwr0⟩ := hrel
      rename World => wr0
      cases gk with
      | zero =>
        obtain rfl : k0 = a.length := by omega
        have hc0 : decide (((a.length : Nat) : Int) < ((a.length : Nat) : Int)) = false := by simp
        replace H := cnt_zero H
        unfold e0 at H
        obtain rfl := ret_hid H
        go_wp2_with fail
        go_ret
        exact ⟨rfl, HBwr0.out⟩
      | succ m0 =>
        have hlt0 : k0 < a.length := by omega
        have hc0 : decide ((k0 : Int) < ((a.length : Nat) : Int)) = true := by simp; omega
        replace H := cnt_succ H
        unfold l0 at H
        go_wp2_with fail
        replace H := idx_hid H
        obtain ⟨nt_14, yt_14, et_14, lt_14, gt_14, H⟩ := H
        obtain rfl : k0 = nt_14 := by omega
        clear et_14
        obtain ⟨ab_t_14, ao_t_14, zt_14, At_14, z_t_14, ct_14_0⟩ := Go.Proofs.Ytpaakpbbahbhcaa.HelpInt.Ints.at_ M0.out lt_14
        obtain rfl := Option.some.inj (gt_14.out.symm.trans z_t_14)
        subst At_14
        have ltt_14 := cell_lt ct_14_0
        replace ct_14_0 := cell_below HBwr0.out ct_14_0
        clear z_t_14
        have b0t_14 : (0 : Int) ≤ (k0 : Int) := by omega
        have b1t_14 : (k0 : Int) < ((a.length : Nat) : Int) := by omega
        have b2t_14 : ((k0 : Int)).toNat = k0 := by omega
        have Hct_14_0 := Lib.hid ct_14_0
        replace ct_14_0 := cell_regrown ct_14_0
        replace H := idx_hid H
        obtain ⟨nt_18, yt_18, et_18, lt_18, gt_18, H⟩ := H
        obtain rfl : k0 = nt_18 := by omega
        clear et_18
        obtain ⟨ab_t_18, ao_t_18, zt_18, At_18, z_t_18, ct_18_0⟩ := Go.Proofs.Ytpaakpbbahbhcaa.HelpInt.Ints.at_ M1.out lt_18
        obtain rfl := Option.some.inj (gt_18.out.symm.trans z_t_18)
        subst At_18
        have ltt_18 := cell_lt ct_18_0
        replace ct_18_0 := cell_below HBwr0.out ct_18_0
        clear z_t_18
        have b0t_18 : (0 : Int) ≤ (k0 : Int) := by omega
        have b1t_18 : (k0 : Int) < ((b.length : Nat) : Int) := by omega
        have b2t_18 : ((k0 : Int)).toNat = k0 := by omega
        have Hct_18_0 := Lib.hid ct_18_0
        replace ct_18_0 := cell_regrown ct_18_0
        replace H := let_hid H
        obtain ⟨t_20, ht_20, H⟩ := H
        refine wp_region_quiet_below (by kernel_rfl) (by kernel_rfl) ?_
        repeat (go_big_quiet_step (fail))
        refine wpQuiet_nil ?_
        intro Y6 hY6
        replace hY6 := below_class hY6
        replace ct_14_0 := Hct_14_0.out
        clear Hct_14_0
        replace ct_18_0 := Hct_18_0.out
        clear Hct_18_0
        have HBY6 := Lib.hid (Below.step HBwr0.out hY6)
        replace ct_14_0 := cell_below hY6 ct_14_0
        replace ct_18_0 := cell_below hY6 ct_18_0
        clear hY6
        cases t_20 with
        | false =>
          replace H := ite_f H
          replace H := app_hid H
          go_wp2_with fail
          go_roundg m0
          case measure => omega
          case rel => exact ⟨k0 + 1, by omega, by go_num, H, HBY6⟩
        | true =>
          replace H := ite_t H
          obtain rfl := ret_hid H
          go_wp2_with fail
          go_ret
          exact ⟨rfl, HBY6.out⟩
  | true =>
    have nht_5 : ¬ (a.length = b.length) := by have := bne_iff_ne.1 ht_5; omega
    replace H := ite_t H
    obtain rfl := ret_hid H
    go_wp2_with fail
    go_ret
    exact ⟨rfl, HB.out⟩
end Go.Proofs.Ytpaakpbbahbhcaa.GlEqIntS

/- loop.example/g01062/laws.eqSighting as a plain function, and the contract of the program's: where the plain one has an answer, the program has it. Conditions: slices read as lists. -/
namespace Go.Proofs.Ytpaakpbbahbhcaa.GlEqSighting
set_option linter.unusedVariables false
set_option linter.unusedSimpArgs false
open Go.RowKit
open Go.Proofs.Ytpaakpbbahbhcaa.Rowed Go.Proofs.Ytpaakpbbahbhcaa.Turn Go.Proofs.Ytpaakpbbahbhcaa.Aid Go.Proofs.Ytpaakpbbahbhcaa.GoP Go.Proofs.Ytpaakpbbahbhcaa.GoM

def P (a_id : Int) (a_year : Int) (a_town : ByteArray) (a_traits : (List Int)) (b_id : Int) (b_year : Int) (b_town : ByteArray) (b_traits : (List Int)) : Option (Bool) :=
  letK (a_id != b_id) fun (t_7 : Bool) =>
  iteK t_7
  (some false)
  (letK (a_year != b_year) fun (t_13 : Bool) =>
  iteK t_13
  (some false)
  (letK (!(a_town.toList == b_town.toList)) fun (t_19 : Bool) =>
  iteK t_19
  (some false)
  (Option.bind (Go.Proofs.Ytpaakpbbahbhcaa.GlEqIntS.P a_traits b_traits) fun (t_25 : Bool) =>
  letK (!t_25) fun (t_26 : Bool) =>
  iteK t_26
  (some false)
  (some true))))

set_option maxRecDepth 100000 in
set_option maxHeartbeats 2000000 in
theorem C (a_id : Int) (a_year : Int) (a_town : ByteArray) (a_traits : (List Int)) (b_id : Int) (b_year : Int) (b_town : ByteArray) (b_traits : (List Int)) (A0_3 : Option Addr) (c0_3 : Nat) (A1_3 : Option Addr) (c1_3 : Nat)  (w : World) (M0_3 : Hid (Cells w 1 A0_3 a_traits.length (Go.Proofs.Ytpaakpbbahbhcaa.HelpInt.iv a_traits))) (N0_3 : Hid (a_traits.length ≤ 9223372036854775807)) (M1_3 : Hid (Cells w 1 A1_3 b_traits.length (Go.Proofs.Ytpaakpbbahbhcaa.HelpInt.iv b_traits))) (N1_3 : Hid (b_traits.length ≤ 9223372036854775807))  {r : Bool} (H : Hid (P a_id a_year a_town a_traits b_id b_year b_town b_traits = some r)) :
    Calls Try.prog 71 #[.agg #[.int .i64 a_id, .int .i64 a_year, .string a_town, .slice A0_3 a_traits.length c0_3], .agg #[.int .i64 b_id, .int .i64 b_year, .string b_town, .slice A1_3 b_traits.length c1_3]] w (Gives (.bool r) w) := by
  have HB := Lib.hid (Below.refl w.heap.size w)
  unfold P at H
  have N0_3o := N0_3.out
  have N1_3o := N1_3.out
  go_enter Try.func71, Try.ntmps71
  obtain ⟨w_a_0, hw_a_0⟩ : ∃ x, w.alloc (.cells #[.int .i64 a_id, .int .i64 a_year, .string a_town, .slice A0_3 a_traits.length c0_3] 67) = x := ⟨_, rfl⟩
  have bw_a_0 : Below w.heap.size w w_a_0 := by rw [← hw_a_0]; exact (Below.refl _ _).alloc (Nat.le_refl _) _
  have HBw_a_0 := Lib.hid (Below.step HB.out bw_a_0)
  clear bw_a_0
  have ka_0_0 : w_a_0.cell? ⟨w.heap.size, 0, none⟩ = some (.int .i64 a_id) := by rw [← hw_a_0]; exact box_new _ _ _ 0 _ rfl
  have ka_0_1 : w_a_0.cell? ⟨w.heap.size, 1, none⟩ = some (.int .i64 a_year) := by rw [← hw_a_0]; exact box_new _ _ _ 1 _ rfl
  have ka_0_2 : w_a_0.cell? ⟨w.heap.size, 2, none⟩ = some (.string a_town) := by rw [← hw_a_0]; exact box_new _ _ _ 2 _ rfl
  have ka_0_3 : w_a_0.cell? ⟨w.heap.size, 3, none⟩ = some (.slice A0_3 a_traits.length c0_3) := by rw [← hw_a_0]; exact box_new _ _ _ 3 _ rfl
  obtain ⟨w_b_1, hw_b_1⟩ : ∃ x, w_a_0.alloc (.cells #[.int .i64 b_id, .int .i64 b_year, .string b_town, .slice A1_3 b_traits.length c1_3] 67) = x := ⟨_, rfl⟩
  have bw_b_1 : Below w_a_0.heap.size w_a_0 w_b_1 := by rw [← hw_b_1]; exact (Below.refl _ _).alloc (Nat.le_refl _) _
  have HBw_b_1 := Lib.hid (Below.step HBw_a_0.out bw_b_1)
  have ka_0_0__134 := cell_below bw_b_1 ka_0_0
  have ka_0_1__135 := cell_below bw_b_1 ka_0_1
  have ka_0_2__136 := cell_below bw_b_1 ka_0_2
  have ka_0_3__137 := cell_below bw_b_1 ka_0_3
  clear bw_b_1
  have kb_1_0 : w_b_1.cell? ⟨w_a_0.heap.size, 0, none⟩ = some (.int .i64 b_id) := by rw [← hw_b_1]; exact box_new _ _ _ 0 _ rfl
  have kb_1_1 : w_b_1.cell? ⟨w_a_0.heap.size, 1, none⟩ = some (.int .i64 b_year) := by rw [← hw_b_1]; exact box_new _ _ _ 1 _ rfl
  have kb_1_2 : w_b_1.cell? ⟨w_a_0.heap.size, 2, none⟩ = some (.string b_town) := by rw [← hw_b_1]; exact box_new _ _ _ 2 _ rfl
  have kb_1_3 : w_b_1.cell? ⟨w_a_0.heap.size, 3, none⟩ = some (.slice A1_3 b_traits.length c1_3) := by rw [← hw_b_1]; exact box_new _ _ _ 3 _ rfl
  replace H := let_hid H
  obtain ⟨t_7, ht_7, H⟩ := H
  cases t_7 with
  | false =>
    replace H := ite_f H
    replace H := let_hid H
    obtain ⟨t_13, ht_13, H⟩ := H
    cases t_13 with
    | false =>
      replace H := ite_f H
      replace H := let_hid H
      obtain ⟨t_19, ht_19, H⟩ := H
      cases t_19 with
      | false =>
        replace H := ite_f H
        replace H := bind_hid H
        obtain ⟨t_25, qt_25, H⟩ := H
        go_wp2_with fail
        clear ka_0_0 ka_0_1 ka_0_2 ka_0_3
        go_at_call 37
        refine (Go.Proofs.Ytpaakpbbahbhcaa.GlEqIntS.C (a_traits) (b_traits) A0_3 c0_3 A1_3 c1_3 _   (Lib.hid (Cells.below M0_3.out HBw_b_1.out)) N0_3 (Lib.hid (Cells.below M1_3.out HBw_b_1.out)) N1_3 qt_25).mono ?_
        rintro e_t_25 wt_25 ⟨rfl, bt_25⟩
        have HBwt_25 := Lib.hid (Below.step HBw_b_1.out bt_25)
        replace ka_0_0__134 := cell_below bt_25 ka_0_0__134
        replace ka_0_1__135 := cell_below bt_25 ka_0_1__135
        replace ka_0_2__136 := cell_below bt_25 ka_0_2__136
        replace ka_0_3__137 := cell_below bt_25 ka_0_3__137
        replace kb_1_0 := cell_below bt_25 kb_1_0
        replace kb_1_1 := cell_below bt_25 kb_1_1
        replace kb_1_2 := cell_below bt_25 kb_1_2
        replace kb_1_3 := cell_below bt_25 kb_1_3
        clear bt_25
        cases t_25 with
        | false =>
          replace H := let_hid H
          obtain ⟨t_26, ht_26, H⟩ := H
          obtain rfl : t_26 = true := ht_26.symm
          replace H := ite_t H
          obtain rfl := ret_hid H
          go_wp2_with fail
          go_ret
          exact ⟨rfl, HBwt_25.out⟩
        | true =>
          replace H := let_hid H
          obtain ⟨t_26, ht_26, H⟩ := H
          obtain rfl : t_26 = false := ht_26.symm
          replace H := ite_f H
          obtain rfl := ret_hid H
          go_wp2_with fail
          go_ret
          exact ⟨rfl, HBwt_25.out⟩
      | true =>
        replace H := ite_t H
        obtain rfl := ret_hid H
        go_wp2_with fail
        go_ret
        exact ⟨rfl, HBw_b_1.out⟩
    | true =>
      replace H := ite_t H
      obtain rfl := ret_hid H
      go_wp2_with fail
      go_ret
      exact ⟨rfl, HBw_b_1.out⟩
  | true =>
    replace H := ite_t H
    obtain rfl := ret_hid H
    go_wp2_with fail
    go_ret
    exact ⟨rfl, HBw_b_1.out⟩
end Go.Proofs.Ytpaakpbbahbhcaa.GlEqSighting

/- loop.example/g01062/laws.eqSightingS as a plain function, and the contract of the program's: where the plain one has an answer, the program has it. Conditions: slices read as lists. -/
namespace Go.Proofs.Ytpaakpbbahbhcaa.GlEqSightingS
set_option linter.unusedVariables false
set_option linter.unusedSimpArgs false
open Go.RowKit
open Go.Proofs.Ytpaakpbbahbhcaa.Rowed Go.Proofs.Ytpaakpbbahbhcaa.Turn Go.Proofs.Ytpaakpbbahbhcaa.Aid Go.Proofs.Ytpaakpbbahbhcaa.GoP Go.Proofs.Ytpaakpbbahbhcaa.GoM

def l0 (a : (List Go.Proofs.Ytpaakpbbahbhcaa.PSighting.Sighting)) (b : (List Go.Proofs.Ytpaakpbbahbhcaa.PSighting.Sighting)) (k0 : Nat) (s : Unit) (nx0 bk0 : Unit → Option (Bool)) : Option (Bool) :=
  
  Option.bind (idx a (k0 : Int)) fun (yt_14 : Go.Proofs.Ytpaakpbbahbhcaa.PSighting.Sighting) =>
  unSighting yt_14 fun (t_14_id : Int) (t_14_year : Int) (t_14_town : ByteArray) (t_14_traits : (List Int)) =>
  Option.bind (idx b (k0 : Int)) fun (yt_18 : Go.Proofs.Ytpaakpbbahbhcaa.PSighting.Sighting) =>
  unSighting yt_18 fun (t_18_id : Int) (t_18_year : Int) (t_18_town : ByteArray) (t_18_traits : (List Int)) =>
  Option.bind (Go.Proofs.Ytpaakpbbahbhcaa.GlEqSighting.P t_14_id t_14_year t_14_town t_14_traits t_18_id t_18_year t_18_town t_18_traits) fun (t_20 : Bool) =>
  letK (!t_20) fun (t_21 : Bool) =>
  iteK t_21
  (some false)
  (appK nx0 ())

def e0  (s : Unit) : Option (Bool) :=
  
  some true

def P (a : (List Go.Proofs.Ytpaakpbbahbhcaa.PSighting.Sighting)) (b : (List Go.Proofs.Ytpaakpbbahbhcaa.PSighting.Sighting)) : Option (Bool) :=
  letK ((a.length : Int) != (b.length : Int)) fun (t_5 : Bool) =>
  iteK t_5
  (some false)
  (cntK (l0 a b) (a.length) 0 () (e0 ))

set_option maxRecDepth 100000 in
set_option maxHeartbeats 2000000 in
theorem C (a : (List Go.Proofs.Ytpaakpbbahbhcaa.PSighting.Sighting)) (b : (List Go.Proofs.Ytpaakpbbahbhcaa.PSighting.Sighting)) (A0 : Option Addr) (c0 : Nat) (A1 : Option Addr) (c1 : Nat)  (w : World) (M0 : Hid (Go.Proofs.Ytpaakpbbahbhcaa.GoV.ReadNest w Go.Proofs.Ytpaakpbbahbhcaa.GoVSighting.lay A0 a)) (N0 : Hid (a.length ≤ 9223372036854775807)) (M1 : Hid (Go.Proofs.Ytpaakpbbahbhcaa.GoV.ReadNest w Go.Proofs.Ytpaakpbbahbhcaa.GoVSighting.lay A1 b)) (N1 : Hid (b.length ≤ 9223372036854775807))  {r : Bool} (H : Hid (P a b = some r)) :
    Calls Try.prog 32 #[.slice A0 a.length c0, .slice A1 b.length c1] w (Gives (.bool r) w) := by
  have HB := Lib.hid (Below.refl w.heap.size w)
  unfold P at H
  have N0o := N0.out
  have N1o := N1.out
  go_enter Try.func32, Try.ntmps32
  replace H := let_hid H
  obtain ⟨t_5, ht_5, H⟩ := H
  cases t_5 with
  | false =>
    have Hht_5 : Hid (a.length = b.length) := Lib.hid (by have := bne_eq_false_iff_eq.1 ht_5; omega)
    have nht_5 : (a.length == b.length) = true := beq_iff_eq.2 Hht_5.out
    replace H := ite_f H
    go_wp2_with fail
    go_loopg [5] (a.length) (fun m_ v5_ wr => ∃ (k0 : Nat) , k0 + m_ = a.length ∧ v5_ = .int .i64 (k0 : Int) ∧ Hid (cntK (l0 a b) m_ k0 () (e0 ) = some r) ∧ Hid (Below w.heap.size w wr))
    case atStart => exact ⟨0, by omega, rfl, H, HB⟩
    case round =>
      obtain ⟨k0, hkm0, rfl, H, HBwr0⟩ := hrel
      rename World => wr0
      cases gk with
      | zero =>
        obtain rfl : k0 = a.length := by omega
        have hc0 : decide (((a.length : Nat) : Int) < ((a.length : Nat) : Int)) = false := by simp
        replace H := cnt_zero H
        unfold e0 at H
        obtain rfl := ret_hid H
        go_wp2_with fail
        go_ret
        exact ⟨rfl, HBwr0.out⟩
      | succ m0 =>
        have hlt0 : k0 < a.length := by omega
        have hc0 : decide ((k0 : Int) < ((a.length : Nat) : Int)) = true := by simp; omega
        replace H := cnt_succ H
        unfold l0 at H
        go_wp2_with fail
        replace H := idx_hid H
        obtain ⟨nt_14, yt_14, et_14, lt_14, gt_14, H⟩ := H
        obtain rfl : k0 = nt_14 := by omega
        clear et_14
        obtain ⟨t_14_id, t_14_year, t_14_town, t_14_traits⟩ := yt_14
        replace H := unSighting_hid H
        obtain ⟨bbt_14, oot_14, zt_14, Art_14, crt_14, eAt_14, zzt_14, hKt_14, hrt_14, hqt_14, hnt_14⟩ := Go.Proofs.Ytpaakpbbahbhcaa.GoV.nest_at M0.out (k := k0) lt_14
        obtain rfl := Option.some.inj (gt_14.out.symm.trans zzt_14)
        clear zzt_14
        subst eAt_14
        have hct_14_0 : w.cell? ⟨bbt_14, oot_14 + k0 * 4, none⟩ = some (.int .i64 t_14_id) := hKt_14 0 _ rfl
        have hct_14_1 : w.cell? ⟨bbt_14, oot_14 + k0 * 4 + 1, none⟩ = some (.int .i64 t_14_year) := hKt_14 1 _ rfl
        have hct_14_2 : w.cell? ⟨bbt_14, oot_14 + k0 * 4 + 2, none⟩ = some (.string t_14_town) := hKt_14 2 _ rfl
        have hct_14_3 : w.cell? ⟨bbt_14, oot_14 + k0 * 4 + 3, none⟩ = some (.slice Art_14 t_14_traits.length crt_14) := hKt_14 3 _ rfl
        clear hKt_14
        have ltt_14 := cell_lt hct_14_0
        replace hct_14_0 := cell_below HBwr0.out hct_14_0
        replace hct_14_1 := cell_below HBwr0.out hct_14_1
        replace hct_14_2 := cell_below HBwr0.out hct_14_2
        replace hct_14_3 := cell_below HBwr0.out hct_14_3
        have Mrt_14 := Lib.hid hrt_14
        have Qrt_14 := Lib.hid hqt_14
        have Nrt_14 := Lib.hid hnt_14
        clear hrt_14 hqt_14 hnt_14
        have b0t_14 : (0 : Int) ≤ (k0 : Int) := by omega
        have b1t_14 : (k0 : Int) < ((a.length : Nat) : Int) := by omega
        have b2t_14 : ((k0 : Int)).toNat = k0 := by omega
        have Hhct_14_0 := Lib.hid hct_14_0
        replace hct_14_0 := cell_regrown hct_14_0
        have Hhct_14_1 := Lib.hid hct_14_1
        replace hct_14_1 := cell_regrown hct_14_1
        have Hhct_14_2 := Lib.hid hct_14_2
        replace hct_14_2 := cell_regrown hct_14_2
        have Hhct_14_3 := Lib.hid hct_14_3
        replace hct_14_3 := cell_regrown hct_14_3
        replace H := idx_hid H
        obtain ⟨nt_18, yt_18, et_18, lt_18, gt_18, H⟩ := H
        obtain rfl : k0 = nt_18 := by omega
        clear et_18
        obtain ⟨t_18_id, t_18_year, t_18_town, t_18_traits⟩ := yt_18
        replace H := unSighting_hid H
        obtain ⟨bbt_18, oot_18, zt_18, Art_18, crt_18, eAt_18, zzt_18, hKt_18, hrt_18, hqt_18, hnt_18⟩ := Go.Proofs.Ytpaakpbbahbhcaa.GoV.nest_at M1.out (k := k0) lt_18
        obtain rfl := Option.some.inj (gt_18.out.symm.trans zzt_18)
        clear zzt_18
        subst eAt_18
        have hct_18_0 : w.cell? ⟨bbt_18, oot_18 + k0 * 4, none⟩ = some (.int .i64 t_18_id) := hKt_18 0 _ rfl
        have hct_18_1 : w.cell? ⟨bbt_18, oot_18 + k0 * 4 + 1, none⟩ = some (.int .i64 t_18_year) := hKt_18 1 _ rfl
        have hct_18_2 : w.cell? ⟨bbt_18, oot_18 + k0 * 4 + 2, none⟩ = some (.string t_18_town) := hKt_18 2 _ rfl
        have hct_18_3 : w.cell? ⟨bbt_18, oot_18 + k0 * 4 + 3, none⟩ = some (.slice Art_18 t_18_traits.length crt_18) := hKt_18 3 _ rfl
        clear hKt_18
        have ltt_18 := cell_lt hct_18_0
        replace hct_18_0 := cell_below HBwr0.out hct_18_0
        replace hct_18_1 := cell_below HBwr0.out hct_18_1
        replace hct_18_2 := cell_below HBwr0.out hct_18_2
        replace hct_18_3 := cell_below HBwr0.out hct_18_3
        have Mrt_18 := Lib.hid hrt_18
        have Qrt_18 := Lib.hid hqt_18
        have Nrt_18 := Lib.hid hnt_18
        clear hrt_18 hqt_18 hnt_18
        have b0t_18 : (0 : Int) ≤ (k0 : Int) := by omega
        have b1t_18 : (k0 : Int) < ((b.length : Nat) : Int) := by omega
        have b2t_18 : ((k0 : Int)).toNat = k0 := by omega
        have Hhct_18_0 := Lib.hid hct_18_0
        replace hct_18_0 := cell_regrown hct_18_0
        have Hhct_18_1 := Lib.hid hct_18_1
        replace hct_18_1 := cell_regrown hct_18_1
        have Hhct_18_2 := Lib.hid hct_18_2
        replace hct_18_2 := cell_regrown hct_18_2
        have Hhct_18_3 := Lib.hid hct_18_3
        replace hct_18_3 := cell_regrown hct_18_3
        replace H := bind_hid H
        obtain ⟨t_20, qt_20, H⟩ := H
        have nt_20 : ∀ d os, Calls Try.prog 71 #[.agg #[.int .i64 t_14_id, .int .i64 t_14_year, .string t_14_town, .slice Art_14 t_14_traits.length crt_14], .agg #[.int .i64 t_18_id, .int .i64 t_18_year, .string t_18_town, .slice Art_18 t_18_traits.length crt_18]] (Go.Sort.grow (redrawn wr0 d) os) fun e w'' => e = .returned (.bool t_20) ∧ ∃ p : Regrown, w'' = Go.Sort.grow (redrawn wr0 p.d) p.os := fun d os => Calls.regrown_of (Go.Proofs.Ytpaakpbbahbhcaa.GlEqSighting.C (t_14_id) (t_14_year) (t_14_town) (t_14_traits) (t_18_id) (t_18_year) (t_18_town) (t_18_traits) Art_14 crt_14 Art_18 crt_18 _   (Lib.hid (Cells.below (Cells.below Mrt_14.out HBwr0.out) (below_regrown _ _ _))) Nrt_14 (Lib.hid (Cells.below (Cells.below Mrt_18.out HBwr0.out) (below_regrown _ _ _))) Nrt_18 qt_20)
        cases t_20 with
        | false =>
          replace H := let_hid H
          obtain ⟨t_21, ht_21, H⟩ := H
          obtain rfl : t_21 = true := ht_21.symm
          refine wp_region_quiet_below (by kernel_rfl) (by kernel_rfl) ?_
          repeat (go_big_quiet_step (first | (go_at_call 71; exact nt_20 _ _)))
          refine wpQuiet_nil ?_
          intro Y6 hY6
          replace hY6 := below_class hY6
          clear nt_20
          replace hct_14_0 := Hhct_14_0.out
          clear Hhct_14_0
          replace hct_14_1 := Hhct_14_1.out
          clear Hhct_14_1
          replace hct_14_2 := Hhct_14_2.out
          clear Hhct_14_2
          replace hct_14_3 := Hhct_14_3.out
          clear Hhct_14_3
          replace hct_18_0 := Hhct_18_0.out
          clear Hhct_18_0
          replace hct_18_1 := Hhct_18_1.out
          clear Hhct_18_1
          replace hct_18_2 := Hhct_18_2.out
          clear Hhct_18_2
          replace hct_18_3 := Hhct_18_3.out
          clear Hhct_18_3
          have HBY6 := Lib.hid (Below.step HBwr0.out hY6)
          replace hct_14_0 := cell_below hY6 hct_14_0
          replace hct_14_1 := cell_below hY6 hct_14_1
          replace hct_14_2 := cell_below hY6 hct_14_2
          replace hct_14_3 := cell_below hY6 hct_14_3
          replace hct_18_0 := cell_below hY6 hct_18_0
          replace hct_18_1 := cell_below hY6 hct_18_1
          replace hct_18_2 := cell_below hY6 hct_18_2
          replace hct_18_3 := cell_below hY6 hct_18_3
          clear hY6
          replace H := ite_t H
          obtain rfl := ret_hid H
          go_wp2_with fail
          go_ret
          exact ⟨rfl, HBY6.out⟩
        | true =>
          replace H := let_hid H
          obtain ⟨t_21, ht_21, H⟩ := H
          obtain rfl : t_21 = false := ht_21.symm
          refine wp_region_quiet_below (by kernel_rfl) (by kernel_rfl) ?_
          repeat (go_big_quiet_step (first | (go_at_call 71; exact nt_20 _ _)))
          refine wpQuiet_nil ?_
          intro Y6 hY6
          replace hY6 := below_class hY6
          clear nt_20
          replace hct_14_0 := Hhct_14_0.out
          clear Hhct_14_0
          replace hct_14_1 := Hhct_14_1.out
          clear Hhct_14_1
          replace hct_14_2 := Hhct_14_2.out
          clear Hhct_14_2
          replace hct_14_3 := Hhct_14_3.out
          clear Hhct_14_3
          replace hct_18_0 := Hhct_18_0.out
          clear Hhct_18_0
          replace hct_18_1 := Hhct_18_1.out
          clear Hhct_18_1
          replace hct_18_2 := Hhct_18_2.out
          clear Hhct_18_2
          replace hct_18_3 := Hhct_18_3.out
          clear Hhct_18_3
          have HBY6 := Lib.hid (Below.step HBwr0.out hY6)
          replace hct_14_0 := cell_below hY6 hct_14_0
          replace hct_14_1 := cell_below hY6 hct_14_1
          replace hct_14_2 := cell_below hY6 hct_14_2
          replace hct_14_3 := cell_below hY6 hct_14_3
          replace hct_18_0 := cell_below hY6 hct_18_0
          replace hct_18_1 := cell_below hY6 hct_18_1
          replace hct_18_2 := cell_below hY6 hct_18_2
          replace hct_18_3 := cell_below hY6 hct_18_3
          clear hY6
          replace H := ite_f H
          replace H := app_hid H
          go_wp2_with fail
          go_roundg m0
          case measure => omega
          case rel => exact ⟨k0 + 1, by omega, by go_num, H, HBY6⟩
  | true =>
    have nht_5 : ¬ (a.length = b.length) := by have := bne_iff_ne.1 ht_5; omega
    replace H := ite_t H
    obtain rfl := ret_hid H
    go_wp2_with fail
    go_ret
    exact ⟨rfl, HB.out⟩
end Go.Proofs.Ytpaakpbbahbhcaa.GlEqSightingS

/- The contracts of the laws' helpers on slices of strings: szStringS, toStringS, eqStringS. Condition: the slice reads as a list of strings. -/
namespace Go.Proofs.Ytpaakpbbahbhcaa.HelpStr
set_option linter.unusedVariables false
open Go.RowKit
open Go.Proofs.Ytpaakpbbahbhcaa.Rowed

/-- how many bytes the strings hold together -/
def nbytes (l : List ByteArray) : Nat := (l.map ByteArray.size).sum
/-- szStringS: what is left of 'left' behind the strings and their number, or -1 where nothing is left -/
def SzPost (l : List ByteArray) (left : Int) (w : World) (e : Ending) (w' : World) : Prop :=
  ((0 ≤ left - (l.length : Int) - (nbytes l : Int) ∧ e = .returned (.int .i64 (left - (l.length : Int) - (nbytes l : Int)))) ∨ (left - (l.length : Int) - (nbytes l : Int) < 0 ∧ e = .returned (.int .i64 (-1)))) ∧ w = w'

/-- toStringS: a new row with the same strings -/
def ToPost (l : List ByteArray) (w : World) (e : Ending) (w' : World) : Prop :=
  ∃ g, e = .returned (.slice (some ⟨g, 0, none⟩) l.length l.length) ∧ w'.ownsRow w.heap.size 9 1 (.slice (some ⟨g, 0, none⟩) l.length l.length) l.length (l.map Value.string) ∧ Below w.heap.size w w'

def RelTo (l : List ByteArray) (ys : List Value) (w : World) (k : Nat) (wr : World) : Prop :=
  wr.ownsRow w.heap.size 9 1 (.slice (some ⟨w.heap.size, 0, none⟩) l.length l.length) l.length (fill (l.map Value.string) ys k) ∧ Below w.heap.size w wr

end Go.Proofs.Ytpaakpbbahbhcaa.HelpStr

/- The contracts of the laws' helpers that mark a slice of strings and look whether the marks are held: markText, markStringS, heldStringS. Conditions: the marks begin at 1 or more; the slice is one that the caller has made. -/
namespace Go.Proofs.Ytpaakpbbahbhcaa.MarkStr
set_option linter.unusedVariables false
open Go.RowKit
open Go.Proofs.Ytpaakpbbahbhcaa.Rowed Go.Proofs.Ytpaakpbbahbhcaa.HelpStr

/-- the mark of number k -/
def mt (k : Nat) : ByteArray := ⟨(109 :: Lib.decDigits k).toArray⟩

theorem ext_of {a b : ByteArray} (h : a.data.toList = b.data.toList) : a = b := by
  obtain ⟨⟨x⟩⟩ := a
  obtain ⟨⟨y⟩⟩ := b
  simp at h
  rw [h]
theorem add_str {P : Program} (a b c : ByteArray) (h : a.data.toList ++ b.data.toList = c.data.toList) (hl : c.data.toList.length ≤ 9223372036854775807) (W : World) :
    (Op.stringOp .add a b).run P W = .ok (.string c) W := by
  have e1 : a.data.toList.length = a.size := by simp
  have e2 : b.data.toList.length = b.size := by simp
  rw [← h, List.length_append, e1, e2] at hl
  rw [run_string_add_sum]
  · congr 2
    apply ext_of
    rw [← h]
    simp
  · exact hl
theorem dec_small (j : Nat) (h : j < 10) : Lib.decDigits j = [UInt8.ofNat (48 + j % 10)] := by
  rw [Lib.decDigits_one h, Nat.mod_eq_of_lt h]
theorem dec_step (j : Nat) (h : ¬ j < 10) : Lib.decDigits j = Lib.decDigits (j / 10) ++ [UInt8.ofNat (48 + j % 10)] := by
  rw [Lib.decDigits, dif_neg h]

/-- what is done when j is what is left: o -/
def Rel (k j : Nat) (o : List UInt8) : Prop := (if j = 0 then [] else Lib.decDigits j) ++ o = Lib.decDigits k
theorem Rel.next {k j : Nat} {o : List UInt8} (h : Rel k j o) (hj : 0 < j) : Rel k (j / 10) (UInt8.ofNat (48 + j % 10) :: o) := by
  unfold Rel at h ⊢
  rw [if_neg (by omega)] at h
  by_cases h10 : j < 10
  · rw [if_pos (by omega)]
    rw [dec_small j h10] at h
    exact h
  · rw [if_neg (by omega)]
    rw [dec_step j h10, List.append_assoc] at h
    exact h
theorem Rel.len {k j : Nat} {o : List UInt8} (h : Rel k j o) (hk : k ≤ 1000000000) : o.length ≤ 20 := by
  have h1 := congrArg List.length h
  rw [List.length_append, Lib.decDigits_length] at h1
  have := Lib.nDigits_le20 k (by omega)
  omega
theorem byte_num (j : Nat) : ((UInt8.ofNat (48 + j % 10)).toNat : Int) = 48 + (j : Int) % 10 := by
  rw [UInt8.toNat_ofNat']; omega

theorem conv_one {P : Program} (W : World) (src dst e : TypeId) (c : UInt8) (hs : P.underlying src = some (.slice e)) (he : P.underlying e = some (.int .u8)) (hd : P.underlying dst = some .string) :
    (convert src dst (.slice (some ⟨W.heap.size, 0, none⟩) 1 1)).run P (W.alloc (.cells #[.int .u8 (c.toNat : Int)] e)) = .ok (.string ⟨#[c]⟩) (W.alloc (.cells #[.int .u8 (c.toNat : Int)] e)) := by
  have := run_convert_bytes_back (P := P) (W.alloc (.cells #[.int .u8 (c.toNat : Int)] e)) src dst e ⟨W.heap.size, 0, none⟩ 1 [c] hs he hd (fun j hj => by
    have : j = 0 := by simpa using hj
    subst this
    rw [show (⟨W.heap.size, 0, none⟩ : Addr).add 0 = ⟨W.heap.size, 0, none⟩ from rfl, World.cell?_alloc_new]
    rfl)
  exact this

set_option maxHeartbeats 1000000 in
theorem markText_any (k : Nat) (w : World) (h1 : 1 ≤ k) (h2 : k ≤ 1000000000) :
    Calls Try.prog 72 #[.int .i64 (k : Int)] w fun e w' => e = .returned (.string (mt k)) ∧ Below w.heap.size w w' := by
  have hk0 : decide (k = 0) = false := by simp; omega
  go_enter Try.func72, Try.ntmps72
  go_wp2
  go_loopw [0, 3] (fun t o wr => ∃ (j : Nat) (q : ByteArray), j ≤ k ∧ t = .int .i64 j ∧ o = .string q ∧ Hid (Rel k j q.data.toList) ∧ Hid (Below w.heap.size w wr)) (fun t _ _ => (intOf t).toNat)
  case atStart => exact ⟨k, ⟨#[]⟩, Nat.le_refl _, rfl, rfl, Lib.hid (by unfold Rel; rw [if_neg (by omega)]; simp), Lib.hid (Below.refl _ _)⟩
  case round =>
    obtain ⟨j, q, hjk, rfl, rfl, HR, HB⟩ := hrel
    by_cases hj : 0 < j
    · obtain ⟨ch, hch, HN⟩ : ∃ ch : UInt8, (ch.toNat : Int) = 48 + (j : Int) % 10 ∧ Hid (Rel k (j / 10) (ch :: q.data.toList)) := ⟨_, byte_num j, HR.out.next hj⟩
      have hadd := add_str (P := Try.prog) ⟨#[ch]⟩ q ⟨(ch :: q.data.toList).toArray⟩ rfl (by have := HN.out.len h2; show (ch :: q.data.toList).length ≤ _; omega)
      have hcv := fun W => conv_one (P := Try.prog) W 22 9 5 ch Try.underlying22 Try.underlying5 Try.underlying9
      rw [hch] at hcv
      have HB3 := Lib.hid (HB.out.alloc HB.out.size (.cells #[.int .u8 (48 + (j : Int) % 10)] 5))
      clear hch
      go_wp2
      go_roundw
      case rel => exact ⟨j / 10, _, by omega, by go_num, rfl, HN, HB3⟩
      case measure => simp [intOf]; omega
    · obtain rfl : j = 0 := by omega
      have hfin : q.data.toList = Lib.decDigits k := HR.out
      have HF := Lib.hid hfin
      have hadd := add_str (P := Try.prog) ⟨#[109]⟩ q (mt k) (by unfold mt; rw [hfin]; rfl) (by have := HR.out.len h2; rw [hfin] at this; show (109 :: Lib.decDigits k).length ≤ _; rw [List.length_cons]; omega)
      clear hfin
      go_wp2
      go_ret
      exact ⟨rfl, HB.out⟩

/-- the marks k, k + 1, .. -/
def marks (k n : Nat) : List Value := (List.range n).map fun i => Value.string (mt (k + i))
theorem marks_len (k n : Nat) : (marks k n).length = n := by simp [marks]
theorem marks_at (k n i : Nat) (h : i < n) : (marks k n)[i]? = some (.string (mt (k + i))) := by
  unfold marks; rw [List.getElem?_map, List.getElem?_range h]; rfl
theorem grown_of {W W' : World} (h : Below W.heap.size W W') : W.grownBy W' none := ⟨h.os, h.tape, h.output, h.size, fun k hk _ => h.block k hk⟩
theorem grown_weak {W W' : World} (h : W.grownBy W' none) (g : Nat) : W.grownBy W' (some g) := ⟨h.os, h.tape, h.output, h.size, fun k hk _ => h.block k hk (by simp)⟩
theorem grown_tr {a b c : World} {r : Option Nat} (h : a.grownBy b r) (k : b.grownBy c r) : a.grownBy c r :=
  ⟨k.os.trans h.os, k.tape.trans h.tape, k.output.trans h.output, Nat.le_trans h.size k.size, fun i hi hr => (k.block i (Nat.lt_of_lt_of_le hi h.size) hr).trans (h.block i hi hr)⟩

def MarkRel (w : World) (base g n c k : Nat) (xs : List Value) (i : Nat) (wr : World) : Prop :=
  wr.ownsRow base 9 1 (.slice (some ⟨g, 0, none⟩) n c) n (fill (marks k n) xs i) ∧ w.grownBy wr (some g)

theorem mark_next {w wr w1 : World} {base g n c k i : Nat} {xs : List Value} (h : MarkRel w base g n c k xs i wr) (hb : Below wr.heap.size wr w1) (hxs : xs.length = n) (hi : i < n) :
    ∃ y, w1.cell? ⟨g, i, none⟩ = some y ∧ w1.frozen? ⟨g, i, none⟩ = false ∧ MarkRel w base g n c k xs (i + 1) (w1.setCell ⟨g, i, none⟩ (.string (mt (k + i)))) := by
  have hk := grown_of hb
  have h1 : w1.ownsRow base 9 1 (.slice (some ⟨g, 0, none⟩) n c) n (fill (marks k n) xs i) := h.1.kept hk (.inr (by simp [Value.ownBlock]))
  have hlen : (fill (marks k n) xs i).length = n := by rw [fill_len _ _ _ (by rw [marks_len, hxs])]; exact hxs
  have hc := h1.cellAt i (by omega)
  rw [List.getElem?_eq_getElem (by omega)] at hc
  refine ⟨_, hc, h1.frozenAt i, ?_, ?_⟩
  · have := (h1.stored i (.string (mt (k + i)))).1
    rw [fill_set _ _ _ _ (by omega) (marks_at k n i hi)] at this
    exact this
  · exact grown_tr h.2 (grown_tr (grown_weak hk g) (h1.stored i (.string (mt (k + i)))).2)

def MarkPost (w : World) (base g n c k : Nat) (e : Ending) (w' : World) : Prop :=
  e = .returned (.int .i64 ((k + n : Nat) : Int)) ∧ w'.ownsRow base 9 1 (.slice (some ⟨g, 0, none⟩) n c) n (marks k n) ∧ w.grownBy w' (some g)


def HeldPost (w : World) (k n : Nat) (e : Ending) (w' : World) : Prop := e = .returned (.int .i64 ((k + n : Nat) : Int)) ∧ Below w.heap.size w w'

end Go.Proofs.Ytpaakpbbahbhcaa.MarkStr

/- markText as a plain function, from 1 to a billion; the contract of the program's. No condition. -/
namespace Go.Proofs.Ytpaakpbbahbhcaa.GlMarkText
set_option linter.unusedVariables false
open Go.RowKit
open Go.Proofs.Ytpaakpbbahbhcaa.Turn
def P (k : Int) : Option ByteArray := if 1 ≤ k ∧ k ≤ 1000000000 then some (Go.Proofs.Ytpaakpbbahbhcaa.MarkStr.mt k.toNat) else none
theorem C (k : Int) (w : World) {r : ByteArray} (H : Hid (P k = some r)) : Calls Try.prog 72 #[.int .i64 k] w (Gives (.string r) w) := by
  have h : P k = some r := H
  unfold P at h
  by_cases hk : 1 ≤ k ∧ k ≤ 1000000000
  · rw [if_pos hk] at h
    obtain rfl := Option.some.inj h
    obtain ⟨n, rfl⟩ := Int.eq_ofNat_of_zero_le (show 0 ≤ k by omega)
    exact Go.Proofs.Ytpaakpbbahbhcaa.MarkStr.markText_any n w (by omega) (by omega)
  · rw [if_neg hk] at h; simp at h
end Go.Proofs.Ytpaakpbbahbhcaa.GlMarkText

/- loop.example/g01062/laws.markIntS as a plain function, and the contract of the program's: where the plain one has an answer, the program has it. Conditions: slices read as lists. -/
namespace Go.Proofs.Ytpaakpbbahbhcaa.GlMarkIntS
set_option linter.unusedVariables false
set_option linter.unusedSimpArgs false
open Go.RowKit
open Go.Proofs.Ytpaakpbbahbhcaa.Rowed Go.Proofs.Ytpaakpbbahbhcaa.Turn Go.Proofs.Ytpaakpbbahbhcaa.Aid Go.Proofs.Ytpaakpbbahbhcaa.GoP Go.Proofs.Ytpaakpbbahbhcaa.GoM

def l0  (k0 : Nat) (s : (List Int) × Int) (nx0 bk0 : (List Int) × Int → Option (Int × (List Int))) : Option (Int × (List Int)) :=
  unp2 s fun a_0l0 k_1l0 =>
  Option.bind (idx a_0l0 (k0 : Int)) fun (yt_9 : Int) =>
  letK (a_0l0.set k0 k_1l0) fun (l10_10 : (List Int)) =>
  letK (IntKind.i64.wrap (k_1l0 + 1)) fun (t_12 : Int) =>
  appK nx0 (l10_10, t_12)

def e0  (s : (List Int) × Int) : Option (Int × (List Int)) :=
  unp2 s fun a_0l0 k_1l0 =>
  some (k_1l0, a_0l0)

def P (a : (List Int)) (k_1 : Int) : Option (Int × (List Int)) :=
  cntK (l0 ) (a.length) 0 (a, k_1) (e0 )

set_option maxRecDepth 100000 in
set_option maxHeartbeats 2000000 in
theorem C (a : (List Int)) (k_1 : Int) (A0 : Option Addr) (c0 : Nat)  (b0 : Nat) (w : World) (M0 : Hid (w.ownsRow b0 3 1 (.slice A0 a.length c0) a.length (Go.Proofs.Ytpaakpbbahbhcaa.HelpInt.iv a))) (N0 : Hid (a.length ≤ 9223372036854775807))  {r : Int} {l_ : (List Int)} (H : Hid (P a k_1 = some (r, l_))) :
    Calls Try.prog 38 #[.slice A0 a.length c0, .int .i64 k_1] w (fun e w' => e = .returned (.int .i64 r) ∧ w'.ownsRow b0 3 1 (.slice A0 a.length c0) a.length (Go.Proofs.Ytpaakpbbahbhcaa.HelpInt.iv l_) ∧ l_.length = a.length ∧ w.grownBy w' (Value.slice A0 a.length c0).ownBlock) := by
  have HB := Lib.hid (Aid.grown_refl w (Value.slice A0 a.length c0).ownBlock)
  unfold P at H
  have N0o := N0.out
  go_enter Try.func38, Try.ntmps38
  go_wp2_with fail
  have hb_0 : a.length ≤ 9223372036854775807 := own_max M0.out
  go_wp2_with fail
  go_loopg [5, 1] (a.length) (fun m_ v5_ v1_ wr => ∃ (k0 : Nat) (a_0l0 : (List Int)) (k_1l0 : Int), k0 + m_ = a.length ∧ v5_ = .int .i64 (k0 : Int) ∧ v1_ = .int .i64 k_1l0 ∧ Hid (cntK (l0 ) m_ k0 (a_0l0, k_1l0) (e0 ) = some (r, l_)) ∧ Hid (w.grownBy wr (Value.slice A0 a.length c0).ownBlock) ∧ Hid (wr.ownsRow b0 3 1 (.slice A0 a.length c0) a.length (Go.Proofs.Ytpaakpbbahbhcaa.HelpInt.iv a_0l0)) ∧ Hid (a_0l0.length = a.length))
  case atStart => exact ⟨0, _, _, by omega, rfl, rfl, H, HB, M0, Lib.hid (rfl)⟩
  case round =>
    obtain ⟨k0, a_0l0, k_1l0, hkm0, rfl, rfl, H, HBwr0, Oa_0l0, hna_0l0⟩ := hrel
    rename World => wr0
    cases gk with
    | zero =>
      obtain rfl : k0 = a.length := by omega
      have hc0 : decide (((a.length : Nat) : Int) < ((a.length : Nat) : Int)) = false := by simp
      replace H := cnt_zero H
      unfold e0 at H
      replace H := unp2_hid H
      cases ret_hid H
      go_wp2_with fail
      go_ret
      exact ⟨rfl, Oa_0l0.out, hna_0l0.out, HBwr0.out⟩
    | succ m0 =>
      have hlt0 : k0 < a.length := by omega
      have hc0 : decide ((k0 : Int) < ((a.length : Nat) : Int)) = true := by simp; omega
      replace H := cnt_succ H
      unfold l0 at H
      replace H := unp2_hid H
      replace H := idx_hid H
      obtain ⟨nt_9, yt_9, et_9, lt_9, gt_9, H⟩ := H
      obtain rfl : k0 = nt_9 := by omega
      clear et_9
      have hqt_9 := hna_0l0.out
      obtain ⟨qt_9, Qt_9⟩ := own_some Oa_0l0.out (by omega)
      subst Qt_9
      obtain ⟨ab_t_9, ao_t_9, zt_9, At_9, z_t_9, ct_9_0⟩ := Go.Proofs.Ytpaakpbbahbhcaa.HelpInt.Ints.at_ (own_cells Oa_0l0.out) (k := k0) (by omega)
      obtain rfl := Option.some.inj (gt_9.out.symm.trans z_t_9)
      simp only [Option.some.injEq, Addr.mk.injEq] at At_9
      obtain ⟨rfl, rfl, _⟩ := At_9
      clear z_t_9
      simp only [Nat.zero_add] at ct_9_0
      have b0t_9 : (0 : Int) ≤ (k0 : Int) := by omega
      have b1t_9 : (k0 : Int) < ((a.length : Nat) : Int) := by omega
      have b2t_9 : ((k0 : Int)).toNat = k0 := by omega
      clear hqt_9
      replace H := let_hid H
      obtain ⟨l10_10, hl10_10, H⟩ := H
      try simp only [Int.toNat_natCast] at hl10_10
      obtain ⟨wl10_10, hwl10_10⟩ : ∃ x, (wr0).setCell ⟨qt_9, k0, none⟩ (.int .i64 k_1l0) = x := ⟨_, rfl⟩
      have z0l10_10 := Oa_0l0.out.frozenAt (k0)
      have Sl10_10 := Lib.hid (own_stores [(k0, .int .i64 k_1l0)] Oa_0l0.out)
      have nl10_10 : Hid (l10_10.length = a.length) := Lib.hid (by rw [← hl10_10, List.length_set]; exact hna_0l0.out)
      have Pl10_10 : Hid (wl10_10.ownsRow b0 3 1 (.slice (some ⟨qt_9, 0, none⟩) a.length c0) a.length (Go.Proofs.Ytpaakpbbahbhcaa.HelpInt.iv l10_10)) := Lib.hid (by have e_ : ([(k0, .int .i64 k_1l0)] : List (Nat × Value)).foldl (fun xs p => xs.set p.1 p.2) (Go.Proofs.Ytpaakpbbahbhcaa.HelpInt.iv a_0l0) = (Go.Proofs.Ytpaakpbbahbhcaa.HelpInt.iv l10_10) := (by rw [← hl10_10]; first | done | simp [Go.Proofs.Ytpaakpbbahbhcaa.HelpInt.iv, List.map_set]); rw [← hwl10_10, ← e_]; exact Sl10_10.out.1)
      have Gl10_10 : Hid (wr0.grownBy wl10_10 (Value.slice (some ⟨qt_9, 0, none⟩) a.length c0).ownBlock) := Lib.hid (by rw [← hwl10_10]; exact Sl10_10.out.2)
      have HBwl10_10 := Lib.hid (Aid.grown_tr HBwr0.out Gl10_10.out)
      have hhl10_10 := Lib.hid hl10_10
      clear hl10_10 Sl10_10
      clear Oa_0l0 Gl10_10
      replace H := let_hid H
      obtain ⟨t_12, ht_12, H⟩ := H
      replace H := app_hid H
      go_wp2_with fail
      clear z0l10_10 ct_9_0
      go_roundg m0
      case measure => omega
      case rel => exact ⟨k0 + 1, _, _, by omega, by go_num, rfl, H, HBwl10_10, Pl10_10, Lib.hid (nl10_10.out)⟩
end Go.Proofs.Ytpaakpbbahbhcaa.GlMarkIntS

