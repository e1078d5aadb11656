/- Texts on which the proofs of several laws stand, one behind the other (3 of 6). No condition of their own. -/
import Derived.Test.YtpaakpbbahbhcaaChecked
import Derived.Test.YtpaakpbbahbhcaaX13BP1
import Derived.Test.YtpaakpbbahbhcaaX13BP2
import Derived.WalkKit
import Derived.WalkSpells
import Derived.WalkLawsBesides
import Derived.BigQuiet
import Derived.OwnWalk
import Derived.Deep.LoopGhost
import Derived.Deep.QuietTactic
import Derived.IntWalk
import Derived.Lib.QuietBelow
/- loop.example/g01062/spec.AddSighting as a plain function, and the contract of the program's: where the plain one has an answer, the program has it. Conditions: slices read as lists. -/
namespace Go.Proofs.Ytpaakpbbahbhcaa.GsAddSighting
set_option linter.unusedVariables false
set_option linter.unusedSimpArgs false
open Go.RowKit
open Go.Proofs.Ytpaakpbbahbhcaa.Rowed Go.Proofs.Ytpaakpbbahbhcaa.Turn Go.Proofs.Ytpaakpbbahbhcaa.Aid Go.Proofs.Ytpaakpbbahbhcaa.GoP Go.Proofs.Ytpaakpbbahbhcaa.GoM

def l0 (list : (List Go.Proofs.Ytpaakpbbahbhcaa.PSighting.Sighting)) (k0 : Nat) (s : (List Go.Proofs.Ytpaakpbbahbhcaa.PSighting.Sighting)) (nx0 bk0 : (List Go.Proofs.Ytpaakpbbahbhcaa.PSighting.Sighting) → Option ((List Go.Proofs.Ytpaakpbbahbhcaa.PSighting.Sighting) × Int × Bool)) : Option ((List Go.Proofs.Ytpaakpbbahbhcaa.PSighting.Sighting) × Int × Bool) :=
  letK s fun out_13l0 =>
  Option.bind (idx list (k0 : Int)) fun (yt_26 : Go.Proofs.Ytpaakpbbahbhcaa.PSighting.Sighting) =>
  unSighting yt_26 fun (t_26_id : Int) (t_26_year : Int) (t_26_town : ByteArray) (t_26_traits : (List Int)) =>
  Option.bind (Go.Proofs.Ytpaakpbbahbhcaa.GsL1Own.P t_26_traits) fun (t_32 : (List Int)) =>
  guardK (out_13l0.length ≤ 1099511627776) <|
  letK (out_13l0 ++ [(Go.Proofs.Ytpaakpbbahbhcaa.PSighting.Sighting.mk t_26_id t_26_year t_26_town t_32)]) fun (t_38 : (List Go.Proofs.Ytpaakpbbahbhcaa.PSighting.Sighting)) =>
  appK nx0 (t_38)

def e0 (list : (List Go.Proofs.Ytpaakpbbahbhcaa.PSighting.Sighting)) (year : Int) (town : ByteArray) (traits : (List Int)) (id_11j0 : Int) (s : (List Go.Proofs.Ytpaakpbbahbhcaa.PSighting.Sighting)) : Option ((List Go.Proofs.Ytpaakpbbahbhcaa.PSighting.Sighting) × Int × Bool) :=
  letK s fun out_13l0 =>
  Option.bind (Go.Proofs.Ytpaakpbbahbhcaa.GsL1Own.P traits) fun (t_48 : (List Int)) =>
  guardK (out_13l0.length ≤ 1099511627776) <|
  letK (out_13l0 ++ [(Go.Proofs.Ytpaakpbbahbhcaa.PSighting.Sighting.mk id_11j0 year town t_48)]) fun (t_51 : (List Go.Proofs.Ytpaakpbbahbhcaa.PSighting.Sighting)) =>
  Option.bind (Go.Proofs.Ytpaakpbbahbhcaa.GsL13Good.P list) fun (t_54 : Bool) =>
  letK (!t_54) fun (t_55 : Bool) =>
  joinK (fun (t_60 : Bool) =>
  iteK t_60
  (some (([] : List Go.Proofs.Ytpaakpbbahbhcaa.PSighting.Sighting), 0, false))
  (some (t_51, id_11j0, true))) fun jt_60 => iteK t_55 (appK jt_60 true) (Option.bind (Go.Proofs.Ytpaakpbbahbhcaa.GsL13Good.P t_51) fun (t_58 : Bool) =>
  letK (!t_58) fun (t_59 : Bool) =>
  appK jt_60 t_59)

def j0 (list : (List Go.Proofs.Ytpaakpbbahbhcaa.PSighting.Sighting)) (year : Int) (town : ByteArray) (traits : (List Int)) (s : Int) : Option ((List Go.Proofs.Ytpaakpbbahbhcaa.PSighting.Sighting) × Int × Bool) :=
  cntK (l0 list) (list.length) 0 (([] : List Go.Proofs.Ytpaakpbbahbhcaa.PSighting.Sighting)) (e0 list year town traits s)

def P (list : (List Go.Proofs.Ytpaakpbbahbhcaa.PSighting.Sighting)) (year : Int) (town : ByteArray) (traits : (List Int)) : Option ((List Go.Proofs.Ytpaakpbbahbhcaa.PSighting.Sighting) × Int × Bool) :=
  letK (decide (0 < (list.length : Int))) fun (t_8 : Bool) =>
  iteK t_8
  (letK (IntKind.i64.wrap ((list.length : Int) - 1)) fun (t_11 : Int) =>
  Option.bind (idx list t_11) fun (yt_12 : Go.Proofs.Ytpaakpbbahbhcaa.PSighting.Sighting) =>
  unSighting yt_12 fun (t_12_id : Int) (t_12_year : Int) (t_12_town : ByteArray) (t_12_traits : (List Int)) =>
  letK (IntKind.i64.wrap (t_12_id + 1)) fun (t_15 : Int) =>
  j0 list year town traits (t_15))
  (j0 list year town traits (1))

set_option maxRecDepth 100000 in
set_option maxHeartbeats 2000000 in
theorem C (list : (List Go.Proofs.Ytpaakpbbahbhcaa.PSighting.Sighting)) (year : Int) (town : ByteArray) (traits : (List Int)) (A0 : Option Addr) (c0 : Nat) (A3 : Option Addr) (c3 : Nat)  (w : World) (M0 : Hid (Go.Proofs.Ytpaakpbbahbhcaa.GoV.ReadNest w Go.Proofs.Ytpaakpbbahbhcaa.GoVSighting.lay A0 list)) (N0 : Hid (list.length ≤ 9223372036854775807)) (Q0 : Hid (Room A0 list.length c0)) (M3 : Hid (Cells w 1 A3 traits.length (Go.Proofs.Ytpaakpbbahbhcaa.HelpInt.iv traits))) (N3 : Hid (traits.length ≤ 9223372036854775807)) (Q3 : Hid (Room A3 traits.length c3))  {r0 : (List Go.Proofs.Ytpaakpbbahbhcaa.PSighting.Sighting)} {r1 : Int} {r2 : Bool} (H : Hid (P list year town traits = some (r0, r1, r2))) :
    Calls Try.prog 48 #[.slice A0 list.length c0, .int .i64 year, .string town, .slice A3 traits.length c3] w (fun e w' => ∃ A_r0 c_r0, e = .returned (.tuple #[.slice A_r0 r0.length c_r0, .int .i64 r1, .bool r2]) ∧ (∃ B_, Go.Proofs.Ytpaakpbbahbhcaa.GoV.OwnNest w' (w.heap.size) 67 3 Go.Proofs.Ytpaakpbbahbhcaa.GoVSighting.lay A_r0 c_r0 r0 B_) ∧ Below w.heap.size w w') := by
  have HB := Lib.hid (Below.refl w.heap.size w)
  unfold P at H
  have N0o := N0.out
  have N3o := N3.out
  obtain ⟨i0_67, hi_67, hz0_67, hz1_67, hz2_67⟩ := Aid.info_parts (P := Try.prog) (T := 67) (z := .agg #[.int .i64 0, .int .i64 0, .string ByteArray.empty, .slice none 0 0]) (s := 4) (b := 56) (by kernel_rfl)
  go_enter Try.func48, Try.ntmps48
  replace H := let_hid H
  obtain ⟨t_8, ht_8, H⟩ := H
  cases t_8 with
  | false =>
    have nht_8 : ¬ (0 < list.length) := by have := of_decide_eq_false ht_8; omega
    replace H := ite_f H
    unfold j0 at H
    obtain ⟨w_t_17, hw_t_17⟩ : ∃ x, w.alloc (.cells #[] 67) = x := ⟨_, rfl⟩
    have bw_t_17 : Below w.heap.size w w_t_17 := by rw [← hw_t_17]; exact (Below.refl _ _).alloc (Nat.le_refl _) _
    have Ot_17 : Hid (Go.Proofs.Ytpaakpbbahbhcaa.GoV.OwnNest w_t_17 (w.heap.size) 67 3 Go.Proofs.Ytpaakpbbahbhcaa.GoVSighting.lay (some ⟨w.heap.size, 0, none⟩) 0 ([] : List Go.Proofs.Ytpaakpbbahbhcaa.PSighting.Sighting) [some ⟨w.heap.size, 0, none⟩]) := Lib.hid (by rw [← hw_t_17]; exact Go.Proofs.Ytpaakpbbahbhcaa.GoV.nest_empty HB.out.size)
    have HBw_t_17 := Lib.hid (Below.step HB.out bw_t_17)
    clear bw_t_17
    go_wp2_with fail
    go_loopg [14, 13] (list.length) (fun m_ v14_ v13_ wr => ∃ (k0 : Nat) (out_13l0 : (List Go.Proofs.Ytpaakpbbahbhcaa.PSighting.Sighting)) (Aout_13l0 : Option Addr) (cout_13l0 : Nat) (Bout_13l0 : List (Option Addr)), k0 + m_ = list.length ∧ v14_ = .int .i64 (k0 : Int) ∧ v13_ = .slice Aout_13l0 out_13l0.length cout_13l0 ∧ Hid (cntK (l0 list) m_ k0 (out_13l0) (e0 list year town traits 1) = some (r0, r1, r2)) ∧ Hid (Below w.heap.size w wr) ∧ Hid (Go.Proofs.Ytpaakpbbahbhcaa.GoV.OwnNest wr (w.heap.size) 67 3 Go.Proofs.Ytpaakpbbahbhcaa.GoVSighting.lay Aout_13l0 cout_13l0 out_13l0 Bout_13l0))
    case atStart => exact ⟨0, _, _, _, _, by omega, rfl, rfl, H, HBw_t_17, Ot_17⟩
    case round =>
      obtain ⟨k0, out_13l0, Aout_13l0, cout_13l0, Bout_13l0, hkm0, rfl, rfl, H, HBwr0, Oout_13l0⟩ := hrel
      rename World => wr0
      cases gk with
      | zero =>
        obtain rfl : k0 = list.length := by omega
        have hc0 : decide (((list.length : Nat) : Int) < ((list.length : Nat) : Int)) = false := by simp
        replace H := cnt_zero H
        unfold e0 at H
        replace H := let_hid H
        obtain ⟨_, rfl, H⟩ := H
        replace H := bind_hid H
        obtain ⟨t_48, qt_48, H⟩ := H
        go_wp2_with fail
        go_at_call 79
        refine (Go.Proofs.Ytpaakpbbahbhcaa.GsL1Own.C (traits) A3 c3 _   (Lib.hid (Cells.below M3.out HBwr0.out)) N3 Q3 qt_48).mono ?_
        rintro e_t_48 wt_48 ⟨At_48, ct_48, rfl, ot_48, bt_48⟩
        have Dt_48_out_13l0 := Lib.hid (Go.Proofs.Ytpaakpbbahbhcaa.GoV.nest_call ot_48 Oout_13l0.out)
        have Ot_48 := Lib.hid (own_lower ot_48 HBwr0.out.size)
        clear ot_48
        have HBwt_48 := Lib.hid (Below.step HBwr0.out bt_48)
        replace Oout_13l0 := Lib.hid (Go.Proofs.Ytpaakpbbahbhcaa.GoV.nest_below Oout_13l0.out bt_48)
        clear bt_48
        obtain ⟨w_t_50, hw_t_50⟩ : ∃ x, wt_48.alloc (.cells #[.int .i64 1, .int .i64 year, .string town, .slice At_48 t_48.length ct_48] 67) = x := ⟨_, rfl⟩
        have bw_t_50 : Below wt_48.heap.size wt_48 w_t_50 := by rw [← hw_t_50]; exact (Below.refl _ _).alloc (Nat.le_refl _) _
        have HBw_t_50 := Lib.hid (Below.step HBwt_48.out bw_t_50)
        replace Oout_13l0 := Lib.hid (Go.Proofs.Ytpaakpbbahbhcaa.GoV.nest_below Oout_13l0.out bw_t_50)
        replace Ot_48 := Lib.hid (own_below Ot_48.out bw_t_50)
        clear bw_t_50
        replace H := guard_hid H
        obtain ⟨hlt_51, H⟩ := H
        replace H := let_hid H
        obtain ⟨t_51, ht_51, H⟩ := H
        have hht_51 := Lib.hid ht_51
        clear ht_51
        have hst_51 := HBw_t_50.out.size
        obtain ⟨zt_51, Rt_51⟩ := Oout_13l0.out
        have Rt_51i := Lib.hid Rt_51
        clear Rt_51
        go_wp2_with (at_builtin; refine wpList_append_own_at _ rfl _ _ 24 rfl w.heap.size 67 i0_67 (.agg #[.int .i64 0, .int .i64 0, .string ByteArray.empty, .slice none 0 0]) 4 56 Try.underlying24 hi_67 hz0_67 hz1_67 hz2_67 rfl (by decide) _ _ _ rfl Rt_51i.out.row ⟨wt_48.heap.size, 0, none⟩ 1 1 [.int .i64 1, .int .i64 year, .string town, .slice At_48 t_48.length ct_48] rfl rfl (news_new hw_t_50) (one_cells rfl) (by unfold maxLen; omega) (by omega) hst_51 ?_; intro vt_51 wt_51 ot_51 gt_51 ut_51 yt_51; clear ut_51; obtain ⟨qt_51, ct_51, Bt_51, rfl, pt_51, dt_51, rt_51⟩ := Go.Proofs.Ytpaakpbbahbhcaa.GoV.nest_app (x := (Go.Proofs.Ytpaakpbbahbhcaa.PSighting.Sighting.mk 1 year town t_48)) Rt_51i.out hht_51.out rfl Ot_48.out Dt_48_out_13l0.out gt_51 ot_51 yt_51; have Pt_51 := Lib.hid pt_51; have Ut_51 := Lib.hid dt_51; have Rt_51 := Lib.hid rt_51; have Gt_51 := Lib.hid gt_51; clear ot_51 gt_51 pt_51 yt_51 dt_51 rt_51; refine stop_in ?_)
        refine stop_out ?_
        have HBwt_51 := Lib.hid (HBw_t_50.out.grown Gt_51.out hst_51 (fun q hq => (Rt_51i.out.row.lt q hq).1))
        clear hst_51
        replace Ot_48 := Lib.hid (own_other Ot_48.out Gt_51.out (Apart.symm (Dt_48_out_13l0.out _ (Go.Proofs.Ytpaakpbbahbhcaa.GoV.nest_head Oout_13l0.out))))
        clear Oout_13l0 Gt_51 Rt_51i
        clear Ot_48
        have mmt_51 := Lib.hid Ut_51.out.2.1
        clear Ut_51
        replace H := bind_hid H
        obtain ⟨t_54, qt_54, H⟩ := H
        go_wp2_with fail
        go_at_call 56
        refine (Go.Proofs.Ytpaakpbbahbhcaa.GsL13Good.C (list) A0 c0 _   (Lib.hid (Go.Proofs.Ytpaakpbbahbhcaa.GoV.read_below M0.out HBwt_51.out)) N0 qt_54).mono ?_
        rintro e_t_54 wt_54 ⟨rfl, bt_54⟩
        have HBwt_54 := Lib.hid (Below.step HBwt_51.out bt_54)
        replace Rt_51 := Lib.hid (own_below Rt_51.out bt_54)
        replace Pt_51 := Lib.hid (Go.Proofs.Ytpaakpbbahbhcaa.GoV.nest_below Pt_51.out bt_54)
        clear bt_54
        cases t_54 with
        | false =>
          replace H := let_hid H
          obtain ⟨t_55, ht_55, H⟩ := H
          obtain rfl : t_55 = true := ht_55.symm
          replace H := join_hid H
          replace H := ite_t H
          replace H := app_hid H
          replace H := ite_t H
          obtain ⟨w_t_61, hw_t_61⟩ : ∃ x, wt_54.alloc (.cells #[] 67) = x := ⟨_, rfl⟩
          have bw_t_61 : Below wt_54.heap.size wt_54 w_t_61 := by rw [← hw_t_61]; exact (Below.refl _ _).alloc (Nat.le_refl _) _
          have Ot_61 : Hid (Go.Proofs.Ytpaakpbbahbhcaa.GoV.OwnNest w_t_61 (w.heap.size) 67 3 Go.Proofs.Ytpaakpbbahbhcaa.GoVSighting.lay (some ⟨wt_54.heap.size, 0, none⟩) 0 ([] : List Go.Proofs.Ytpaakpbbahbhcaa.PSighting.Sighting) [some ⟨wt_54.heap.size, 0, none⟩]) := Lib.hid (by rw [← hw_t_61]; exact Go.Proofs.Ytpaakpbbahbhcaa.GoV.nest_empty HBwt_54.out.size)
          have Dt_61_t_48 := Lib.hid (Go.Proofs.Ytpaakpbbahbhcaa.GoN.nest_one (apart_fresh Rt_51.out))
          have Dt_61_t_51 := Lib.hid (fun x_ hx_ => Go.Proofs.Ytpaakpbbahbhcaa.GoN.nest_one (Go.Proofs.Ytpaakpbbahbhcaa.GoV.nest_fresh Pt_51.out x_ hx_))
          have HBw_t_61 := Lib.hid (Below.step HBwt_54.out bw_t_61)
          replace Rt_51 := Lib.hid (own_below Rt_51.out bw_t_61)
          replace Pt_51 := Lib.hid (Go.Proofs.Ytpaakpbbahbhcaa.GoV.nest_below Pt_51.out bw_t_61)
          clear bw_t_61
          cases ret_hid H
          go_wp2_with fail
          go_ret3
          exact ⟨(some ⟨wt_54.heap.size, 0, none⟩), 0, rfl, ⟨_, Ot_61.out⟩, HBw_t_61.out⟩
        | true =>
          replace H := let_hid H
          obtain ⟨t_55, ht_55, H⟩ := H
          obtain rfl : t_55 = false := ht_55.symm
          replace H := join_hid H
          replace H := ite_f H
          replace H := bind_hid H
          obtain ⟨t_58, qt_58, H⟩ := H
          go_wp2_with fail
          go_at_call 56
          refine (Go.Proofs.Ytpaakpbbahbhcaa.GsL13Good.C (t_51) (some ⟨qt_51, 0, none⟩) ct_51 _   (Lib.hid (Go.Proofs.Ytpaakpbbahbhcaa.GoV.nest_read Pt_51.out)) (Lib.hid (Go.Proofs.Ytpaakpbbahbhcaa.GoV.nest_max Pt_51.out)) qt_58).mono ?_
          rintro e_t_58 wt_58 ⟨rfl, bt_58⟩
          have HBwt_58 := Lib.hid (Below.step HBwt_54.out bt_58)
          replace Rt_51 := Lib.hid (own_below Rt_51.out bt_58)
          replace Pt_51 := Lib.hid (Go.Proofs.Ytpaakpbbahbhcaa.GoV.nest_below Pt_51.out bt_58)
          clear bt_58
          cases t_58 with
          | false =>
            replace H := let_hid H
            obtain ⟨t_59, ht_59, H⟩ := H
            obtain rfl : t_59 = true := ht_59.symm
            replace H := app_hid H
            replace H := ite_t H
            obtain ⟨w_t_61, hw_t_61⟩ : ∃ x, wt_58.alloc (.cells #[] 67) = x := ⟨_, rfl⟩
            have bw_t_61 : Below wt_58.heap.size wt_58 w_t_61 := by rw [← hw_t_61]; exact (Below.refl _ _).alloc (Nat.le_refl _) _
            have Ot_61 : Hid (Go.Proofs.Ytpaakpbbahbhcaa.GoV.OwnNest w_t_61 (w.heap.size) 67 3 Go.Proofs.Ytpaakpbbahbhcaa.GoVSighting.lay (some ⟨wt_58.heap.size, 0, none⟩) 0 ([] : List Go.Proofs.Ytpaakpbbahbhcaa.PSighting.Sighting) [some ⟨wt_58.heap.size, 0, none⟩]) := Lib.hid (by rw [← hw_t_61]; exact Go.Proofs.Ytpaakpbbahbhcaa.GoV.nest_empty HBwt_58.out.size)
            have Dt_61_t_48 := Lib.hid (Go.Proofs.Ytpaakpbbahbhcaa.GoN.nest_one (apart_fresh Rt_51.out))
            have Dt_61_t_51 := Lib.hid (fun x_ hx_ => Go.Proofs.Ytpaakpbbahbhcaa.GoN.nest_one (Go.Proofs.Ytpaakpbbahbhcaa.GoV.nest_fresh Pt_51.out x_ hx_))
            have HBw_t_61 := Lib.hid (Below.step HBwt_58.out bw_t_61)
            replace Rt_51 := Lib.hid (own_below Rt_51.out bw_t_61)
            replace Pt_51 := Lib.hid (Go.Proofs.Ytpaakpbbahbhcaa.GoV.nest_below Pt_51.out bw_t_61)
            clear bw_t_61
            cases ret_hid H
            go_wp2_with fail
            go_ret3
            exact ⟨(some ⟨wt_58.heap.size, 0, none⟩), 0, rfl, ⟨_, Ot_61.out⟩, HBw_t_61.out⟩
          | true =>
            replace H := let_hid H
            obtain ⟨t_59, ht_59, H⟩ := H
            obtain rfl : t_59 = false := ht_59.symm
            replace H := app_hid H
            replace H := ite_f H
            cases ret_hid H
            go_wp2_with fail
            go_ret3
            exact ⟨(some ⟨qt_51, 0, none⟩), ct_51, rfl, ⟨_, Pt_51.out⟩, HBwt_58.out⟩
      | succ m0 =>
        have hlt0 : k0 < list.length := by omega
        have hc0 : decide ((k0 : Int) < ((list.length : Nat) : Int)) = true := by simp; omega
        clear nht_8 ht_8
        replace H := cnt_succ H
        unfold l0 at H
        replace H := let_hid H
        obtain ⟨_, rfl, H⟩ := H
        replace H := idx_hid H
        obtain ⟨nt_26, yt_26, et_26, lt_26, gt_26, H⟩ := H
        obtain rfl : k0 = nt_26 := by omega
        clear et_26
        obtain ⟨t_26_id, t_26_year, t_26_town, t_26_traits⟩ := yt_26
        replace H := unSighting_hid H
        obtain ⟨bbt_26, oot_26, zt_26, Art_26, crt_26, eAt_26, zzt_26, hKt_26, hrt_26, hqt_26, hnt_26⟩ := Go.Proofs.Ytpaakpbbahbhcaa.GoV.nest_at M0.out (k := k0) lt_26
        obtain rfl := Option.some.inj (gt_26.out.symm.trans zzt_26)
        clear zzt_26
        subst eAt_26
        have hct_26_0 : w.cell? ⟨bbt_26, oot_26 + k0 * 4, none⟩ = some (.int .i64 t_26_id) := hKt_26 0 _ rfl
        have hct_26_1 : w.cell? ⟨bbt_26, oot_26 + k0 * 4 + 1, none⟩ = some (.int .i64 t_26_year) := hKt_26 1 _ rfl
        have hct_26_2 : w.cell? ⟨bbt_26, oot_26 + k0 * 4 + 2, none⟩ = some (.string t_26_town) := hKt_26 2 _ rfl
        have hct_26_3 : w.cell? ⟨bbt_26, oot_26 + k0 * 4 + 3, none⟩ = some (.slice Art_26 t_26_traits.length crt_26) := hKt_26 3 _ rfl
        clear hKt_26
        have ltt_26 := cell_lt hct_26_0
        replace hct_26_0 := cell_below HBwr0.out hct_26_0
        replace hct_26_1 := cell_below HBwr0.out hct_26_1
        replace hct_26_2 := cell_below HBwr0.out hct_26_2
        replace hct_26_3 := cell_below HBwr0.out hct_26_3
        have Mrt_26 := Lib.hid hrt_26
        have Qrt_26 := Lib.hid hqt_26
        have Nrt_26 := Lib.hid hnt_26
        clear hrt_26 hqt_26 hnt_26
        have b0t_26 : (0 : Int) ≤ (k0 : Int) := by omega
        have b1t_26 : (k0 : Int) < ((list.length : Nat) : Int) := by omega
        have b2t_26 : ((k0 : Int)).toNat = k0 := by omega
        obtain ⟨w_s_28, hw_s_28⟩ : ∃ x, wr0.alloc (.cells #[.int .i64 t_26_id, .int .i64 t_26_year, .string t_26_town, .slice Art_26 t_26_traits.length crt_26] 67) = x := ⟨_, rfl⟩
        have bw_s_28 : Below wr0.heap.size wr0 w_s_28 := by rw [← hw_s_28]; exact (Below.refl _ _).alloc (Nat.le_refl _) _
        have Ds_28_out_13l0 := Lib.hid (Go.Proofs.Ytpaakpbbahbhcaa.GoV.nest_fresh Oout_13l0.out)
        have HBw_s_28 := Lib.hid (Below.step HBwr0.out bw_s_28)
        have hct_26_0__78 := cell_below bw_s_28 hct_26_0
        have hct_26_1__79 := cell_below bw_s_28 hct_26_1
        have hct_26_2__80 := cell_below bw_s_28 hct_26_2
        have hct_26_3__81 := cell_below bw_s_28 hct_26_3
        replace Oout_13l0 := Lib.hid (Go.Proofs.Ytpaakpbbahbhcaa.GoV.nest_below Oout_13l0.out bw_s_28)
        clear bw_s_28
        have ks_28_0 : w_s_28.cell? ⟨wr0.heap.size, 0, none⟩ = some (.int .i64 t_26_id) := by rw [← hw_s_28]; exact box_new _ _ _ 0 _ rfl
        have ks_28_1 : w_s_28.cell? ⟨wr0.heap.size, 1, none⟩ = some (.int .i64 t_26_year) := by rw [← hw_s_28]; exact box_new _ _ _ 1 _ rfl
        have ks_28_2 : w_s_28.cell? ⟨wr0.heap.size, 2, none⟩ = some (.string t_26_town) := by rw [← hw_s_28]; exact box_new _ _ _ 2 _ rfl
        have ks_28_3 : w_s_28.cell? ⟨wr0.heap.size, 3, none⟩ = some (.slice Art_26 t_26_traits.length crt_26) := by rw [← hw_s_28]; exact box_new _ _ _ 3 _ rfl
        have Os_28 : Hid (w_s_28.ownsRow w.heap.size 67 4 (.slice (some ⟨wr0.heap.size, 0, none⟩) 1 1) 1 [.int .i64 t_26_id, .int .i64 t_26_year, .string t_26_town, .slice Art_26 t_26_traits.length crt_26]) := Lib.hid (by rw [← hw_s_28]; exact own_laid (n := 1) HBwr0.out.size rfl rfl (by unfold maxLen; omega))
        replace H := bind_hid H
        obtain ⟨t_32, qt_32, H⟩ := H
        go_wp2_with fail
        clear hct_26_0 hct_26_1 hct_26_2 hct_26_3
        go_at_call 79
        refine (Go.Proofs.Ytpaakpbbahbhcaa.GsL1Own.C (t_26_traits) Art_26 crt_26 _   (Lib.hid (Cells.below Mrt_26.out HBw_s_28.out)) Nrt_26 Qrt_26 qt_32).mono ?_
        rintro e_t_32 wt_32 ⟨At_32, ct_32, rfl, ot_32, bt_32⟩
        have Dt_32_out_13l0 := Lib.hid (Go.Proofs.Ytpaakpbbahbhcaa.GoV.nest_call ot_32 Oout_13l0.out)
        have Dt_32_s_28 := Lib.hid (apart_callbox ot_32 ks_28_0)
        have Ot_32 := Lib.hid (own_lower ot_32 HBw_s_28.out.size)
        clear ot_32
        have HBwt_32 := Lib.hid (Below.step HBw_s_28.out bt_32)
        replace hct_26_0__78 := cell_below bt_32 hct_26_0__78
        replace hct_26_1__79 := cell_below bt_32 hct_26_1__79
        replace hct_26_2__80 := cell_below bt_32 hct_26_2__80
        replace hct_26_3__81 := cell_below bt_32 hct_26_3__81
        replace ks_28_0 := cell_below bt_32 ks_28_0
        replace ks_28_1 := cell_below bt_32 ks_28_1
        replace ks_28_2 := cell_below bt_32 ks_28_2
        replace ks_28_3 := cell_below bt_32 ks_28_3
        replace Oout_13l0 := Lib.hid (Go.Proofs.Ytpaakpbbahbhcaa.GoV.nest_below Oout_13l0.out bt_32)
        replace Os_28 := Lib.hid (own_below Os_28.out bt_32)
        clear bt_32
        obtain ⟨wb34_34, hwb34_34⟩ : ∃ x, (wt_32).setCell ⟨wr0.heap.size, 3, none⟩ (.slice At_32 t_32.length ct_32) = x := ⟨_, rfl⟩
        have z0b34_34 := Os_28.out.frozenAt 3
        have Sb34_34 := Lib.hid (own_stores [(3, .slice At_32 t_32.length ct_32)] Os_28.out)
        have Pb34_34 : Hid (wb34_34.ownsRow w.heap.size 67 4 (.slice (some ⟨wr0.heap.size, 0, none⟩) 1 1) 1 [.int .i64 t_26_id, .int .i64 t_26_year, .string t_26_town, .slice At_32 t_32.length ct_32]) := Lib.hid (by rw [← hwb34_34]; exact Sb34_34.out.1)
        have Gb34_34 : Hid (wt_32.grownBy wb34_34 (Value.slice (some ⟨wr0.heap.size, 0, none⟩) 1 1).ownBlock) := Lib.hid (by rw [← hwb34_34]; exact Sb34_34.out.2)
        have HBwb34_34 := Lib.hid (HBwt_32.out.grown Gb34_34.out HBwt_32.out.size (fun q hq => (Os_28.out.lt q hq).1))
        clear Sb34_34
        have hct_26_0__82 := cell_other hct_26_0__78 Gb34_34.out (apart_old Os_28.out ltt_26)
        have hct_26_1__83 := cell_other hct_26_1__79 Gb34_34.out (apart_old Os_28.out ltt_26)
        have hct_26_2__84 := cell_other hct_26_2__80 Gb34_34.out (apart_old Os_28.out ltt_26)
        have hct_26_3__85 := cell_other hct_26_3__81 Gb34_34.out (apart_old Os_28.out ltt_26)
        replace Oout_13l0 := Lib.hid (Go.Proofs.Ytpaakpbbahbhcaa.GoV.nest_other Oout_13l0.out Gb34_34.out Ds_28_out_13l0.out)
        replace Ot_32 := Lib.hid (own_other Ot_32.out Gb34_34.out (Apart.symm Dt_32_s_28.out))
        clear Os_28 Gb34_34
        have ks_28_0__86 : wb34_34.cell? ⟨wr0.heap.size, 0, none⟩ = some (.int .i64 t_26_id) := Pb34_34.out.cells rfl 0 _ rfl
        have ks_28_1__87 : wb34_34.cell? ⟨wr0.heap.size, 1, none⟩ = some (.int .i64 t_26_year) := Pb34_34.out.cells rfl 1 _ rfl
        have ks_28_2__88 : wb34_34.cell? ⟨wr0.heap.size, 2, none⟩ = some (.string t_26_town) := Pb34_34.out.cells rfl 2 _ rfl
        have ks_28_3__89 : wb34_34.cell? ⟨wr0.heap.size, 3, none⟩ = some (.slice At_32 t_32.length ct_32) := Pb34_34.out.cells rfl 3 _ rfl
        obtain ⟨w_t_37, hw_t_37⟩ : ∃ x, wb34_34.alloc (.cells #[.int .i64 t_26_id, .int .i64 t_26_year, .string t_26_town, .slice At_32 t_32.length ct_32] 67) = x := ⟨_, rfl⟩
        have bw_t_37 : Below wb34_34.heap.size wb34_34 w_t_37 := by rw [← hw_t_37]; exact (Below.refl _ _).alloc (Nat.le_refl _) _
        have HBw_t_37 := Lib.hid (Below.step HBwb34_34.out bw_t_37)
        have hct_26_0__90 := cell_below bw_t_37 hct_26_0__82
        have hct_26_1__91 := cell_below bw_t_37 hct_26_1__83
        have hct_26_2__92 := cell_below bw_t_37 hct_26_2__84
        have hct_26_3__93 := cell_below bw_t_37 hct_26_3__85
        have ks_28_0__94 := cell_below bw_t_37 ks_28_0__86
        have ks_28_1__95 := cell_below bw_t_37 ks_28_1__87
        have ks_28_2__96 := cell_below bw_t_37 ks_28_2__88
        have ks_28_3__97 := cell_below bw_t_37 ks_28_3__89
        replace Oout_13l0 := Lib.hid (Go.Proofs.Ytpaakpbbahbhcaa.GoV.nest_below Oout_13l0.out bw_t_37)
        replace Ot_32 := Lib.hid (own_below Ot_32.out bw_t_37)
        replace Pb34_34 := Lib.hid (own_below Pb34_34.out bw_t_37)
        clear bw_t_37
        replace H := guard_hid H
        obtain ⟨hlt_38, H⟩ := H
        replace H := let_hid H
        obtain ⟨t_38, ht_38, H⟩ := H
        have hht_38 := Lib.hid ht_38
        clear ht_38
        have hst_38 := HBw_t_37.out.size
        obtain ⟨zt_38, Rt_38⟩ := Oout_13l0.out
        have Rt_38i := Lib.hid Rt_38
        clear Rt_38
        go_wp2_with (at_builtin; refine wpList_append_own_at _ rfl _ _ 24 rfl w.heap.size 67 i0_67 (.agg #[.int .i64 0, .int .i64 0, .string ByteArray.empty, .slice none 0 0]) 4 56 Try.underlying24 hi_67 hz0_67 hz1_67 hz2_67 rfl (by decide) _ _ _ rfl Rt_38i.out.row ⟨wb34_34.heap.size, 0, none⟩ 1 1 [.int .i64 t_26_id, .int .i64 t_26_year, .string t_26_town, .slice At_32 t_32.length ct_32] rfl rfl (news_new hw_t_37) (one_cells rfl) (by unfold maxLen; omega) (by omega) hst_38 ?_; intro vt_38 wt_38 ot_38 gt_38 ut_38 yt_38; clear ut_38; obtain ⟨qt_38, ct_38, Bt_38, rfl, pt_38, dt_38, rt_38⟩ := Go.Proofs.Ytpaakpbbahbhcaa.GoV.nest_app (x := (Go.Proofs.Ytpaakpbbahbhcaa.PSighting.Sighting.mk t_26_id t_26_year t_26_town t_32)) Rt_38i.out hht_38.out rfl Ot_32.out Dt_32_out_13l0.out gt_38 ot_38 yt_38; have Pt_38 := Lib.hid pt_38; have Ut_38 := Lib.hid dt_38; have Rt_38 := Lib.hid rt_38; have Gt_38 := Lib.hid gt_38; clear ot_38 gt_38 pt_38 yt_38 dt_38 rt_38; refine stop_in ?_)
        refine stop_out ?_
        have HBwt_38 := Lib.hid (HBw_t_37.out.grown Gt_38.out hst_38 (fun q hq => (Rt_38i.out.row.lt q hq).1))
        clear hst_38
        have Dt_38_s_28 : Hid (∀ y_ ∈ Bt_38, Apart (some ⟨wr0.heap.size, 0, none⟩) y_) := Lib.hid (Go.Proofs.Ytpaakpbbahbhcaa.GoN.apart_push Ds_28_out_13l0.out (Apart.symm Dt_32_s_28.out) (fun a_ ha_ => by cases ha_; exact cell_lt ks_28_0__94) Ut_38.out)
        replace hct_26_0__90 := cell_other hct_26_0__90 Gt_38.out (Go.Proofs.Ytpaakpbbahbhcaa.GoV.nest_old Oout_13l0.out ltt_26)
        replace hct_26_1__91 := cell_other hct_26_1__91 Gt_38.out (Go.Proofs.Ytpaakpbbahbhcaa.GoV.nest_old Oout_13l0.out ltt_26)
        replace hct_26_2__92 := cell_other hct_26_2__92 Gt_38.out (Go.Proofs.Ytpaakpbbahbhcaa.GoV.nest_old Oout_13l0.out ltt_26)
        replace hct_26_3__93 := cell_other hct_26_3__93 Gt_38.out (Go.Proofs.Ytpaakpbbahbhcaa.GoV.nest_old Oout_13l0.out ltt_26)
        replace ks_28_0__94 := cell_other ks_28_0__94 Gt_38.out (Apart.symm (Ds_28_out_13l0.out _ (Go.Proofs.Ytpaakpbbahbhcaa.GoV.nest_head Oout_13l0.out)))
        replace ks_28_1__95 := cell_other ks_28_1__95 Gt_38.out (Apart.symm (Ds_28_out_13l0.out _ (Go.Proofs.Ytpaakpbbahbhcaa.GoV.nest_head Oout_13l0.out)))
        replace ks_28_2__96 := cell_other ks_28_2__96 Gt_38.out (Apart.symm (Ds_28_out_13l0.out _ (Go.Proofs.Ytpaakpbbahbhcaa.GoV.nest_head Oout_13l0.out)))
        replace ks_28_3__97 := cell_other ks_28_3__97 Gt_38.out (Apart.symm (Ds_28_out_13l0.out _ (Go.Proofs.Ytpaakpbbahbhcaa.GoV.nest_head Oout_13l0.out)))
        replace Pb34_34 := Lib.hid (own_other Pb34_34.out Gt_38.out (Apart.symm (Ds_28_out_13l0.out _ (Go.Proofs.Ytpaakpbbahbhcaa.GoV.nest_head Oout_13l0.out))))
        replace Ot_32 := Lib.hid (own_other Ot_32.out Gt_38.out (Apart.symm (Dt_32_out_13l0.out _ (Go.Proofs.Ytpaakpbbahbhcaa.GoV.nest_head Oout_13l0.out))))
        clear z0b34_34 hct_26_0__78 hct_26_1__79 hct_26_2__80 hct_26_3__81 ks_28_0 ks_28_1 ks_28_2 ks_28_3 hct_26_0__82 hct_26_1__83 hct_26_2__84 hct_26_3__85 ks_28_0__86 ks_28_1__87 ks_28_2__88 ks_28_3__89
        clear Oout_13l0 Gt_38 Rt_38i
        clear Ot_32
        have mmt_38 := Lib.hid Ut_38.out.2.1
        clear Ut_38
        replace H := app_hid H
        go_wp2_with fail
        go_roundg m0
        case measure => omega
        case rel => exact ⟨k0 + 1, _, _, _, _, by omega, by go_num, rfl, H, HBwt_38, Pt_38⟩
  | true =>
    have nht_8 : 0 < list.length := by have := of_decide_eq_true ht_8; omega
    replace H := ite_t H
    replace H := let_hid H
    obtain ⟨t_11, ht_11, H⟩ := H
    try have hv_t_11 : (list.length : Int) - 1 = t_11 := by rw [← ht_11]; exact (IntWalk.i64_in _ (by omega)).symm
    try have hv2_t_11 : IntKind.i64.wrap t_11 = t_11 := by rw [← hv_t_11]; exact IntWalk.i64_in _ (by omega)
    replace H := idx_hid H
    obtain ⟨nt_12, yt_12, et_12, lt_12, gt_12, H⟩ := H
    subst et_12
    obtain ⟨t_12_id, t_12_year, t_12_town, t_12_traits⟩ := yt_12
    replace H := unSighting_hid H
    obtain ⟨bbt_12, oot_12, zt_12, Art_12, crt_12, eAt_12, zzt_12, hKt_12, hrt_12, hqt_12, hnt_12⟩ := Go.Proofs.Ytpaakpbbahbhcaa.GoV.nest_at M0.out (k := nt_12) lt_12
    obtain rfl := Option.some.inj (gt_12.out.symm.trans zzt_12)
    clear zzt_12
    subst eAt_12
    have hct_12_0 : w.cell? ⟨bbt_12, oot_12 + nt_12 * 4, none⟩ = some (.int .i64 t_12_id) := hKt_12 0 _ rfl
    have hct_12_1 : w.cell? ⟨bbt_12, oot_12 + nt_12 * 4 + 1, none⟩ = some (.int .i64 t_12_year) := hKt_12 1 _ rfl
    have hct_12_2 : w.cell? ⟨bbt_12, oot_12 + nt_12 * 4 + 2, none⟩ = some (.string t_12_town) := hKt_12 2 _ rfl
    have hct_12_3 : w.cell? ⟨bbt_12, oot_12 + nt_12 * 4 + 3, none⟩ = some (.slice Art_12 t_12_traits.length crt_12) := hKt_12 3 _ rfl
    clear hKt_12
    have ltt_12 := cell_lt hct_12_0
    replace hct_12_0 := cell_below HB.out hct_12_0
    replace hct_12_1 := cell_below HB.out hct_12_1
    replace hct_12_2 := cell_below HB.out hct_12_2
    replace hct_12_3 := cell_below HB.out hct_12_3
    have Mrt_12 := Lib.hid hrt_12
    have Qrt_12 := Lib.hid hqt_12
    have Nrt_12 := Lib.hid hnt_12
    clear hrt_12 hqt_12 hnt_12
    have b0t_12 : (0 : Int) ≤ (nt_12 : Int) := by omega
    have b1t_12 : (nt_12 : Int) < ((list.length : Nat) : Int) := by omega
    have b2t_12 : ((nt_12 : Int)).toNat = nt_12 := by omega
    replace H := let_hid H
    obtain ⟨t_15, ht_15, H⟩ := H
    unfold j0 at H
    obtain ⟨w_t_17, hw_t_17⟩ : ∃ x, w.alloc (.cells #[] 67) = x := ⟨_, rfl⟩
    have bw_t_17 : Below w.heap.size w w_t_17 := by rw [← hw_t_17]; exact (Below.refl _ _).alloc (Nat.le_refl _) _
    have Ot_17 : Hid (Go.Proofs.Ytpaakpbbahbhcaa.GoV.OwnNest w_t_17 (w.heap.size) 67 3 Go.Proofs.Ytpaakpbbahbhcaa.GoVSighting.lay (some ⟨w.heap.size, 0, none⟩) 0 ([] : List Go.Proofs.Ytpaakpbbahbhcaa.PSighting.Sighting) [some ⟨w.heap.size, 0, none⟩]) := Lib.hid (by rw [← hw_t_17]; exact Go.Proofs.Ytpaakpbbahbhcaa.GoV.nest_empty HB.out.size)
    have HBw_t_17 := Lib.hid (Below.step HB.out bw_t_17)
    have hct_12_0__98 := cell_below bw_t_17 hct_12_0
    have hct_12_1__99 := cell_below bw_t_17 hct_12_1
    have hct_12_2__100 := cell_below bw_t_17 hct_12_2
    have hct_12_3__101 := cell_below bw_t_17 hct_12_3
    clear bw_t_17
    go_wp2_with fail
    clear hct_12_0 hct_12_1 hct_12_2 hct_12_3
    go_loopg [14, 13] (list.length) (fun m_ v14_ v13_ wr => ∃ (k0 : Nat) (out_13l0 : (List Go.Proofs.Ytpaakpbbahbhcaa.PSighting.Sighting)) (Aout_13l0 : Option Addr) (cout_13l0 : Nat) (Bout_13l0 : List (Option Addr)), k0 + m_ = list.length ∧ v14_ = .int .i64 (k0 : Int) ∧ v13_ = .slice Aout_13l0 out_13l0.length cout_13l0 ∧ Hid (cntK (l0 list) m_ k0 (out_13l0) (e0 list year town traits t_15) = some (r0, r1, r2)) ∧ Hid (Below w.heap.size w wr) ∧ Hid (Go.Proofs.Ytpaakpbbahbhcaa.GoV.OwnNest wr (w.heap.size) 67 3 Go.Proofs.Ytpaakpbbahbhcaa.GoVSighting.lay Aout_13l0 cout_13l0 out_13l0 Bout_13l0))
    case atStart => exact ⟨0, _, _, _, _, by omega, rfl, rfl, H, HBw_t_17, Ot_17⟩
    case round =>
      obtain ⟨k0, out_13l0, Aout_13l0, cout_13l0, Bout_13l0, hkm0, rfl, rfl, H, HBwr0, Oout_13l0⟩ := hrel
      rename World => wr0
      cases gk with
      | zero =>
        obtain rfl : k0 = list.length := by omega
        have hc0 : decide (((list.length : Nat) : Int) < ((list.length : Nat) : Int)) = false := by simp
        replace H := cnt_zero H
        unfold e0 at H
        replace H := let_hid H
        obtain ⟨_, rfl, H⟩ := H
        replace H := bind_hid H
        obtain ⟨t_48, qt_48, H⟩ := H
        go_wp2_with fail
        go_at_call 79
        refine (Go.Proofs.Ytpaakpbbahbhcaa.GsL1Own.C (traits) A3 c3 _   (Lib.hid (Cells.below M3.out HBwr0.out)) N3 Q3 qt_48).mono ?_
        rintro e_t_48 wt_48 ⟨At_48, ct_48, rfl, ot_48, bt_48⟩
        have Dt_48_out_13l0 := Lib.hid (Go.Proofs.Ytpaakpbbahbhcaa.GoV.nest_call ot_48 Oout_13l0.out)
        have Ot_48 := Lib.hid (own_lower ot_48 HBwr0.out.size)
        clear ot_48
        have HBwt_48 := Lib.hid (Below.step HBwr0.out bt_48)
        replace Oout_13l0 := Lib.hid (Go.Proofs.Ytpaakpbbahbhcaa.GoV.nest_below Oout_13l0.out bt_48)
        clear bt_48
        obtain ⟨w_t_50, hw_t_50⟩ : ∃ x, wt_48.alloc (.cells #[.int .i64 t_15, .int .i64 year, .string town, .slice At_48 t_48.length ct_48] 67) = x := ⟨_, rfl⟩
        have bw_t_50 : Below wt_48.heap.size wt_48 w_t_50 := by rw [← hw_t_50]; exact (Below.refl _ _).alloc (Nat.le_refl _) _
        have HBw_t_50 := Lib.hid (Below.step HBwt_48.out bw_t_50)
        replace Oout_13l0 := Lib.hid (Go.Proofs.Ytpaakpbbahbhcaa.GoV.nest_below Oout_13l0.out bw_t_50)
        replace Ot_48 := Lib.hid (own_below Ot_48.out bw_t_50)
        clear bw_t_50
        replace H := guard_hid H
        obtain ⟨hlt_51, H⟩ := H
        replace H := let_hid H
        obtain ⟨t_51, ht_51, H⟩ := H
        have hht_51 := Lib.hid ht_51
        clear ht_51
        have hst_51 := HBw_t_50.out.size
        obtain ⟨zt_51, Rt_51⟩ := Oout_13l0.out
        have Rt_51i := Lib.hid Rt_51
        clear Rt_51
        go_wp2_with (at_builtin; refine wpList_append_own_at _ rfl _ _ 24 rfl w.heap.size 67 i0_67 (.agg #[.int .i64 0, .int .i64 0, .string ByteArray.empty, .slice none 0 0]) 4 56 Try.underlying24 hi_67 hz0_67 hz1_67 hz2_67 rfl (by decide) _ _ _ rfl Rt_51i.out.row ⟨wt_48.heap.size, 0, none⟩ 1 1 [.int .i64 t_15, .int .i64 year, .string town, .slice At_48 t_48.length ct_48] rfl rfl (news_new hw_t_50) (one_cells rfl) (by unfold maxLen; omega) (by omega) hst_51 ?_; intro vt_51 wt_51 ot_51 gt_51 ut_51 yt_51; clear ut_51; obtain ⟨qt_51, ct_51, Bt_51, rfl, pt_51, dt_51, rt_51⟩ := Go.Proofs.Ytpaakpbbahbhcaa.GoV.nest_app (x := (Go.Proofs.Ytpaakpbbahbhcaa.PSighting.Sighting.mk t_15 year town t_48)) Rt_51i.out hht_51.out rfl Ot_48.out Dt_48_out_13l0.out gt_51 ot_51 yt_51; have Pt_51 := Lib.hid pt_51; have Ut_51 := Lib.hid dt_51; have Rt_51 := Lib.hid rt_51; have Gt_51 := Lib.hid gt_51; clear ot_51 gt_51 pt_51 yt_51 dt_51 rt_51; refine stop_in ?_)
        refine stop_out ?_
        have HBwt_51 := Lib.hid (HBw_t_50.out.grown Gt_51.out hst_51 (fun q hq => (Rt_51i.out.row.lt q hq).1))
        clear hst_51
        replace Ot_48 := Lib.hid (own_other Ot_48.out Gt_51.out (Apart.symm (Dt_48_out_13l0.out _ (Go.Proofs.Ytpaakpbbahbhcaa.GoV.nest_head Oout_13l0.out))))
        clear Oout_13l0 Gt_51 Rt_51i
        clear Ot_48
        have mmt_51 := Lib.hid Ut_51.out.2.1
        clear Ut_51
        replace H := bind_hid H
        obtain ⟨t_54, qt_54, H⟩ := H
        go_wp2_with fail
        go_at_call 56
        refine (Go.Proofs.Ytpaakpbbahbhcaa.GsL13Good.C (list) (some ⟨bbt_12, oot_12, none⟩) c0 _   (Lib.hid (Go.Proofs.Ytpaakpbbahbhcaa.GoV.read_below M0.out HBwt_51.out)) N0 qt_54).mono ?_
        rintro e_t_54 wt_54 ⟨rfl, bt_54⟩
        have HBwt_54 := Lib.hid (Below.step HBwt_51.out bt_54)
        replace Rt_51 := Lib.hid (own_below Rt_51.out bt_54)
        replace Pt_51 := Lib.hid (Go.Proofs.Ytpaakpbbahbhcaa.GoV.nest_below Pt_51.out bt_54)
        clear bt_54
        cases t_54 with
        | false =>
          replace H := let_hid H
          obtain ⟨t_55, ht_55, H⟩ := H
          obtain rfl : t_55 = true := ht_55.symm
          replace H := join_hid H
          replace H := ite_t H
          replace H := app_hid H
          replace H := ite_t H
          obtain ⟨w_t_61, hw_t_61⟩ : ∃ x, wt_54.alloc (.cells #[] 67) = x := ⟨_, rfl⟩
          have bw_t_61 : Below wt_54.heap.size wt_54 w_t_61 := by rw [← hw_t_61]; exact (Below.refl _ _).alloc (Nat.le_refl _) _
          have Ot_61 : Hid (Go.Proofs.Ytpaakpbbahbhcaa.GoV.OwnNest w_t_61 (w.heap.size) 67 3 Go.Proofs.Ytpaakpbbahbhcaa.GoVSighting.lay (some ⟨wt_54.heap.size, 0, none⟩) 0 ([] : List Go.Proofs.Ytpaakpbbahbhcaa.PSighting.Sighting) [some ⟨wt_54.heap.size, 0, none⟩]) := Lib.hid (by rw [← hw_t_61]; exact Go.Proofs.Ytpaakpbbahbhcaa.GoV.nest_empty HBwt_54.out.size)
          have Dt_61_t_48 := Lib.hid (Go.Proofs.Ytpaakpbbahbhcaa.GoN.nest_one (apart_fresh Rt_51.out))
          have Dt_61_t_51 := Lib.hid (fun x_ hx_ => Go.Proofs.Ytpaakpbbahbhcaa.GoN.nest_one (Go.Proofs.Ytpaakpbbahbhcaa.GoV.nest_fresh Pt_51.out x_ hx_))
          have HBw_t_61 := Lib.hid (Below.step HBwt_54.out bw_t_61)
          replace Rt_51 := Lib.hid (own_below Rt_51.out bw_t_61)
          replace Pt_51 := Lib.hid (Go.Proofs.Ytpaakpbbahbhcaa.GoV.nest_below Pt_51.out bw_t_61)
          clear bw_t_61
          cases ret_hid H
          go_wp2_with fail
          go_ret3
          exact ⟨(some ⟨wt_54.heap.size, 0, none⟩), 0, rfl, ⟨_, Ot_61.out⟩, HBw_t_61.out⟩
        | true =>
          replace H := let_hid H
          obtain ⟨t_55, ht_55, H⟩ := H
          obtain rfl : t_55 = false := ht_55.symm
          replace H := join_hid H
          replace H := ite_f H
          replace H := bind_hid H
          obtain ⟨t_58, qt_58, H⟩ := H
          go_wp2_with fail
          go_at_call 56
          refine (Go.Proofs.Ytpaakpbbahbhcaa.GsL13Good.C (t_51) (some ⟨qt_51, 0, none⟩) ct_51 _   (Lib.hid (Go.Proofs.Ytpaakpbbahbhcaa.GoV.nest_read Pt_51.out)) (Lib.hid (Go.Proofs.Ytpaakpbbahbhcaa.GoV.nest_max Pt_51.out)) qt_58).mono ?_
          rintro e_t_58 wt_58 ⟨rfl, bt_58⟩
          have HBwt_58 := Lib.hid (Below.step HBwt_54.out bt_58)
          replace Rt_51 := Lib.hid (own_below Rt_51.out bt_58)
          replace Pt_51 := Lib.hid (Go.Proofs.Ytpaakpbbahbhcaa.GoV.nest_below Pt_51.out bt_58)
          clear bt_58
          cases t_58 with
          | false =>
            replace H := let_hid H
            obtain ⟨t_59, ht_59, H⟩ := H
            obtain rfl : t_59 = true := ht_59.symm
            replace H := app_hid H
            replace H := ite_t H
            obtain ⟨w_t_61, hw_t_61⟩ : ∃ x, wt_58.alloc (.cells #[] 67) = x := ⟨_, rfl⟩
            have bw_t_61 : Below wt_58.heap.size wt_58 w_t_61 := by rw [← hw_t_61]; exact (Below.refl _ _).alloc (Nat.le_refl _) _
            have Ot_61 : Hid (Go.Proofs.Ytpaakpbbahbhcaa.GoV.OwnNest w_t_61 (w.heap.size) 67 3 Go.Proofs.Ytpaakpbbahbhcaa.GoVSighting.lay (some ⟨wt_58.heap.size, 0, none⟩) 0 ([] : List Go.Proofs.Ytpaakpbbahbhcaa.PSighting.Sighting) [some ⟨wt_58.heap.size, 0, none⟩]) := Lib.hid (by rw [← hw_t_61]; exact Go.Proofs.Ytpaakpbbahbhcaa.GoV.nest_empty HBwt_58.out.size)
            have Dt_61_t_48 := Lib.hid (Go.Proofs.Ytpaakpbbahbhcaa.GoN.nest_one (apart_fresh Rt_51.out))
            have Dt_61_t_51 := Lib.hid (fun x_ hx_ => Go.Proofs.Ytpaakpbbahbhcaa.GoN.nest_one (Go.Proofs.Ytpaakpbbahbhcaa.GoV.nest_fresh Pt_51.out x_ hx_))
            have HBw_t_61 := Lib.hid (Below.step HBwt_58.out bw_t_61)
            replace Rt_51 := Lib.hid (own_below Rt_51.out bw_t_61)
            replace Pt_51 := Lib.hid (Go.Proofs.Ytpaakpbbahbhcaa.GoV.nest_below Pt_51.out bw_t_61)
            clear bw_t_61
            cases ret_hid H
            go_wp2_with fail
            go_ret3
            exact ⟨(some ⟨wt_58.heap.size, 0, none⟩), 0, rfl, ⟨_, Ot_61.out⟩, HBw_t_61.out⟩
          | true =>
            replace H := let_hid H
            obtain ⟨t_59, ht_59, H⟩ := H
            obtain rfl : t_59 = false := ht_59.symm
            replace H := app_hid H
            replace H := ite_f H
            cases ret_hid H
            go_wp2_with fail
            go_ret3
            exact ⟨(some ⟨qt_51, 0, none⟩), ct_51, rfl, ⟨_, Pt_51.out⟩, HBwt_58.out⟩
      | succ m0 =>
        have hlt0 : k0 < list.length := by omega
        have hc0 : decide ((k0 : Int) < ((list.length : Nat) : Int)) = true := by simp; omega
        replace H := cnt_succ H
        unfold l0 at H
        replace H := let_hid H
        obtain ⟨_, rfl, H⟩ := H
        replace H := idx_hid H
        obtain ⟨nt_26, yt_26, et_26, lt_26, gt_26, H⟩ := H
        obtain rfl : k0 = nt_26 := by omega
        clear et_26
        obtain ⟨t_26_id, t_26_year, t_26_town, t_26_traits⟩ := yt_26
        replace H := unSighting_hid H
        obtain ⟨bbt_26, oot_26, zt_26, Art_26, crt_26, eAt_26, zzt_26, hKt_26, hrt_26, hqt_26, hnt_26⟩ := Go.Proofs.Ytpaakpbbahbhcaa.GoV.nest_at M0.out (k := k0) lt_26
        obtain rfl := Option.some.inj (gt_26.out.symm.trans zzt_26)
        clear zzt_26
        simp only [Option.some.injEq, Addr.mk.injEq] at eAt_26
        obtain ⟨rfl, rfl, _⟩ := eAt_26
        have hct_26_0 : w.cell? ⟨bbt_12, oot_12 + k0 * 4, none⟩ = some (.int .i64 t_26_id) := hKt_26 0 _ rfl
        have hct_26_1 : w.cell? ⟨bbt_12, oot_12 + k0 * 4 + 1, none⟩ = some (.int .i64 t_26_year) := hKt_26 1 _ rfl
        have hct_26_2 : w.cell? ⟨bbt_12, oot_12 + k0 * 4 + 2, none⟩ = some (.string t_26_town) := hKt_26 2 _ rfl
        have hct_26_3 : w.cell? ⟨bbt_12, oot_12 + k0 * 4 + 3, none⟩ = some (.slice Art_26 t_26_traits.length crt_26) := hKt_26 3 _ rfl
        clear hKt_26
        have ltt_26 := cell_lt hct_26_0
        replace hct_26_0 := cell_below HBwr0.out hct_26_0
        replace hct_26_1 := cell_below HBwr0.out hct_26_1
        replace hct_26_2 := cell_below HBwr0.out hct_26_2
        replace hct_26_3 := cell_below HBwr0.out hct_26_3
        have Mrt_26 := Lib.hid hrt_26
        have Qrt_26 := Lib.hid hqt_26
        have Nrt_26 := Lib.hid hnt_26
        clear hrt_26 hqt_26 hnt_26
        have b0t_26 : (0 : Int) ≤ (k0 : Int) := by omega
        have b1t_26 : (k0 : Int) < ((list.length : Nat) : Int) := by omega
        have b2t_26 : ((k0 : Int)).toNat = k0 := by omega
        obtain ⟨w_s_28, hw_s_28⟩ : ∃ x, wr0.alloc (.cells #[.int .i64 t_26_id, .int .i64 t_26_year, .string t_26_town, .slice Art_26 t_26_traits.length crt_26] 67) = x := ⟨_, rfl⟩
        have bw_s_28 : Below wr0.heap.size wr0 w_s_28 := by rw [← hw_s_28]; exact (Below.refl _ _).alloc (Nat.le_refl _) _
        have Ds_28_out_13l0 := Lib.hid (Go.Proofs.Ytpaakpbbahbhcaa.GoV.nest_fresh Oout_13l0.out)
        have HBw_s_28 := Lib.hid (Below.step HBwr0.out bw_s_28)
        have hct_26_0__102 := cell_below bw_s_28 hct_26_0
        have hct_26_1__103 := cell_below bw_s_28 hct_26_1
        have hct_26_2__104 := cell_below bw_s_28 hct_26_2
        have hct_26_3__105 := cell_below bw_s_28 hct_26_3
        replace Oout_13l0 := Lib.hid (Go.Proofs.Ytpaakpbbahbhcaa.GoV.nest_below Oout_13l0.out bw_s_28)
        clear bw_s_28
        have ks_28_0 : w_s_28.cell? ⟨wr0.heap.size, 0, none⟩ = some (.int .i64 t_26_id) := by rw [← hw_s_28]; exact box_new _ _ _ 0 _ rfl
        have ks_28_1 : w_s_28.cell? ⟨wr0.heap.size, 1, none⟩ = some (.int .i64 t_26_year) := by rw [← hw_s_28]; exact box_new _ _ _ 1 _ rfl
        have ks_28_2 : w_s_28.cell? ⟨wr0.heap.size, 2, none⟩ = some (.string t_26_town) := by rw [← hw_s_28]; exact box_new _ _ _ 2 _ rfl
        have ks_28_3 : w_s_28.cell? ⟨wr0.heap.size, 3, none⟩ = some (.slice Art_26 t_26_traits.length crt_26) := by rw [← hw_s_28]; exact box_new _ _ _ 3 _ rfl
        have Os_28 : Hid (w_s_28.ownsRow w.heap.size 67 4 (.slice (some ⟨wr0.heap.size, 0, none⟩) 1 1) 1 [.int .i64 t_26_id, .int .i64 t_26_year, .string t_26_town, .slice Art_26 t_26_traits.length crt_26]) := Lib.hid (by rw [← hw_s_28]; exact own_laid (n := 1) HBwr0.out.size rfl rfl (by unfold maxLen; omega))
        replace H := bind_hid H
        obtain ⟨t_32, qt_32, H⟩ := H
        go_wp2_with fail
        clear hct_26_0 hct_26_1 hct_26_2 hct_26_3
        go_at_call 79
        refine (Go.Proofs.Ytpaakpbbahbhcaa.GsL1Own.C (t_26_traits) Art_26 crt_26 _   (Lib.hid (Cells.below Mrt_26.out HBw_s_28.out)) Nrt_26 Qrt_26 qt_32).mono ?_
        rintro e_t_32 wt_32 ⟨At_32, ct_32, rfl, ot_32, bt_32⟩
        have Dt_32_out_13l0 := Lib.hid (Go.Proofs.Ytpaakpbbahbhcaa.GoV.nest_call ot_32 Oout_13l0.out)
        have Dt_32_s_28 := Lib.hid (apart_callbox ot_32 ks_28_0)
        have Ot_32 := Lib.hid (own_lower ot_32 HBw_s_28.out.size)
        clear ot_32
        have HBwt_32 := Lib.hid (Below.step HBw_s_28.out bt_32)
        replace hct_26_0__102 := cell_below bt_32 hct_26_0__102
        replace hct_26_1__103 := cell_below bt_32 hct_26_1__103
        replace hct_26_2__104 := cell_below bt_32 hct_26_2__104
        replace hct_26_3__105 := cell_below bt_32 hct_26_3__105
        replace ks_28_0 := cell_below bt_32 ks_28_0
        replace ks_28_1 := cell_below bt_32 ks_28_1
        replace ks_28_2 := cell_below bt_32 ks_28_2
        replace ks_28_3 := cell_below bt_32 ks_28_3
        replace Oout_13l0 := Lib.hid (Go.Proofs.Ytpaakpbbahbhcaa.GoV.nest_below Oout_13l0.out bt_32)
        replace Os_28 := Lib.hid (own_below Os_28.out bt_32)
        clear bt_32
        obtain ⟨wb34_34, hwb34_34⟩ : ∃ x, (wt_32).setCell ⟨wr0.heap.size, 3, none⟩ (.slice At_32 t_32.length ct_32) = x := ⟨_, rfl⟩
        have z0b34_34 := Os_28.out.frozenAt 3
        have Sb34_34 := Lib.hid (own_stores [(3, .slice At_32 t_32.length ct_32)] Os_28.out)
        have Pb34_34 : Hid (wb34_34.ownsRow w.heap.size 67 4 (.slice (some ⟨wr0.heap.size, 0, none⟩) 1 1) 1 [.int .i64 t_26_id, .int .i64 t_26_year, .string t_26_town, .slice At_32 t_32.length ct_32]) := Lib.hid (by rw [← hwb34_34]; exact Sb34_34.out.1)
        have Gb34_34 : Hid (wt_32.grownBy wb34_34 (Value.slice (some ⟨wr0.heap.size, 0, none⟩) 1 1).ownBlock) := Lib.hid (by rw [← hwb34_34]; exact Sb34_34.out.2)
        have HBwb34_34 := Lib.hid (HBwt_32.out.grown Gb34_34.out HBwt_32.out.size (fun q hq => (Os_28.out.lt q hq).1))
        clear Sb34_34
        have hct_26_0__106 := cell_other hct_26_0__102 Gb34_34.out (apart_old Os_28.out ltt_26)
        have hct_26_1__107 := cell_other hct_26_1__103 Gb34_34.out (apart_old Os_28.out ltt_26)
        have hct_26_2__108 := cell_other hct_26_2__104 Gb34_34.out (apart_old Os_28.out ltt_26)
        have hct_26_3__109 := cell_other hct_26_3__105 Gb34_34.out (apart_old Os_28.out ltt_26)
        replace Oout_13l0 := Lib.hid (Go.Proofs.Ytpaakpbbahbhcaa.GoV.nest_other Oout_13l0.out Gb34_34.out Ds_28_out_13l0.out)
        replace Ot_32 := Lib.hid (own_other Ot_32.out Gb34_34.out (Apart.symm Dt_32_s_28.out))
        clear Os_28 Gb34_34
        have ks_28_0__110 : wb34_34.cell? ⟨wr0.heap.size, 0, none⟩ = some (.int .i64 t_26_id) := Pb34_34.out.cells rfl 0 _ rfl
        have ks_28_1__111 : wb34_34.cell? ⟨wr0.heap.size, 1, none⟩ = some (.int .i64 t_26_year) := Pb34_34.out.cells rfl 1 _ rfl
        have ks_28_2__112 : wb34_34.cell? ⟨wr0.heap.size, 2, none⟩ = some (.string t_26_town) := Pb34_34.out.cells rfl 2 _ rfl
        have ks_28_3__113 : wb34_34.cell? ⟨wr0.heap.size, 3, none⟩ = some (.slice At_32 t_32.length ct_32) := Pb34_34.out.cells rfl 3 _ rfl
        obtain ⟨w_t_37, hw_t_37⟩ : ∃ x, wb34_34.alloc (.cells #[.int .i64 t_26_id, .int .i64 t_26_year, .string t_26_town, .slice At_32 t_32.length ct_32] 67) = x := ⟨_, rfl⟩
        have bw_t_37 : Below wb34_34.heap.size wb34_34 w_t_37 := by rw [← hw_t_37]; exact (Below.refl _ _).alloc (Nat.le_refl _) _
        have HBw_t_37 := Lib.hid (Below.step HBwb34_34.out bw_t_37)
        have hct_26_0__114 := cell_below bw_t_37 hct_26_0__106
        have hct_26_1__115 := cell_below bw_t_37 hct_26_1__107
        have hct_26_2__116 := cell_below bw_t_37 hct_26_2__108
        have hct_26_3__117 := cell_below bw_t_37 hct_26_3__109
        have ks_28_0__118 := cell_below bw_t_37 ks_28_0__110
        have ks_28_1__119 := cell_below bw_t_37 ks_28_1__111
        have ks_28_2__120 := cell_below bw_t_37 ks_28_2__112
        have ks_28_3__121 := cell_below bw_t_37 ks_28_3__113
        replace Oout_13l0 := Lib.hid (Go.Proofs.Ytpaakpbbahbhcaa.GoV.nest_below Oout_13l0.out bw_t_37)
        replace Ot_32 := Lib.hid (own_below Ot_32.out bw_t_37)
        replace Pb34_34 := Lib.hid (own_below Pb34_34.out bw_t_37)
        clear bw_t_37
        replace H := guard_hid H
        obtain ⟨hlt_38, H⟩ := H
        replace H := let_hid H
        obtain ⟨t_38, ht_38, H⟩ := H
        have hht_38 := Lib.hid ht_38
        clear ht_38
        have hst_38 := HBw_t_37.out.size
        obtain ⟨zt_38, Rt_38⟩ := Oout_13l0.out
        have Rt_38i := Lib.hid Rt_38
        clear Rt_38
        go_wp2_with (at_builtin; refine wpList_append_own_at _ rfl _ _ 24 rfl w.heap.size 67 i0_67 (.agg #[.int .i64 0, .int .i64 0, .string ByteArray.empty, .slice none 0 0]) 4 56 Try.underlying24 hi_67 hz0_67 hz1_67 hz2_67 rfl (by decide) _ _ _ rfl Rt_38i.out.row ⟨wb34_34.heap.size, 0, none⟩ 1 1 [.int .i64 t_26_id, .int .i64 t_26_year, .string t_26_town, .slice At_32 t_32.length ct_32] rfl rfl (news_new hw_t_37) (one_cells rfl) (by unfold maxLen; omega) (by omega) hst_38 ?_; intro vt_38 wt_38 ot_38 gt_38 ut_38 yt_38; clear ut_38; obtain ⟨qt_38, ct_38, Bt_38, rfl, pt_38, dt_38, rt_38⟩ := Go.Proofs.Ytpaakpbbahbhcaa.GoV.nest_app (x := (Go.Proofs.Ytpaakpbbahbhcaa.PSighting.Sighting.mk t_26_id t_26_year t_26_town t_32)) Rt_38i.out hht_38.out rfl Ot_32.out Dt_32_out_13l0.out gt_38 ot_38 yt_38; have Pt_38 := Lib.hid pt_38; have Ut_38 := Lib.hid dt_38; have Rt_38 := Lib.hid rt_38; have Gt_38 := Lib.hid gt_38; clear ot_38 gt_38 pt_38 yt_38 dt_38 rt_38; refine stop_in ?_)
        refine stop_out ?_
        have HBwt_38 := Lib.hid (HBw_t_37.out.grown Gt_38.out hst_38 (fun q hq => (Rt_38i.out.row.lt q hq).1))
        clear hst_38
        have Dt_38_s_28 : Hid (∀ y_ ∈ Bt_38, Apart (some ⟨wr0.heap.size, 0, none⟩) y_) := Lib.hid (Go.Proofs.Ytpaakpbbahbhcaa.GoN.apart_push Ds_28_out_13l0.out (Apart.symm Dt_32_s_28.out) (fun a_ ha_ => by cases ha_; exact cell_lt ks_28_0__118) Ut_38.out)
        replace hct_26_0__114 := cell_other hct_26_0__114 Gt_38.out (Go.Proofs.Ytpaakpbbahbhcaa.GoV.nest_old Oout_13l0.out ltt_26)
        replace hct_26_1__115 := cell_other hct_26_1__115 Gt_38.out (Go.Proofs.Ytpaakpbbahbhcaa.GoV.nest_old Oout_13l0.out ltt_26)
        replace hct_26_2__116 := cell_other hct_26_2__116 Gt_38.out (Go.Proofs.Ytpaakpbbahbhcaa.GoV.nest_old Oout_13l0.out ltt_26)
        replace hct_26_3__117 := cell_other hct_26_3__117 Gt_38.out (Go.Proofs.Ytpaakpbbahbhcaa.GoV.nest_old Oout_13l0.out ltt_26)
        replace ks_28_0__118 := cell_other ks_28_0__118 Gt_38.out (Apart.symm (Ds_28_out_13l0.out _ (Go.Proofs.Ytpaakpbbahbhcaa.GoV.nest_head Oout_13l0.out)))
        replace ks_28_1__119 := cell_other ks_28_1__119 Gt_38.out (Apart.symm (Ds_28_out_13l0.out _ (Go.Proofs.Ytpaakpbbahbhcaa.GoV.nest_head Oout_13l0.out)))
        replace ks_28_2__120 := cell_other ks_28_2__120 Gt_38.out (Apart.symm (Ds_28_out_13l0.out _ (Go.Proofs.Ytpaakpbbahbhcaa.GoV.nest_head Oout_13l0.out)))
        replace ks_28_3__121 := cell_other ks_28_3__121 Gt_38.out (Apart.symm (Ds_28_out_13l0.out _ (Go.Proofs.Ytpaakpbbahbhcaa.GoV.nest_head Oout_13l0.out)))
        replace Pb34_34 := Lib.hid (own_other Pb34_34.out Gt_38.out (Apart.symm (Ds_28_out_13l0.out _ (Go.Proofs.Ytpaakpbbahbhcaa.GoV.nest_head Oout_13l0.out))))
        replace Ot_32 := Lib.hid (own_other Ot_32.out Gt_38.out (Apart.symm (Dt_32_out_13l0.out _ (Go.Proofs.Ytpaakpbbahbhcaa.GoV.nest_head Oout_13l0.out))))
        clear z0b34_34 hct_26_0__102 hct_26_1__103 hct_26_2__104 hct_26_3__105 ks_28_0 ks_28_1 ks_28_2 ks_28_3 hct_26_0__106 hct_26_1__107 hct_26_2__108 hct_26_3__109 ks_28_0__110 ks_28_1__111 ks_28_2__112 ks_28_3__113
        clear Oout_13l0 Gt_38 Rt_38i
        clear Ot_32
        have mmt_38 := Lib.hid Ut_38.out.2.1
        clear Ut_38
        replace H := app_hid H
        go_wp2_with fail
        go_roundg m0
        case measure => omega
        case rel => exact ⟨k0 + 1, _, _, _, _, by omega, by go_num, rfl, H, HBwt_38, Pt_38⟩
end Go.Proofs.Ytpaakpbbahbhcaa.GsAddSighting

/- slices.Clone[[]loop.example/g01062/impl.Sighting,loop.example/g01062/impl.Sighting] as a plain function, and the contract of the program's: where the plain one has an answer, the program has it. Conditions: slices read as lists. -/
namespace Go.Proofs.Ytpaakpbbahbhcaa.GxSlicesCloneLoopExampleG01062ImplSightingLoopExampleG01062ImplSighting
set_option linter.unusedVariables false
set_option linter.unusedSimpArgs false
open Go.RowKit
open Go.Proofs.Ytpaakpbbahbhcaa.Rowed Go.Proofs.Ytpaakpbbahbhcaa.Turn Go.Proofs.Ytpaakpbbahbhcaa.Aid Go.Proofs.Ytpaakpbbahbhcaa.GoP Go.Proofs.Ytpaakpbbahbhcaa.GoM

def P (s_0 : (List Go.Proofs.Ytpaakpbbahbhcaa.PSighting.Sighting)) : Option ((List Go.Proofs.Ytpaakpbbahbhcaa.PSighting.Sighting)) :=
  Go.Proofs.Ytpaakpbbahbhcaa.GoK.nilK s_0 fun (nt_2 : Bool) =>
  iteK nt_2
  (some [])
  (guardK (([] : List Go.Proofs.Ytpaakpbbahbhcaa.PSighting.Sighting).length + s_0.length ≤ 1099511627776) <|
  letK (s_0) fun (t_6 : (List Go.Proofs.Ytpaakpbbahbhcaa.PSighting.Sighting)) =>
  some t_6)

set_option maxRecDepth 100000 in
set_option maxHeartbeats 2000000 in
theorem C (s_0 : (List Go.Proofs.Ytpaakpbbahbhcaa.PSighting.Sighting)) (A0 : Option Addr) (c0 : Nat)  (v_ : World) (w : World) (HV : Hid (Below v_.heap.size v_ w)) (M0 : Hid (Go.Proofs.Ytpaakpbbahbhcaa.GoV.ReadNest v_ Go.Proofs.Ytpaakpbbahbhcaa.GoVSighting.lay A0 s_0)) (N0 : Hid (s_0.length ≤ 9223372036854775807)) (Q0 : Hid (Room A0 s_0.length c0))  {r : (List Go.Proofs.Ytpaakpbbahbhcaa.PSighting.Sighting)} (H : Hid (P s_0 = some r)) :
    Calls Try.prog 80 #[.slice A0 s_0.length c0] w (fun e w' => ∃ A_r c_r, e = .returned (.slice A_r r.length c_r) ∧ (∃ B_, Go.Proofs.Ytpaakpbbahbhcaa.GoV.PartNest w' v_ (w.heap.size) 67 3 Go.Proofs.Ytpaakpbbahbhcaa.GoVSighting.lay (fun _ => false) A_r c_r r B_) ∧ Below w.heap.size w w') := by
  have HB := Lib.hid (Below.refl w.heap.size w)
  unfold P at H
  have N0o := N0.out
  obtain ⟨i0_67, hi_67, hz0_67, hz1_67, hz2_67⟩ := Aid.info_parts (P := Try.prog) (T := 67) (z := .agg #[.int .i64 0, .int .i64 0, .string ByteArray.empty, .slice none 0 0]) (s := 4) (b := 56) (by kernel_rfl)
  go_enter Try.func80, Try.ntmps80
  have mt_2 := Go.Proofs.Ytpaakpbbahbhcaa.GoV.nil_read M0.out
  obtain ⟨nt_2, ht_2⟩ : ∃ z_, (A0 : Option Addr).isNone = z_ := ⟨_, rfl⟩
  have rt_2 : ∀ W_, (binOp .eql 24 (.slice A0 s_0.length c0) (.slice none 0 0)).run Try.prog W_ = .ok (.bool nt_2) W_ := by intro W_; rw [← ht_2]; exact Lib.run_eql_slice_nil W_ _ _ _ _ _ _ _ Try.underlying24
  replace H := Go.Proofs.Ytpaakpbbahbhcaa.GoK.nilK_hid H nt_2 (by rw [← ht_2]; exact mt_2) (by intro h_; subst h_; rfl)
  clear mt_2 ht_2
  cases nt_2 with
  | false =>
    replace H := ite_f H
    obtain ⟨w_t_4, hw_t_4⟩ : ∃ x, w.alloc (.cells #[] 67) = x := ⟨_, rfl⟩
    have bw_t_4 : Below w.heap.size w w_t_4 := by rw [← hw_t_4]; exact (Below.refl _ _).alloc (Nat.le_refl _) _
    have Ot_4 : Hid (Go.Proofs.Ytpaakpbbahbhcaa.GoV.PartNest w_t_4 v_ (w.heap.size) 67 3 Go.Proofs.Ytpaakpbbahbhcaa.GoVSighting.lay (fun _ => false) (some ⟨w.heap.size, 0, none⟩) 0 ([] : List Go.Proofs.Ytpaakpbbahbhcaa.PSighting.Sighting) [some ⟨w.heap.size, 0, none⟩]) := Lib.hid (by rw [← hw_t_4]; exact Go.Proofs.Ytpaakpbbahbhcaa.GoV.part_empty HB.out.size)
    have HBw_t_4 := Lib.hid (Below.step HB.out bw_t_4)
    clear bw_t_4
    replace H := guard_hid H
    obtain ⟨hlt_6, H⟩ := H
    replace H := let_hid H
    obtain ⟨t_6, ht_6, H⟩ := H
    subst ht_6
    have hst_6 := HBw_t_4.out.size
    obtain ⟨zt_6, Rt_6⟩ := Ot_4.out
    have Rt_6i := Lib.hid Rt_6
    clear Rt_6
    obtain ⟨yt_6, e1t_6, e2t_6, e3t_6⟩ := M0.out
    have e1t_6i := Lib.hid e1t_6
    have e2t_6i := Lib.hid e2t_6
    have e3t_6i := Lib.hid e3t_6
    clear e1t_6 e2t_6 e3t_6
    have Ct_6 := Lib.hid (Cells.below e2t_6i.out (Below.step HV.out HBw_t_4.out))
    go_wp2_with (at_builtin; refine append_spread rfl _ _ 24 rfl w.heap.size 67 i0_67 (.agg #[.int .i64 0, .int .i64 0, .string ByteArray.empty, .slice none 0 0]) 4 56 Try.underlying24 hi_67 hz0_67 hz1_67 hz2_67 rfl (by decide) (some ⟨w.heap.size, 0, none⟩) 0 0 _ rfl Rt_6i.out.row A0 s_0.length c0 _ rfl Q0.out Ct_6.out (Go.Proofs.Ytpaakpbbahbhcaa.GoVSighting.enc_one _ _) (by unfold maxLen; simp only [List.length_nil] at hlt_6; omega) (by simp only [List.length_nil] at hlt_6; omega) hst_6 ?_; intro vt_6 wt_6 ot_6 gt_6 ut_6; obtain ⟨At_6, ct_6, rfl, pt_6⟩ := Go.Proofs.Ytpaakpbbahbhcaa.GoV.part_of (rT := 3) e1t_6i.out e3t_6i.out ot_6; have Pt_6 := Lib.hid pt_6; have Yt_6 := Lib.hid ut_6; have Gt_6 := Lib.hid gt_6; clear ot_6 gt_6 pt_6 ut_6; refine stop_in ?_)
    refine stop_out ?_
    clear Ct_6 e1t_6i e2t_6i e3t_6i
    have HBwt_6 := Lib.hid (HBw_t_4.out.grown Gt_6.out hst_6 (fun q hq => (Rt_6i.out.row.lt q hq).1))
    clear hst_6
    clear Ot_4 Gt_6 Rt_6i Yt_6
    obtain rfl := ret_hid H
    go_wp2_with fail
    go_ret
    exact ⟨At_6, ct_6, rfl, ⟨_, Pt_6.out⟩, HBwt_6.out⟩
  | true =>
    replace H := ite_t H
    obtain rfl := ret_hid H
    go_wp2_with fail
    go_ret
    exact ⟨none, 0, rfl, ⟨_, Go.Proofs.Ytpaakpbbahbhcaa.GoV.part_nil⟩, HB.out⟩
end Go.Proofs.Ytpaakpbbahbhcaa.GxSlicesCloneLoopExampleG01062ImplSightingLoopExampleG01062ImplSighting

/- loop.example/g01062/impl.within as a plain function, and the contract of the program's: where the plain one has an answer, the program has it. Conditions: slices read as lists. -/
namespace Go.Proofs.Ytpaakpbbahbhcaa.GiWithin
set_option linter.unusedVariables false
set_option linter.unusedSimpArgs false
open Go.RowKit
open Go.Proofs.Ytpaakpbbahbhcaa.Rowed Go.Proofs.Ytpaakpbbahbhcaa.Turn Go.Proofs.Ytpaakpbbahbhcaa.Aid Go.Proofs.Ytpaakpbbahbhcaa.GoP Go.Proofs.Ytpaakpbbahbhcaa.GoM

def P (n_0 : Int) (low : Int) (high : Int) : Option (Bool) :=
  letK (decide (low ≤ n_0)) fun (t_3 : Bool) =>
  joinK (fun (t_8 : Bool) =>
  some t_8) fun jt_8 => iteK t_3 (letK (decide (n_0 ≤ high)) fun (t_7 : Bool) =>
  appK jt_8 t_7) (appK jt_8 false)

set_option maxRecDepth 100000 in
set_option maxHeartbeats 2000000 in
theorem C (n_0 : Int) (low : Int) (high : Int)   (w : World)   {r : Bool} (H : Hid (P n_0 low high = some r)) :
    Calls Try.prog 87 #[.int .i64 n_0, .int .i64 low, .int .i64 high] w (Gives (.bool r) w) := by
  have HB := Lib.hid (Below.refl w.heap.size w)
  unfold P at H
  go_enter Try.func87, Try.ntmps87
  replace H := let_hid H
  obtain ⟨t_3, ht_3, H⟩ := H
  replace H := join_hid H
  cases t_3 with
  | false =>
    replace H := ite_f H
    replace H := app_hid H
    obtain rfl := ret_hid H
    go_wp2_with fail
    go_ret
    exact ⟨rfl, HB.out⟩
  | true =>
    replace H := ite_t H
    replace H := let_hid H
    obtain ⟨t_7, ht_7, H⟩ := H
    replace H := app_hid H
    obtain rfl := ret_hid H
    go_wp2_with fail
    go_ret
    exact ⟨rfl, HB.out⟩

set_option maxRecDepth 100000 in
set_option maxHeartbeats 2000000 in
theorem C0 (n_0 : Int) (low : Int) (high : Int)   (w : World)   {r : Bool} (H : Hid (P n_0 low high = some r)) :
    Calls Try.prog 87 #[.int .i64 n_0, .int .i64 low, .int .i64 high] w (fun e w'' => e = .returned (.bool r) ∧ w'' = w) := by
  have HB := Lib.hid (Below.refl w.heap.size w)
  unfold P at H
  go_enter Try.func87, Try.ntmps87
  replace H := let_hid H
  obtain ⟨t_3, ht_3, H⟩ := H
  replace H := join_hid H
  cases t_3 with
  | false =>
    replace H := ite_f H
    replace H := app_hid H
    obtain rfl := ret_hid H
    go_wp2_with fail
    go_ret
    exact ⟨rfl, rfl⟩
  | true =>
    replace H := ite_t H
    replace H := let_hid H
    obtain ⟨t_7, ht_7, H⟩ := H
    replace H := app_hid H
    obtain rfl := ret_hid H
    go_wp2_with fail
    go_ret
    exact ⟨rfl, rfl⟩
end Go.Proofs.Ytpaakpbbahbhcaa.GiWithin

/- loop.example/g01062/impl.isLetter as a plain function, and the contract of the program's: where the plain one has an answer, the program has it. Conditions: slices read as lists. -/
namespace Go.Proofs.Ytpaakpbbahbhcaa.GiIsLetter
set_option linter.unusedVariables false
set_option linter.unusedSimpArgs false
open Go.RowKit
open Go.Proofs.Ytpaakpbbahbhcaa.Rowed Go.Proofs.Ytpaakpbbahbhcaa.Turn Go.Proofs.Ytpaakpbbahbhcaa.Aid Go.Proofs.Ytpaakpbbahbhcaa.GoP Go.Proofs.Ytpaakpbbahbhcaa.GoM

def P (c : Int) : Option (Bool) :=
  letK (decide (97 ≤ c)) fun (t_2 : Bool) =>
  joinK (fun (t_6 : Bool) =>
  some t_6) fun jt_6 => iteK t_2 (letK (decide (c ≤ 122)) fun (t_5 : Bool) =>
  appK jt_6 t_5) (appK jt_6 false)

set_option maxRecDepth 100000 in
set_option maxHeartbeats 2000000 in
theorem C (c : Int)   (w : World)   {r : Bool} (H : Hid (P c = some r)) :
    Calls Try.prog 104 #[.int .u8 c] w (Gives (.bool r) w) := by
  have HB := Lib.hid (Below.refl w.heap.size w)
  unfold P at H
  go_enter Try.func104, Try.ntmps104
  replace H := let_hid H
  obtain ⟨t_2, ht_2, H⟩ := H
  replace H := join_hid H
  cases t_2 with
  | false =>
    replace H := ite_f H
    replace H := app_hid H
    obtain rfl := ret_hid H
    go_wp2_with fail
    go_ret
    exact ⟨rfl, HB.out⟩
  | true =>
    replace H := ite_t H
    replace H := let_hid H
    obtain ⟨t_5, ht_5, H⟩ := H
    replace H := app_hid H
    obtain rfl := ret_hid H
    go_wp2_with fail
    go_ret
    exact ⟨rfl, HB.out⟩

set_option maxRecDepth 100000 in
set_option maxHeartbeats 2000000 in
theorem C0 (c : Int)   (w : World)   {r : Bool} (H : Hid (P c = some r)) :
    Calls Try.prog 104 #[.int .u8 c] w (fun e w'' => e = .returned (.bool r) ∧ w'' = w) := by
  have HB := Lib.hid (Below.refl w.heap.size w)
  unfold P at H
  go_enter Try.func104, Try.ntmps104
  replace H := let_hid H
  obtain ⟨t_2, ht_2, H⟩ := H
  replace H := join_hid H
  cases t_2 with
  | false =>
    replace H := ite_f H
    replace H := app_hid H
    obtain rfl := ret_hid H
    go_wp2_with fail
    go_ret
    exact ⟨rfl, rfl⟩
  | true =>
    replace H := ite_t H
    replace H := let_hid H
    obtain ⟨t_5, ht_5, H⟩ := H
    replace H := app_hid H
    obtain rfl := ret_hid H
    go_wp2_with fail
    go_ret
    exact ⟨rfl, rfl⟩
end Go.Proofs.Ytpaakpbbahbhcaa.GiIsLetter

/- loop.example/g01062/impl.isWord as a plain function, and the contract of the program's: where the plain one has an answer, the program has it. Conditions: slices read as lists. -/
namespace Go.Proofs.Ytpaakpbbahbhcaa.GiIsWord
set_option linter.unusedVariables false
set_option linter.unusedSimpArgs false
open Go.RowKit
open Go.Proofs.Ytpaakpbbahbhcaa.Rowed Go.Proofs.Ytpaakpbbahbhcaa.Turn Go.Proofs.Ytpaakpbbahbhcaa.Aid Go.Proofs.Ytpaakpbbahbhcaa.GoP Go.Proofs.Ytpaakpbbahbhcaa.GoM

def l0 (s_0 : ByteArray) (k0 : Nat) (s : Unit) (nx0 bk0 : Unit → Option (Bool)) : Option (Bool) :=
  
  Option.bind (idx s_0.toList (k0 : Int)) fun (yt_14 : UInt8) =>
  letK ((yt_14.toNat : Int)) fun (t_14 : Int) =>
  Option.bind (Go.Proofs.Ytpaakpbbahbhcaa.GiIsLetter.P t_14) fun (t_15 : Bool) =>
  letK (!t_15) fun (t_16 : Bool) =>
  iteK t_16
  (some false)
  (appK nx0 ())

def e0  (s : Unit) : Option (Bool) :=
  
  some true

def P (s_0 : ByteArray) : Option (Bool) :=
  Option.bind (Go.Proofs.Ytpaakpbbahbhcaa.GiWithin.P (s_0.size : Int) 1 10) fun (t_3 : Bool) =>
  letK (!t_3) fun (t_4 : Bool) =>
  iteK t_4
  (some false)
  (guardK (s_0.size ≤ 9223372036854775807) <|
  cntK (l0 s_0) (s_0.size) 0 () (e0 ))

set_option maxRecDepth 100000 in
set_option maxHeartbeats 2000000 in
theorem C (s_0 : ByteArray)   (w : World)   {r : Bool} (H : Hid (P s_0 = some r)) :
    Calls Try.prog 93 #[.string s_0] w (Gives (.bool r) w) := by
  have HB := Lib.hid (Below.refl w.heap.size w)
  unfold P at H
  go_enter Try.func93, Try.ntmps93
  replace H := bind_hid H
  obtain ⟨t_3, qt_3, H⟩ := H
  go_wp2_with fail
  go_at_call 87
  refine (Go.Proofs.Ytpaakpbbahbhcaa.GiWithin.C ((s_0.size : Int)) (1) (10)  _    qt_3).mono ?_
  rintro e_t_3 wt_3 ⟨rfl, bt_3⟩
  have HBwt_3 := Lib.hid (Below.step HB.out bt_3)
  clear bt_3
  cases t_3 with
  | false =>
    replace H := let_hid H
    obtain ⟨t_4, ht_4, H⟩ := H
    obtain rfl : t_4 = true := ht_4.symm
    replace H := ite_t H
    obtain rfl := ret_hid H
    go_wp2_with fail
    go_ret
    exact ⟨rfl, HBwt_3.out⟩
  | true =>
    replace H := let_hid H
    obtain ⟨t_4, ht_4, H⟩ := H
    obtain rfl : t_4 = false := ht_4.symm
    replace H := ite_f H
    replace H := guard_hid H
    obtain ⟨hg0, H⟩ := H
    go_wp2_with fail
    go_loopg [10] (s_0.size) (fun m_ v10_ wr => ∃ (k0 : Nat) , k0 + m_ = s_0.size ∧ v10_ = .int .i64 (k0 : Int) ∧ Hid (cntK (l0 s_0) m_ k0 () (e0 ) = some r) ∧ Hid (Below w.heap.size w wr))
    case atStart => exact ⟨0, by omega, rfl, H, HBwt_3⟩
    case round =>
      obtain ⟨k0, hkm0, rfl, H, HBwr0⟩ := hrel
      rename World => wr0
      cases gk with
      | zero =>
        obtain rfl : k0 = s_0.size := by omega
        have hc0 : decide (((s_0.size : Nat) : Int) < ((s_0.size : Nat) : Int)) = false := by simp
        replace H := cnt_zero H
        unfold e0 at H
        obtain rfl := ret_hid H
        go_wp2_with fail
        go_ret
        exact ⟨rfl, HBwr0.out⟩
      | succ m0 =>
        have hlt0 : k0 < s_0.size := by omega
        have hc0 : decide ((k0 : Int) < ((s_0.size : Nat) : Int)) = true := by simp; omega
        replace H := cnt_succ H
        unfold l0 at H
        replace H := idx_hid H
        obtain ⟨nt_14, yt_14, et_14, lt_14, gt_14, H⟩ := H
        obtain rfl : k0 = nt_14 := by omega
        clear et_14
        have rt_14 := byte_rule lt_14 gt_14.out
        have b0t_14 : (0 : Int) ≤ (k0 : Int) := by omega
        have b1t_14 : (k0 : Int) < (s_0.size : Int) := by have := size_list s_0; omega
        have b2t_14 : ((k0 : Int)).toNat = k0 := by omega
        have b3t_14 : k0 < s_0.size := by have := size_list s_0; omega
        replace H := let_hid H
        obtain ⟨t_14, ht_14, H⟩ := H
        replace H := bind_hid H
        obtain ⟨t_15, qt_15, H⟩ := H
        go_wp2_with fail
        go_at_call 104
        refine (Go.Proofs.Ytpaakpbbahbhcaa.GiIsLetter.C (t_14)  _    qt_15).mono ?_
        rintro e_t_15 wt_15 ⟨rfl, bt_15⟩
        have HBwt_15 := Lib.hid (Below.step HBwr0.out bt_15)
        clear bt_15
        cases t_15 with
        | false =>
          replace H := let_hid H
          obtain ⟨t_16, ht_16, H⟩ := H
          obtain rfl : t_16 = true := ht_16.symm
          replace H := ite_t H
          obtain rfl := ret_hid H
          go_wp2_with fail
          go_ret
          exact ⟨rfl, HBwt_15.out⟩
        | true =>
          replace H := let_hid H
          obtain ⟨t_16, ht_16, H⟩ := H
          obtain rfl : t_16 = false := ht_16.symm
          replace H := ite_f H
          replace H := app_hid H
          go_wp2_with fail
          go_roundg m0
          case measure => omega
          case rel => exact ⟨k0 + 1, by omega, by go_num, H, HBwt_15⟩
end Go.Proofs.Ytpaakpbbahbhcaa.GiIsWord

/- loop.example/g01062/impl.isTrait as a plain function, and the contract of the program's: where the plain one has an answer, the program has it. Conditions: slices read as lists. -/
namespace Go.Proofs.Ytpaakpbbahbhcaa.GiIsTrait
set_option linter.unusedVariables false
set_option linter.unusedSimpArgs false
open Go.RowKit
open Go.Proofs.Ytpaakpbbahbhcaa.Rowed Go.Proofs.Ytpaakpbbahbhcaa.Turn Go.Proofs.Ytpaakpbbahbhcaa.Aid Go.Proofs.Ytpaakpbbahbhcaa.GoP Go.Proofs.Ytpaakpbbahbhcaa.GoM

def P (trait : Int) : Option (Bool) :=
  Option.bind (Go.Proofs.Ytpaakpbbahbhcaa.GiWithin.P trait 1 50) fun (t_2 : Bool) =>
  some t_2

set_option maxRecDepth 100000 in
set_option maxHeartbeats 2000000 in
theorem C (trait : Int)   (w : World)   {r : Bool} (H : Hid (P trait = some r)) :
    Calls Try.prog 106 #[.int .i64 trait] w (Gives (.bool r) w) := by
  have HB := Lib.hid (Below.refl w.heap.size w)
  unfold P at H
  go_enter Try.func106, Try.ntmps106
  replace H := bind_hid H
  obtain ⟨t_2, qt_2, H⟩ := H
  go_wp2_with fail
  go_at_call 87
  refine (Go.Proofs.Ytpaakpbbahbhcaa.GiWithin.C (trait) (1) (50)  _    qt_2).mono ?_
  rintro e_t_2 wt_2 ⟨rfl, bt_2⟩
  have HBwt_2 := Lib.hid (Below.step HB.out bt_2)
  clear bt_2
  obtain rfl := ret_hid H
  go_wp2_with fail
  go_ret
  exact ⟨rfl, HBwt_2.out⟩
end Go.Proofs.Ytpaakpbbahbhcaa.GiIsTrait

/- loop.example/g01062/impl.areTraits$1 as a plain function, and the contract of the program's: where the plain one has an answer, the program has it. Conditions: slices read as lists. -/
namespace Go.Proofs.Ytpaakpbbahbhcaa.GiAreTraits1
set_option linter.unusedVariables false
set_option linter.unusedSimpArgs false
open Go.RowKit
open Go.Proofs.Ytpaakpbbahbhcaa.Rowed Go.Proofs.Ytpaakpbbahbhcaa.Turn Go.Proofs.Ytpaakpbbahbhcaa.Aid Go.Proofs.Ytpaakpbbahbhcaa.GoP Go.Proofs.Ytpaakpbbahbhcaa.GoM

def P (trait : Int) : Option (Int) :=
  some trait

set_option maxRecDepth 100000 in
set_option maxHeartbeats 2000000 in
theorem C (trait : Int)   (w : World)   {r : Int} (H : Hid (P trait = some r)) :
    Calls Try.prog 107 #[.int .i64 trait] w (Gives (.int .i64 r) w) := by
  have HB := Lib.hid (Below.refl w.heap.size w)
  unfold P at H
  go_enter Try.func107, Try.ntmps107
  obtain rfl := ret_hid H
  go_wp2_with fail
  go_ret
  exact ⟨rfl, HB.out⟩

set_option maxRecDepth 100000 in
set_option maxHeartbeats 2000000 in
theorem C0 (trait : Int)   (w : World)   {r : Int} (H : Hid (P trait = some r)) :
    Calls Try.prog 107 #[.int .i64 trait] w (fun e w'' => e = .returned (.int .i64 r) ∧ w'' = w) := by
  have HB := Lib.hid (Below.refl w.heap.size w)
  unfold P at H
  go_enter Try.func107, Try.ntmps107
  obtain rfl := ret_hid H
  go_wp2_with fail
  go_ret
  exact ⟨rfl, rfl⟩
end Go.Proofs.Ytpaakpbbahbhcaa.GiAreTraits1

/- loop.example/g01062/impl.areByKey[int,int] as a plain function, and the contract of the program's: where the plain one has an answer, the program has it. Conditions: slices read as lists. -/
namespace Go.Proofs.Ytpaakpbbahbhcaa.GiAreByKeyIntIntiIsTraitiAreTraits1
set_option linter.unusedVariables false
set_option linter.unusedSimpArgs false
open Go.RowKit
open Go.Proofs.Ytpaakpbbahbhcaa.Rowed Go.Proofs.Ytpaakpbbahbhcaa.Turn Go.Proofs.Ytpaakpbbahbhcaa.Aid Go.Proofs.Ytpaakpbbahbhcaa.GoP Go.Proofs.Ytpaakpbbahbhcaa.GoM

def l0 (list : (List Int)) (k0 : Nat) (s : Unit) (nx0 bk0 : Unit → Option (Bool)) : Option (Bool) :=
  
  Option.bind (idx list (k0 : Int)) fun (yt_11 : Int) =>
  Option.bind (Go.Proofs.Ytpaakpbbahbhcaa.GiIsTrait.P yt_11) fun (t_17 : Bool) =>
  letK (!t_17) fun (t_18 : Bool) =>
  joinK (fun (t_35 : Bool) =>
  iteK t_35
  (some false)
  (appK nx0 ())) fun jt_35 => iteK t_18 (appK jt_35 true) (letK (decide (0 < (k0 : Int))) fun (t_21 : Bool) =>
  joinK (fun (t_34 : Bool) =>
  appK jt_35 t_34) fun jt_34 => iteK t_21 (Option.bind (Go.Proofs.Ytpaakpbbahbhcaa.GiAreTraits1.P yt_11) fun (t_25 : Int) =>
  letK (IntKind.i64.wrap ((k0 : Int) - 1)) fun (t_29 : Int) =>
  Option.bind (idx list t_29) fun (yt_30 : Int) =>
  Option.bind (Go.Proofs.Ytpaakpbbahbhcaa.GiAreTraits1.P yt_30) fun (t_32 : Int) =>
  letK (decide (t_25 ≤ t_32)) fun (t_33 : Bool) =>
  appK jt_34 t_33) (appK jt_34 false))

def e0  (s : Unit) : Option (Bool) :=
  
  some true

def P (list : (List Int)) (most : Int) : Option (Bool) :=
  letK (decide (most < (list.length : Int))) fun (t_4 : Bool) =>
  iteK t_4
  (some false)
  (cntK (l0 list) (list.length) 0 () (e0 ))

set_option maxRecDepth 100000 in
set_option maxHeartbeats 2000000 in
theorem C (list : (List Int)) (most : Int) (A0 : Option Addr) (c0 : Nat)  (w : World) (M0 : Hid (Cells w 1 A0 list.length (Go.Proofs.Ytpaakpbbahbhcaa.HelpInt.iv list))) (N0 : Hid (list.length ≤ 9223372036854775807))  {r : Bool} (H : Hid (P list most = some r)) :
    Calls Try.prog 105 #[.slice A0 list.length c0, .int .i64 most, .func (.func 106) #[] #[], .func (.func 107) #[] #[]] w (Gives (.bool r) w) := by
  have HB := Lib.hid (Below.refl w.heap.size w)
  unfold P at H
  have N0o := N0.out
  go_enter Try.func105, Try.ntmps105
  replace H := let_hid H
  obtain ⟨t_4, ht_4, H⟩ := H
  cases t_4 with
  | false =>
    replace H := ite_f H
    go_wp2_with fail
    go_loopg [17] (list.length) (fun m_ v17_ wr => ∃ (k0 : Nat) , k0 + m_ = list.length ∧ v17_ = .int .i64 (k0 : Int) ∧ Hid (cntK (l0 list) m_ k0 () (e0 ) = some r) ∧ Hid (Below w.heap.size w wr))
    case atStart => exact ⟨0, by omega, rfl, H, HB⟩
    case round =>
      obtain ⟨k0, hkm0, rfl, H, HBwr0⟩ := hrel
      rename World => wr0
      cases gk with
      | zero =>
        obtain rfl : k0 = list.length := by omega
        have hc0 : decide (((list.length : Nat) : Int) < ((list.length : Nat) : Int)) = false := by simp
        replace H := cnt_zero H
        unfold e0 at H
        obtain rfl := ret_hid H
        go_wp2_with fail
        go_ret
        exact ⟨rfl, HBwr0.out⟩
      | succ m0 =>
        have hlt0 : k0 < list.length := by omega
        have hc0 : decide ((k0 : Int) < ((list.length : Nat) : Int)) = true := by simp; omega
        replace H := cnt_succ H
        unfold l0 at H
        replace H := idx_hid H
        obtain ⟨nt_11, yt_11, et_11, lt_11, gt_11, H⟩ := H
        obtain rfl : k0 = nt_11 := by omega
        clear et_11
        obtain ⟨ab_t_11, ao_t_11, zt_11, At_11, z_t_11, ct_11_0⟩ := Go.Proofs.Ytpaakpbbahbhcaa.HelpInt.Ints.at_ M0.out lt_11
        obtain rfl := Option.some.inj (gt_11.out.symm.trans z_t_11)
        subst At_11
        have ltt_11 := cell_lt ct_11_0
        replace ct_11_0 := cell_below HBwr0.out ct_11_0
        clear z_t_11
        have b0t_11 : (0 : Int) ≤ (k0 : Int) := by omega
        have b1t_11 : (k0 : Int) < ((list.length : Nat) : Int) := by omega
        have b2t_11 : ((k0 : Int)).toNat = k0 := by omega
        go_wp2_with fail
        have Hct_11_0 := Lib.hid ct_11_0
        replace ct_11_0 := cell_regrown ct_11_0
        replace H := bind_hid H
        obtain ⟨t_17, qt_17, H⟩ := H
        have nt_17 : ∀ d os, Calls Try.prog 106 #[.int .i64 yt_11] (Go.Sort.grow (redrawn wr0 d) os) fun e w'' => e = .returned (.bool t_17) ∧ ∃ p : Regrown, w'' = Go.Sort.grow (redrawn wr0 p.d) p.os := fun d os => Calls.regrown_of (Go.Proofs.Ytpaakpbbahbhcaa.GiIsTrait.C (yt_11)  _    qt_17)
        cases t_17 with
        | false =>
          replace H := let_hid H
          obtain ⟨t_18, ht_18, H⟩ := H
          obtain rfl : t_18 = true := ht_18.symm
          replace H := join_hid H
          replace H := ite_t H
          replace H := app_hid H
          refine wp_region_quiet_below (by kernel_rfl) (by kernel_rfl) ?_
          repeat (go_big_quiet_step (first | (go_at_call 106; exact nt_17 _ _)))
          refine wpQuiet_nil ?_
          intro Y6 hY6
          replace hY6 := below_class hY6
          clear nt_17
          replace ct_11_0 := Hct_11_0.out
          clear Hct_11_0
          have HBY6 := Lib.hid (Below.step HBwr0.out hY6)
          replace ct_11_0 := cell_below hY6 ct_11_0
          clear hY6
          replace H := ite_t H
          obtain rfl := ret_hid H
          go_wp2_with fail
          go_ret
          exact ⟨rfl, HBY6.out⟩
        | true =>
          replace H := let_hid H
          obtain ⟨t_18, ht_18, H⟩ := H
          obtain rfl : t_18 = false := ht_18.symm
          replace H := join_hid H
          replace H := ite_f H
          replace H := let_hid H
          obtain ⟨t_21, ht_21, H⟩ := H
          replace H := join_hid H
          cases t_21 with
          | false =>
            have nht_21 : ¬ (0 < k0) := by have := of_decide_eq_false ht_21; omega
            replace H := ite_f H
            replace H := app_hid H
            replace H := app_hid H
            refine wp_region_quiet_below (by kernel_rfl) (by kernel_rfl) ?_
            repeat (go_big_quiet_step (first | (go_at_call 106; exact nt_17 _ _)))
            refine wpQuiet_nil ?_
            intro Y6 hY6
            replace hY6 := below_class hY6
            clear nt_17
            replace ct_11_0 := Hct_11_0.out
            clear Hct_11_0
            have HBY6 := Lib.hid (Below.step HBwr0.out hY6)
            replace ct_11_0 := cell_below hY6 ct_11_0
            clear hY6
            replace H := ite_f H
            replace H := app_hid H
            go_wp2_with fail
            go_roundg m0
            case measure => omega
            case rel => exact ⟨k0 + 1, by omega, by go_num, H, HBY6⟩
          | true =>
            have nht_21 : 0 < k0 := by have := of_decide_eq_true ht_21; omega
            replace H := ite_t H
            replace H := bind_hid H
            obtain ⟨t_25, qt_25, H⟩ := H
            have nt_25 : ∀ d os, Calls Try.prog 107 #[.int .i64 yt_11] (Go.Sort.grow (redrawn wr0 d) os) fun e w'' => e = .returned (.int .i64 t_25) ∧ ∃ p : Regrown, w'' = Go.Sort.grow (redrawn wr0 p.d) p.os := fun d os => Calls.regrown_of (Go.Proofs.Ytpaakpbbahbhcaa.GiAreTraits1.C (yt_11)  _    qt_25)
            replace H := let_hid H
            obtain ⟨t_29, ht_29, H⟩ := H
            replace H := idx_hid H
            obtain ⟨nt_30, yt_30, et_30, lt_30, gt_30, H⟩ := H
            subst et_30
            obtain ⟨ab_t_30, ao_t_30, zt_30, At_30, z_t_30, ct_30_0⟩ := Go.Proofs.Ytpaakpbbahbhcaa.HelpInt.Ints.at_ M0.out lt_30
            obtain rfl := Option.some.inj (gt_30.out.symm.trans z_t_30)
            simp only [Option.some.injEq, Addr.mk.injEq] at At_30
            obtain ⟨rfl, rfl, _⟩ := At_30
            have ltt_30 := cell_lt ct_30_0
            replace ct_30_0 := cell_below HBwr0.out ct_30_0
            clear z_t_30
            have b0t_30 : (0 : Int) ≤ (nt_30 : Int) := by omega
            have b1t_30 : (nt_30 : Int) < ((list.length : Nat) : Int) := by omega
            have b2t_30 : ((nt_30 : Int)).toNat = nt_30 := by omega
            have Hct_30_0 := Lib.hid ct_30_0
            replace ct_30_0 := cell_regrown ct_30_0
            replace H := bind_hid H
            obtain ⟨t_32, qt_32, H⟩ := H
            have nt_32 : ∀ d os, Calls Try.prog 107 #[.int .i64 yt_30] (Go.Sort.grow (redrawn wr0 d) os) fun e w'' => e = .returned (.int .i64 t_32) ∧ ∃ p : Regrown, w'' = Go.Sort.grow (redrawn wr0 p.d) p.os := fun d os => Calls.regrown_of (Go.Proofs.Ytpaakpbbahbhcaa.GiAreTraits1.C (yt_30)  _    qt_32)
            replace H := let_hid H
            obtain ⟨t_33, ht_33, H⟩ := H
            replace H := app_hid H
            replace H := app_hid H
            refine wp_region_quiet_below (by kernel_rfl) (by kernel_rfl) ?_
            repeat (go_big_quiet_step (first | (go_at_call 107; with_reducible exact nt_25 _ _) | (go_at_call 107; with_reducible exact nt_32 _ _) | (go_at_call 106; exact nt_17 _ _) | (go_at_call 107; exact nt_25 _ _) | (go_at_call 107; exact nt_32 _ _)))
            refine wpQuiet_nil ?_
            intro Y6 hY6
            replace hY6 := below_class hY6
            clear nt_17 nt_25 nt_32
            replace ct_11_0 := Hct_11_0.out
            clear Hct_11_0
            replace ct_30_0 := Hct_30_0.out
            clear Hct_30_0
            have HBY6 := Lib.hid (Below.step HBwr0.out hY6)
            replace ct_11_0 := cell_below hY6 ct_11_0
            replace ct_30_0 := cell_below hY6 ct_30_0
            clear hY6
            cases t_33 with
            | false =>
              replace H := ite_f H
              replace H := app_hid H
              go_wp2_with fail
              go_roundg m0
              case measure => omega
              case rel => exact ⟨k0 + 1, by omega, by go_num, H, HBY6⟩
            | true =>
              replace H := ite_t H
              obtain rfl := ret_hid H
              go_wp2_with fail
              go_ret
              exact ⟨rfl, HBY6.out⟩
  | true =>
    replace H := ite_t H
    obtain rfl := ret_hid H
    go_wp2_with fail
    go_ret
    exact ⟨rfl, HB.out⟩
end Go.Proofs.Ytpaakpbbahbhcaa.GiAreByKeyIntIntiIsTraitiAreTraits1

/- loop.example/g01062/impl.areTraits as a plain function, and the contract of the program's: where the plain one has an answer, the program has it. Conditions: slices read as lists. -/
namespace Go.Proofs.Ytpaakpbbahbhcaa.GiAreTraits
set_option linter.unusedVariables false
set_option linter.unusedSimpArgs false
open Go.RowKit
open Go.Proofs.Ytpaakpbbahbhcaa.Rowed Go.Proofs.Ytpaakpbbahbhcaa.Turn Go.Proofs.Ytpaakpbbahbhcaa.Aid Go.Proofs.Ytpaakpbbahbhcaa.GoP Go.Proofs.Ytpaakpbbahbhcaa.GoM

def P (traits : (List Int)) : Option (Bool) :=
  Option.bind (Go.Proofs.Ytpaakpbbahbhcaa.GiAreByKeyIntIntiIsTraitiAreTraits1.P traits 8) fun (t_2 : Bool) =>
  some t_2

set_option maxRecDepth 100000 in
set_option maxHeartbeats 2000000 in
theorem C (traits : (List Int)) (A0 : Option Addr) (c0 : Nat)  (w : World) (M0 : Hid (Cells w 1 A0 traits.length (Go.Proofs.Ytpaakpbbahbhcaa.HelpInt.iv traits))) (N0 : Hid (traits.length ≤ 9223372036854775807))  {r : Bool} (H : Hid (P traits = some r)) :
    Calls Try.prog 94 #[.slice A0 traits.length c0] w (Gives (.bool r) w) := by
  have HB := Lib.hid (Below.refl w.heap.size w)
  unfold P at H
  have N0o := N0.out
  go_enter Try.func94, Try.ntmps94
  replace H := bind_hid H
  obtain ⟨t_2, qt_2, H⟩ := H
  go_wp2_with fail
  go_at_call 105
  refine (Go.Proofs.Ytpaakpbbahbhcaa.GiAreByKeyIntIntiIsTraitiAreTraits1.C (traits) (8) A0 c0 _   (Lib.hid (Cells.below M0.out HB.out)) N0 qt_2).mono ?_
  rintro e_t_2 wt_2 ⟨rfl, bt_2⟩
  have HBwt_2 := Lib.hid (Below.step HB.out bt_2)
  clear bt_2
  obtain rfl := ret_hid H
  go_wp2_with fail
  go_ret
  exact ⟨rfl, HBwt_2.out⟩
end Go.Proofs.Ytpaakpbbahbhcaa.GiAreTraits

/- loop.example/g01062/impl.isSighting as a plain function, and the contract of the program's: where the plain one has an answer, the program has it. Conditions: slices read as lists. -/
namespace Go.Proofs.Ytpaakpbbahbhcaa.GiIsSighting
set_option linter.unusedVariables false
set_option linter.unusedSimpArgs false
open Go.RowKit
open Go.Proofs.Ytpaakpbbahbhcaa.Rowed Go.Proofs.Ytpaakpbbahbhcaa.Turn Go.Proofs.Ytpaakpbbahbhcaa.Aid Go.Proofs.Ytpaakpbbahbhcaa.GoP Go.Proofs.Ytpaakpbbahbhcaa.GoM

def P (s_0_id : Int) (s_0_year : Int) (s_0_town : ByteArray) (s_0_traits : (List Int)) : Option (Bool) :=
  Option.bind (Go.Proofs.Ytpaakpbbahbhcaa.GiWithin.P s_0_id 1 999) fun (t_4 : Bool) =>
  joinK (fun (t_9 : Bool) =>
  joinK (fun (t_14 : Bool) =>
  joinK (fun (t_19 : Bool) =>
  some t_19) fun jt_19 => iteK t_14 (Option.bind (Go.Proofs.Ytpaakpbbahbhcaa.GiAreTraits.P s_0_traits) fun (t_18 : Bool) =>
  appK jt_19 t_18) (appK jt_19 false)) fun jt_14 => iteK t_9 (Option.bind (Go.Proofs.Ytpaakpbbahbhcaa.GiIsWord.P s_0_town) fun (t_13 : Bool) =>
  appK jt_14 t_13) (appK jt_14 false)) fun jt_9 => iteK t_4 (Option.bind (Go.Proofs.Ytpaakpbbahbhcaa.GiWithin.P s_0_year 1840 2100) fun (t_8 : Bool) =>
  appK jt_9 t_8) (appK jt_9 false)

set_option maxRecDepth 100000 in
set_option maxHeartbeats 2000000 in
theorem C (s_0_id : Int) (s_0_year : Int) (s_0_town : ByteArray) (s_0_traits : (List Int)) (A0_3 : Option Addr) (c0_3 : Nat)  (w : World) (M0_3 : Hid (Cells w 1 A0_3 s_0_traits.length (Go.Proofs.Ytpaakpbbahbhcaa.HelpInt.iv s_0_traits))) (N0_3 : Hid (s_0_traits.length ≤ 9223372036854775807))  {r : Bool} (H : Hid (P s_0_id s_0_year s_0_town s_0_traits = some r)) :
    Calls Try.prog 67 #[.agg #[.int .i64 s_0_id, .int .i64 s_0_year, .string s_0_town, .slice A0_3 s_0_traits.length c0_3]] w (Gives (.bool r) w) := by
  have HB := Lib.hid (Below.refl w.heap.size w)
  unfold P at H
  have N0_3o := N0_3.out
  go_enter Try.func67, Try.ntmps67
  obtain ⟨w_s_0, hw_s_0⟩ : ∃ x, w.alloc (.cells #[.int .i64 s_0_id, .int .i64 s_0_year, .string s_0_town, .slice A0_3 s_0_traits.length c0_3] 67) = x := ⟨_, rfl⟩
  have bw_s_0 : Below w.heap.size w w_s_0 := by rw [← hw_s_0]; exact (Below.refl _ _).alloc (Nat.le_refl _) _
  have HBw_s_0 := Lib.hid (Below.step HB.out bw_s_0)
  clear bw_s_0
  have ks_0_0 : w_s_0.cell? ⟨w.heap.size, 0, none⟩ = some (.int .i64 s_0_id) := by rw [← hw_s_0]; exact box_new _ _ _ 0 _ rfl
  have ks_0_1 : w_s_0.cell? ⟨w.heap.size, 1, none⟩ = some (.int .i64 s_0_year) := by rw [← hw_s_0]; exact box_new _ _ _ 1 _ rfl
  have ks_0_2 : w_s_0.cell? ⟨w.heap.size, 2, none⟩ = some (.string s_0_town) := by rw [← hw_s_0]; exact box_new _ _ _ 2 _ rfl
  have ks_0_3 : w_s_0.cell? ⟨w.heap.size, 3, none⟩ = some (.slice A0_3 s_0_traits.length c0_3) := by rw [← hw_s_0]; exact box_new _ _ _ 3 _ rfl
  replace H := bind_hid H
  obtain ⟨t_4, qt_4, H⟩ := H
  go_wp2_with fail
  go_at_call 87
  refine (Go.Proofs.Ytpaakpbbahbhcaa.GiWithin.C (s_0_id) (1) (999)  _    qt_4).mono ?_
  rintro e_t_4 wt_4 ⟨rfl, bt_4⟩
  have HBwt_4 := Lib.hid (Below.step HBw_s_0.out bt_4)
  replace ks_0_0 := cell_below bt_4 ks_0_0
  replace ks_0_1 := cell_below bt_4 ks_0_1
  replace ks_0_2 := cell_below bt_4 ks_0_2
  replace ks_0_3 := cell_below bt_4 ks_0_3
  clear bt_4
  replace H := join_hid H
  cases t_4 with
  | false =>
    replace H := ite_f H
    replace H := app_hid H
    replace H := join_hid H
    replace H := ite_f H
    replace H := app_hid H
    replace H := join_hid H
    replace H := ite_f H
    replace H := app_hid H
    obtain rfl := ret_hid H
    go_wp2_with fail
    go_ret
    exact ⟨rfl, HBwt_4.out⟩
  | true =>
    replace H := ite_t H
    replace H := bind_hid H
    obtain ⟨t_8, qt_8, H⟩ := H
    go_wp2_with fail
    go_at_call 87
    refine (Go.Proofs.Ytpaakpbbahbhcaa.GiWithin.C (s_0_year) (1840) (2100)  _    qt_8).mono ?_
    rintro e_t_8 wt_8 ⟨rfl, bt_8⟩
    have HBwt_8 := Lib.hid (Below.step HBwt_4.out bt_8)
    replace ks_0_0 := cell_below bt_8 ks_0_0
    replace ks_0_1 := cell_below bt_8 ks_0_1
    replace ks_0_2 := cell_below bt_8 ks_0_2
    replace ks_0_3 := cell_below bt_8 ks_0_3
    clear bt_8
    replace H := app_hid H
    replace H := join_hid H
    cases t_8 with
    | false =>
      replace H := ite_f H
      replace H := app_hid H
      replace H := join_hid H
      replace H := ite_f H
      replace H := app_hid H
      obtain rfl := ret_hid H
      go_wp2_with fail
      go_ret
      exact ⟨rfl, HBwt_8.out⟩
    | true =>
      replace H := ite_t H
      replace H := bind_hid H
      obtain ⟨t_13, qt_13, H⟩ := H
      go_wp2_with fail
      go_at_call 93
      refine (Go.Proofs.Ytpaakpbbahbhcaa.GiIsWord.C (s_0_town)  _    qt_13).mono ?_
      rintro e_t_13 wt_13 ⟨rfl, bt_13⟩
      have HBwt_13 := Lib.hid (Below.step HBwt_8.out bt_13)
      replace ks_0_0 := cell_below bt_13 ks_0_0
      replace ks_0_1 := cell_below bt_13 ks_0_1
      replace ks_0_2 := cell_below bt_13 ks_0_2
      replace ks_0_3 := cell_below bt_13 ks_0_3
      clear bt_13
      replace H := app_hid H
      replace H := join_hid H
      cases t_13 with
      | false =>
        replace H := ite_f H
        replace H := app_hid H
        obtain rfl := ret_hid H
        go_wp2_with fail
        go_ret
        exact ⟨rfl, HBwt_13.out⟩
      | true =>
        replace H := ite_t H
        replace H := bind_hid H
        obtain ⟨t_18, qt_18, H⟩ := H
        go_wp2_with fail
        go_at_call 94
        refine (Go.Proofs.Ytpaakpbbahbhcaa.GiAreTraits.C (s_0_traits) A0_3 c0_3 _   (Lib.hid (Cells.below M0_3.out HBwt_13.out)) N0_3 qt_18).mono ?_
        rintro e_t_18 wt_18 ⟨rfl, bt_18⟩
        have HBwt_18 := Lib.hid (Below.step HBwt_13.out bt_18)
        replace ks_0_0 := cell_below bt_18 ks_0_0
        replace ks_0_1 := cell_below bt_18 ks_0_1
        replace ks_0_2 := cell_below bt_18 ks_0_2
        replace ks_0_3 := cell_below bt_18 ks_0_3
        clear bt_18
        replace H := app_hid H
        obtain rfl := ret_hid H
        go_wp2_with fail
        go_ret
        exact ⟨rfl, HBwt_18.out⟩
end Go.Proofs.Ytpaakpbbahbhcaa.GiIsSighting

/- loop.example/g01062/impl.idOfSighting as a plain function, and the contract of the program's: where the plain one has an answer, the program has it. Conditions: slices read as lists. -/
namespace Go.Proofs.Ytpaakpbbahbhcaa.GiIdOfSighting
set_option linter.unusedVariables false
set_option linter.unusedSimpArgs false
open Go.RowKit
open Go.Proofs.Ytpaakpbbahbhcaa.Rowed Go.Proofs.Ytpaakpbbahbhcaa.Turn Go.Proofs.Ytpaakpbbahbhcaa.Aid Go.Proofs.Ytpaakpbbahbhcaa.GoP Go.Proofs.Ytpaakpbbahbhcaa.GoM

def P (s_0_id : Int) (s_0_year : Int) (s_0_town : ByteArray) (s_0_traits : (List Int)) : Option (Int) :=
  some s_0_id

set_option maxRecDepth 100000 in
set_option maxHeartbeats 2000000 in
theorem C (s_0_id : Int) (s_0_year : Int) (s_0_town : ByteArray) (s_0_traits : (List Int)) (A0_3 : Option Addr) (c0_3 : Nat)  (w : World) (M0_3 : Hid (Cells w 1 A0_3 s_0_traits.length (Go.Proofs.Ytpaakpbbahbhcaa.HelpInt.iv s_0_traits))) (N0_3 : Hid (s_0_traits.length ≤ 9223372036854775807))  {r : Int} (H : Hid (P s_0_id s_0_year s_0_town s_0_traits = some r)) :
    Calls Try.prog 68 #[.agg #[.int .i64 s_0_id, .int .i64 s_0_year, .string s_0_town, .slice A0_3 s_0_traits.length c0_3]] w (Gives (.int .i64 r) w) := by
  have HB := Lib.hid (Below.refl w.heap.size w)
  unfold P at H
  have N0_3o := N0_3.out
  go_enter Try.func68, Try.ntmps68
  obtain ⟨w_s_0, hw_s_0⟩ : ∃ x, w.alloc (.cells #[.int .i64 s_0_id, .int .i64 s_0_year, .string s_0_town, .slice A0_3 s_0_traits.length c0_3] 67) = x := ⟨_, rfl⟩
  have bw_s_0 : Below w.heap.size w w_s_0 := by rw [← hw_s_0]; exact (Below.refl _ _).alloc (Nat.le_refl _) _
  have HBw_s_0 := Lib.hid (Below.step HB.out bw_s_0)
  clear bw_s_0
  have ks_0_0 : w_s_0.cell? ⟨w.heap.size, 0, none⟩ = some (.int .i64 s_0_id) := by rw [← hw_s_0]; exact box_new _ _ _ 0 _ rfl
  have ks_0_1 : w_s_0.cell? ⟨w.heap.size, 1, none⟩ = some (.int .i64 s_0_year) := by rw [← hw_s_0]; exact box_new _ _ _ 1 _ rfl
  have ks_0_2 : w_s_0.cell? ⟨w.heap.size, 2, none⟩ = some (.string s_0_town) := by rw [← hw_s_0]; exact box_new _ _ _ 2 _ rfl
  have ks_0_3 : w_s_0.cell? ⟨w.heap.size, 3, none⟩ = some (.slice A0_3 s_0_traits.length c0_3) := by rw [← hw_s_0]; exact box_new _ _ _ 3 _ rfl
  obtain rfl := ret_hid H
  go_wp2_with fail
  go_ret
  exact ⟨rfl, HBw_s_0.out⟩
end Go.Proofs.Ytpaakpbbahbhcaa.GiIdOfSighting

