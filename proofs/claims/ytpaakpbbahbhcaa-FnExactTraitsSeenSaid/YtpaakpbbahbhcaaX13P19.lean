/- Texts on which the proofs of several laws stand, one behind the other (19 of 20). No condition of their own. -/
import Derived.Test.YtpaakpbbahbhcaaChecked
import Derived.Test.YtpaakpbbahbhcaaX13P1
import Derived.Test.YtpaakpbbahbhcaaX13P2
import Derived.Test.YtpaakpbbahbhcaaX13P5
import Derived.Test.YtpaakpbbahbhcaaX13P6
import Derived.WalkKit
import Derived.WalkSpells
import Derived.WalkLawsBesides
import Derived.BigQuiet
import Derived.OwnWalk
import Derived.Deep.LoopGhost
import Derived.Deep.QuietTactic
import Derived.IntWalk
import Derived.Lib.QuietBelow
import Derived.Lib.RowBridge
import Derived.Sort.EncStr
import Derived.Shelf.Small.Bits
import Derived.Shelf.Small.Wraps
import Derived.Shelf.Strconv.Itoa0
import Derived.Shelf.Sort.Plain
import Derived.Shelf.Slices.Turned
import Derived.Ground.Names2Prog
import Derived.Shelf.Slices.Clone
import Derived.Shelf.Slices.CompactI
import Derived.Shelf.Slices.SearchI
import Derived.Shelf.Slices.Cells
import Derived.Shelf.Slices.In.SortNone
import Derived.Ground.SlgnProg
import Derived.Shelf.SlicesE.Clone
import Derived.Test.YtpaakpbbahbhcaaProg
import Derived.Test.YtpaakpbbahbhcaaX13P9
import Derived.Test.YtpaakpbbahbhcaaX13P3
import Derived.Test.YtpaakpbbahbhcaaX13P8
import Derived.Test.YtpaakpbbahbhcaaX13P4
/- loop.example/g01062/spec.TraitsSeen as a plain function, and the contract of the program's: where the plain one has an answer, the program has it. Conditions: slices read as lists. -/
namespace Go.Proofs.Ytpaakpbbahbhcaa.GsTraitsSeen
set_option linter.unusedVariables false
set_option linter.unusedSimpArgs false
open Go.RowKit
open Go.Proofs.Ytpaakpbbahbhcaa.Rowed Go.Proofs.Ytpaakpbbahbhcaa.Turn Go.Proofs.Ytpaakpbbahbhcaa.Aid Go.Proofs.Ytpaakpbbahbhcaa.GoP Go.Proofs.Ytpaakpbbahbhcaa.GoM

def l1 (fuel : Nat) (t_38_traits : (List Int)) (k1 : Nat) (s : (List Int)) (nx1 bk1 : (List Int) → Option ((List Int) × Bool)) : Option ((List Int) × Bool) :=
  letK s fun out_8l1 =>
  Option.bind (idx t_38_traits (k1 : Int)) fun (yt_50 : Int) =>
  Option.bind (Go.Proofs.Ytpaakpbbahbhcaa.GsL1Put.P fuel out_8l1 yt_50) fun (t_52 : (List Int)) =>
  appK nx1 (t_52)

def e1 (nx0 : ((List Int)) → Option ((List Int) × Bool)) (s : (List Int)) : Option ((List Int) × Bool) :=
  letK s fun out_8l1 =>
  appK nx0 (out_8l1)

def l0 (list : (List Go.Proofs.Ytpaakpbbahbhcaa.PSighting.Sighting)) (fuel : Nat) (t_26 : (List Int)) (k0 : Nat) (s : (List Int)) (nx0 bk0 : (List Int) → Option ((List Int) × Bool)) : Option ((List Int) × Bool) :=
  letK s fun out_8l0 =>
  Option.bind (idx t_26 (k0 : Int)) fun (yt_36 : Int) =>
  Option.bind (idx list yt_36) fun (yt_38 : Go.Proofs.Ytpaakpbbahbhcaa.PSighting.Sighting) =>
  unSighting yt_38 fun (t_38_id : Int) (t_38_year : Int) (t_38_town : ByteArray) (t_38_traits : (List Int)) =>
  cntK (l1 fuel t_38_traits) (t_38_traits.length) 0 (out_8l0) (e1 nx0)

def e0  (s : (List Int)) : Option ((List Int) × Bool) :=
  letK s fun out_8l0 =>
  some (out_8l0, true)

def P (fuel : Nat) (list : (List Go.Proofs.Ytpaakpbbahbhcaa.PSighting.Sighting)) (limit : Int) (id : Int) : Option ((List Int) × Bool) :=
  Option.bind (Go.Proofs.Ytpaakpbbahbhcaa.GsL13Find.P list id) fun (t_6 : Int) =>
  Option.bind (Go.Proofs.Ytpaakpbbahbhcaa.GsL13Good.P list) fun (t_9 : Bool) =>
  letK (!t_9) fun (t_10 : Bool) =>
  joinK (fun (t_15 : Bool) =>
  joinK (fun (t_19 : Bool) =>
  iteK t_19
  (some (([] : List Int), false))
  (Option.bind (Go.Proofs.Ytpaakpbbahbhcaa.GsL13Cover.P fuel list limit t_6) fun (t_26 : (List Int)) =>
  cntK (l0 list fuel t_26) (t_26.length) 0 (([] : List Int)) (e0 ))) fun jt_19 => iteK t_15 (appK jt_19 true) (letK (decide (t_6 < 0)) fun (t_18 : Bool) =>
  appK jt_19 t_18)) fun jt_15 => iteK t_10 (appK jt_15 true) (Option.bind (Go.Proofs.Ytpaakpbbahbhcaa.GsL13Limit.P limit) fun (t_13 : Bool) =>
  letK (!t_13) fun (t_14 : Bool) =>
  appK jt_15 t_14)

set_option maxRecDepth 100000 in
set_option maxHeartbeats 2000000 in
theorem C (fuel : Nat) (list : (List Go.Proofs.Ytpaakpbbahbhcaa.PSighting.Sighting)) (limit : Int) (id : Int) (A0 : Option Addr) (c0 : Nat)  (w : World) (M0 : Hid (Go.Proofs.Ytpaakpbbahbhcaa.GoV.ReadNest w Go.Proofs.Ytpaakpbbahbhcaa.GoVSighting.lay A0 list)) (N0 : Hid (list.length ≤ 9223372036854775807))  {r0 : (List Int)} {r1 : Bool} (H : Hid (P fuel list limit id = some (r0, r1))) :
    Calls Try.prog 44 #[.slice A0 list.length c0, .int .i64 limit, .int .i64 id] w (fun e w' => ∃ A_r0 c_r0, e = .returned (.tuple #[.slice A_r0 r0.length c_r0, .bool r1]) ∧ w'.ownsRow w.heap.size 3 1 (.slice A_r0 r0.length c_r0) r0.length (Go.Proofs.Ytpaakpbbahbhcaa.HelpInt.iv r0) ∧ Below w.heap.size w w') := by
  have HB := Lib.hid (Below.refl w.heap.size w)
  unfold P at H
  have N0o := N0.out
  go_enter Try.func44, Try.ntmps44
  obtain ⟨w_t_2, hw_t_2⟩ : ∃ x, w.alloc (.cells #[] 3) = x := ⟨_, rfl⟩
  have bw_t_2 : Below w.heap.size w w_t_2 := by rw [← hw_t_2]; exact (Below.refl _ _).alloc (Nat.le_refl _) _
  have Ot_2 : Hid (w_t_2.ownsRow w.heap.size 3 1 (.slice (some ⟨w.heap.size, 0, none⟩) 0 0) 0 []) := Lib.hid (by rw [← hw_t_2]; exact own_empty HB.out.size)
  have HBw_t_2 := Lib.hid (Below.step HB.out bw_t_2)
  clear bw_t_2
  replace H := bind_hid H
  obtain ⟨t_6, qt_6, H⟩ := H
  go_wp2_with fail
  go_at_call 55
  refine (Go.Proofs.Ytpaakpbbahbhcaa.GsL13Find.C (list) (id) A0 c0 _   (Lib.hid (Go.Proofs.Ytpaakpbbahbhcaa.GoV.read_below M0.out HBw_t_2.out)) N0 qt_6).mono ?_
  rintro e_t_6 wt_6 ⟨rfl, bt_6⟩
  have HBwt_6 := Lib.hid (Below.step HBw_t_2.out bt_6)
  replace Ot_2 := Lib.hid (own_below Ot_2.out bt_6)
  clear bt_6
  replace H := bind_hid H
  obtain ⟨t_9, qt_9, H⟩ := H
  go_wp2_with fail
  go_at_call 56
  refine (Go.Proofs.Ytpaakpbbahbhcaa.GsL13Good.C (list) A0 c0 _   (Lib.hid (Go.Proofs.Ytpaakpbbahbhcaa.GoV.read_below M0.out HBwt_6.out)) N0 qt_9).mono ?_
  rintro e_t_9 wt_9 ⟨rfl, bt_9⟩
  have HBwt_9 := Lib.hid (Below.step HBwt_6.out bt_9)
  replace Ot_2 := Lib.hid (own_below Ot_2.out bt_9)
  clear bt_9
  cases t_9 with
  | false =>
    replace H := let_hid H
    obtain ⟨t_10, ht_10, H⟩ := H
    obtain rfl : t_10 = true := ht_10.symm
    replace H := join_hid H
    replace H := ite_t H
    replace H := app_hid H
    replace H := join_hid H
    replace H := ite_t H
    replace H := app_hid H
    replace H := ite_t H
    cases ret_hid H
    go_wp2_with fail
    go_ret2
    exact ⟨(some ⟨w.heap.size, 0, none⟩), 0, rfl, Ot_2.out, HBwt_9.out⟩
  | true =>
    replace H := let_hid H
    obtain ⟨t_10, ht_10, H⟩ := H
    obtain rfl : t_10 = false := ht_10.symm
    replace H := join_hid H
    replace H := ite_f H
    replace H := bind_hid H
    obtain ⟨t_13, qt_13, H⟩ := H
    go_wp2_with fail
    go_at_call 65
    refine (Go.Proofs.Ytpaakpbbahbhcaa.GsL13Limit.C (limit)  _    qt_13).mono ?_
    rintro e_t_13 wt_13 ⟨rfl, bt_13⟩
    have HBwt_13 := Lib.hid (Below.step HBwt_9.out bt_13)
    replace Ot_2 := Lib.hid (own_below Ot_2.out bt_13)
    clear bt_13
    cases t_13 with
    | false =>
      replace H := let_hid H
      obtain ⟨t_14, ht_14, H⟩ := H
      obtain rfl : t_14 = true := ht_14.symm
      replace H := app_hid H
      replace H := join_hid H
      replace H := ite_t H
      replace H := app_hid H
      replace H := ite_t H
      cases ret_hid H
      go_wp2_with fail
      go_ret2
      exact ⟨(some ⟨w.heap.size, 0, none⟩), 0, rfl, Ot_2.out, HBwt_13.out⟩
    | true =>
      replace H := let_hid H
      obtain ⟨t_14, ht_14, H⟩ := H
      obtain rfl : t_14 = false := ht_14.symm
      replace H := app_hid H
      replace H := join_hid H
      replace H := ite_f H
      replace H := let_hid H
      obtain ⟨t_18, ht_18, H⟩ := H
      replace H := app_hid H
      cases t_18 with
      | false =>
        replace H := ite_f H
        replace H := bind_hid H
        obtain ⟨t_26, qt_26, H⟩ := H
        go_wp2_with fail
        go_at_call 58
        refine (Go.Proofs.Ytpaakpbbahbhcaa.GsL13Cover.C fuel (list) (limit) (t_6) A0 c0 _   (Lib.hid (Go.Proofs.Ytpaakpbbahbhcaa.GoV.read_below M0.out HBwt_13.out)) N0 qt_26).mono ?_
        rintro e_t_26 wt_26 ⟨At_26, ct_26, rfl, ot_26, bt_26⟩
        have Dt_26_t_2 := Lib.hid (apart_call ot_26 Ot_2.out)
        have Ot_26 := Lib.hid (own_lower ot_26 HBwt_13.out.size)
        clear ot_26
        have HBwt_26 := Lib.hid (Below.step HBwt_13.out bt_26)
        replace Ot_2 := Lib.hid (own_below Ot_2.out bt_26)
        clear bt_26
        have hb_0 : t_26.length ≤ 9223372036854775807 := own_max Ot_26.out
        go_wp2_with fail
        go_loopg [11, 8] (t_26.length) (fun m_ v11_ v8_ wr => ∃ (k0 : Nat) (out_8l0 : (List Int)) (Aout_8l0 : Option Addr) (cout_8l0 : Nat), k0 + m_ = t_26.length ∧ v11_ = .int .i64 (k0 : Int) ∧ v8_ = .slice Aout_8l0 out_8l0.length cout_8l0 ∧ Hid (cntK (l0 list fuel t_26) m_ k0 (out_8l0) (e0 ) = some (r0, r1)) ∧ Hid (Below w.heap.size w wr) ∧ Hid (wr.ownsRow w.heap.size 3 1 (.slice Aout_8l0 out_8l0.length cout_8l0) out_8l0.length (Go.Proofs.Ytpaakpbbahbhcaa.HelpInt.iv out_8l0)) ∧ Hid (wr.ownsRow w.heap.size 3 1 (.slice At_26 t_26.length ct_26) t_26.length (Go.Proofs.Ytpaakpbbahbhcaa.HelpInt.iv t_26)) ∧ Hid (Apart Aout_8l0 At_26))
        case atStart => exact ⟨0, _, _, _, by omega, rfl, rfl, H, HBwt_26, Ot_2, Ot_26, Lib.hid (Apart.symm Dt_26_t_2.out)⟩
        case round =>
          obtain ⟨k0, out_8l0, Aout_8l0, cout_8l0, hkm0, rfl, rfl, H, HBwr0, Oout_8l0, Ot_26, Dout_8l0_t_26⟩ := hrel
          rename World => wr0
          cases gk with
          | zero =>
            obtain rfl : k0 = t_26.length := by omega
            have hc0 : decide (((t_26.length : Nat) : Int) < ((t_26.length : Nat) : Int)) = false := by simp
            replace H := cnt_zero H
            unfold e0 at H
            replace H := let_hid H
            obtain ⟨_, rfl, H⟩ := H
            cases ret_hid H
            go_wp2_with fail
            go_ret2
            exact ⟨Aout_8l0, cout_8l0, rfl, Oout_8l0.out, HBwr0.out⟩
          | succ m0 =>
            have hlt0 : k0 < t_26.length := by omega
            have hc0 : decide ((k0 : Int) < ((t_26.length : Nat) : Int)) = true := by simp; omega
            replace H := cnt_succ H
            unfold l0 at H
            replace H := let_hid H
            obtain ⟨_, rfl, H⟩ := H
            replace H := idx_hid H
            obtain ⟨nt_36, yt_36, et_36, lt_36, gt_36, H⟩ := H
            obtain rfl : k0 = nt_36 := by omega
            clear et_36
            obtain ⟨qt_36, Qt_36⟩ := own_some Ot_26.out (by omega)
            subst Qt_36
            obtain ⟨ab_t_36, ao_t_36, zt_36, At_36, z_t_36, ct_36_0⟩ := Go.Proofs.Ytpaakpbbahbhcaa.HelpInt.Ints.at_ (own_cells Ot_26.out) (k := k0) (by omega)
            obtain rfl := Option.some.inj (gt_36.out.symm.trans z_t_36)
            simp only [Option.some.injEq, Addr.mk.injEq] at At_36
            obtain ⟨rfl, rfl, _⟩ := At_36
            clear z_t_36
            simp only [Nat.zero_add] at ct_36_0
            have b0t_36 : (0 : Int) ≤ (k0 : Int) := by omega
            have b1t_36 : (k0 : Int) < ((t_26.length : Nat) : Int) := by omega
            have b2t_36 : ((k0 : Int)).toNat = k0 := by omega
            replace H := idx_hid H
            obtain ⟨nt_38, yt_38, et_38, lt_38, gt_38, H⟩ := H
            subst et_38
            obtain ⟨t_38_id, t_38_year, t_38_town, t_38_traits⟩ := yt_38
            replace H := unSighting_hid H
            obtain ⟨bbt_38, oot_38, zt_38, Art_38, crt_38, eAt_38, zzt_38, hKt_38, hrt_38, hqt_38, hnt_38⟩ := Go.Proofs.Ytpaakpbbahbhcaa.GoV.nest_at M0.out (k := nt_38) lt_38
            obtain rfl := Option.some.inj (gt_38.out.symm.trans zzt_38)
            clear zzt_38
            subst eAt_38
            have hct_38_0 : w.cell? ⟨bbt_38, oot_38 + nt_38 * 4, none⟩ = some (.int .i64 t_38_id) := hKt_38 0 _ rfl
            have hct_38_1 : w.cell? ⟨bbt_38, oot_38 + nt_38 * 4 + 1, none⟩ = some (.int .i64 t_38_year) := hKt_38 1 _ rfl
            have hct_38_2 : w.cell? ⟨bbt_38, oot_38 + nt_38 * 4 + 2, none⟩ = some (.string t_38_town) := hKt_38 2 _ rfl
            have hct_38_3 : w.cell? ⟨bbt_38, oot_38 + nt_38 * 4 + 3, none⟩ = some (.slice Art_38 t_38_traits.length crt_38) := hKt_38 3 _ rfl
            clear hKt_38
            have ltt_38 := cell_lt hct_38_0
            replace hct_38_0 := cell_below HBwr0.out hct_38_0
            replace hct_38_1 := cell_below HBwr0.out hct_38_1
            replace hct_38_2 := cell_below HBwr0.out hct_38_2
            replace hct_38_3 := cell_below HBwr0.out hct_38_3
            have Mrt_38 := Lib.hid hrt_38
            have Qrt_38 := Lib.hid hqt_38
            have Nrt_38 := Lib.hid hnt_38
            clear hrt_38 hqt_38 hnt_38
            have b0t_38 : (0 : Int) ≤ (nt_38 : Int) := by omega
            have b1t_38 : (nt_38 : Int) < ((list.length : Nat) : Int) := by omega
            have b2t_38 : ((nt_38 : Int)).toNat = nt_38 := by omega
            have hb_1 : t_38_traits.length ≤ 9223372036854775807 := Nrt_38.out
            go_wp2_with fail
            go_loopg [13, 8] (t_38_traits.length) (fun m_ v13_ v8_ wr => ∃ (k1 : Nat) (out_8l1 : (List Int)) (Aout_8l1 : Option Addr) (cout_8l1 : Nat), k1 + m_ = t_38_traits.length ∧ v13_ = .int .i64 (k1 : Int) ∧ v8_ = .slice Aout_8l1 out_8l1.length cout_8l1 ∧ Hid (cntK (l1 fuel t_38_traits) m_ k1 (out_8l1) (e1 (fun s' => cntK (l0 list fuel t_26) m0 (k0 + 1) s' (e0 ))) = some (r0, r1)) ∧ Hid (Below w.heap.size w wr) ∧ Hid (wr.ownsRow w.heap.size 3 1 (.slice Aout_8l1 out_8l1.length cout_8l1) out_8l1.length (Go.Proofs.Ytpaakpbbahbhcaa.HelpInt.iv out_8l1)) ∧ Hid (wr.ownsRow w.heap.size 3 1 (.slice (some ⟨qt_36, 0, none⟩) t_26.length ct_26) t_26.length (Go.Proofs.Ytpaakpbbahbhcaa.HelpInt.iv t_26)) ∧ Hid (Apart Aout_8l1 (some ⟨qt_36, 0, none⟩)))
            case atStart => exact ⟨0, _, _, _, by omega, rfl, rfl, H, HBwr0, Oout_8l0, Ot_26, Lib.hid Dout_8l0_t_26.out⟩
            case round =>
              obtain ⟨k1, out_8l1, Aout_8l1, cout_8l1, hkm1, rfl, rfl, H, HBwr1, Oout_8l1, Ot_26, Dout_8l1_t_26⟩ := hrel
              rename World => wr1
              cases gk with
              | zero =>
                obtain rfl : k1 = t_38_traits.length := by omega
                have hc1 : decide (((t_38_traits.length : Nat) : Int) < ((t_38_traits.length : Nat) : Int)) = false := by simp
                replace H := cnt_zero H
                unfold e1 at H
                replace H := let_hid H
                obtain ⟨_, rfl, H⟩ := H
                replace H := app_hid H
                go_wp2_with fail
                go_roundg m0
                case measure => omega
                case rel => exact ⟨k0 + 1, _, _, _, by omega, by go_num, rfl, H, HBwr1, Oout_8l1, Ot_26, Lib.hid Dout_8l1_t_26.out⟩
              | succ m1 =>
                have hlt1 : k1 < t_38_traits.length := by omega
                have hc1 : decide ((k1 : Int) < ((t_38_traits.length : Nat) : Int)) = true := by simp; omega
                replace H := cnt_succ H
                unfold l1 at H
                replace H := let_hid H
                obtain ⟨_, rfl, H⟩ := H
                replace H := idx_hid H
                obtain ⟨nt_50, yt_50, et_50, lt_50, gt_50, H⟩ := H
                obtain rfl : k1 = nt_50 := by omega
                clear et_50
                obtain ⟨ab_t_50, ao_t_50, zt_50, At_50, z_t_50, ct_50_0⟩ := Go.Proofs.Ytpaakpbbahbhcaa.HelpInt.Ints.at_ Mrt_38.out lt_50
                obtain rfl := Option.some.inj (gt_50.out.symm.trans z_t_50)
                subst At_50
                have ltt_50 := cell_lt ct_50_0
                replace ct_50_0 := cell_below HBwr1.out ct_50_0
                clear z_t_50
                have b0t_50 : (0 : Int) ≤ (k1 : Int) := by omega
                have b1t_50 : (k1 : Int) < ((t_38_traits.length : Nat) : Int) := by omega
                have b2t_50 : ((k1 : Int)).toNat = k1 := by omega
                replace H := bind_hid H
                obtain ⟨t_52, qt_52, H⟩ := H
                go_wp2_with fail
                go_at_call 73
                refine (Go.Proofs.Ytpaakpbbahbhcaa.GsL1Put.C fuel (out_8l1) (yt_50) Aout_8l1 cout_8l1 w.heap.size _   Oout_8l1 (Lib.hid (own_max Oout_8l1.out)) (Lib.hid (own_room Oout_8l1.out)) (Lib.hid HBwr1.out.size)  qt_52).mono ?_
                rintro e_t_52 wt_52 ⟨At_52, ct_52, rfl, ot_52, gt_52, yt_52⟩
                have Pt_52 := Lib.hid ot_52
                have Gt_52 := Lib.hid gt_52
                replace yt_52 := Lib.hid yt_52
                clear ot_52 gt_52
                have HBwt_52 := Lib.hid (HBwr1.out.grown Gt_52.out HBwr1.out.size (fun q hq => (Oout_8l1.out.lt q hq).1))
                have Dt_52_t_26 : Hid (Apart At_52 _) := Lib.hid (Go.Proofs.Ytpaakpbbahbhcaa.GoK.apart_from Dout_8l1_t_26.out (fun a_ ha_ => (own_lt Ot_26.out a_ ha_).2) yt_52.out)
                replace ct_50_0 := cell_other ct_50_0 Gt_52.out (apart_old Oout_8l1.out ltt_50)
                replace Ot_26 := Lib.hid (own_other Ot_26.out Gt_52.out Dout_8l1_t_26.out)
                clear Oout_8l1 Gt_52 yt_52
                replace H := app_hid H
                go_wp2_with fail
                go_roundg m1
                case measure => omega
                case rel => exact ⟨k1 + 1, _, _, _, by omega, by go_num, rfl, H, HBwt_52, Pt_52, Ot_26, Lib.hid Dt_52_t_26.out⟩
      | true =>
        replace H := ite_t H
        cases ret_hid H
        go_wp2_with fail
        go_ret2
        exact ⟨(some ⟨w.heap.size, 0, none⟩), 0, rfl, Ot_2.out, HBwt_13.out⟩
end Go.Proofs.Ytpaakpbbahbhcaa.GsTraitsSeen

/- A row of numbers of one's own that the library's sort or Compact has gone over. No condition. -/
namespace Go.Proofs.Ytpaakpbbahbhcaa.GoS
set_option linter.unusedVariables false
open Go.RowKit
open Go.Proofs.Ytpaakpbbahbhcaa.Turn Go.Proofs.Ytpaakpbbahbhcaa.GoM
theorem own_holds {b T n c g : Nat} {w : World} {l : List Int} (hn : l.length = n) (h : w.ownsRow b T 1 (.slice (some ⟨g, 0, none⟩) n c) n (Go.Proofs.Ytpaakpbbahbhcaa.HelpInt.iv l)) : Sort.Holds (Value.int .i64) w g 0 l.toArray := by
  intro j hj
  have hj' : j < l.length := by simpa using hj
  refine ⟨?_, h.frozenAt _⟩
  obtain ⟨ad, ea, hc⟩ := (own_cells h).2 (by unfold Go.Proofs.Ytpaakpbbahbhcaa.HelpInt.iv; rw [List.length_map]; omega)
  obtain rfl := Option.some.inj ea
  have hu : (Go.Proofs.Ytpaakpbbahbhcaa.HelpInt.iv l)[j]? = some (.int .i64 l[j]) := by unfold Go.Proofs.Ytpaakpbbahbhcaa.HelpInt.iv; simp [hj']
  have := hc j _ hu
  rw [add_flat] at this
  simp only [Nat.zero_add] at this ⊢
  rw [this]
  simp [hj']
theorem own_put {b T n c g : Nat} {w : World} {l m : List Int} (hn : l.length = n) (hm : m.length = n) (h : w.ownsRow b T 1 (.slice (some ⟨g, 0, none⟩) n c) n (Go.Proofs.Ytpaakpbbahbhcaa.HelpInt.iv l)) (q : Nat) :
    (Sort.putRow (Value.int .i64) (Sort.ahead w q) g 0 m.toArray).ownsRow b T 1 (.slice (some ⟨g, 0, none⟩) n c) n (Go.Proofs.Ytpaakpbbahbhcaa.HelpInt.iv m) ∧ w.grownBy (Sort.putRow (Value.int .i64) (Sort.ahead w q) g 0 m.toArray) (some g) := by
  have hH := own_holds hn h
  rw [Lib.putRow_eq_setCells (Value.int .i64) w g 0 l.toArray m q hH (by simp; omega)]
  have hd : w.grownBy (w.drewN q) (some g) := ⟨rfl, rfl, rfl, Nat.le_refl _, fun _ _ _ => rfl⟩
  have h0 : w.grownBy (w.drewN q) none := ⟨rfl, rfl, rfl, Nat.le_refl _, fun _ _ _ => rfl⟩
  have h1 := h.kept h0 (by simp [Value.ownBlock])
  have hl : (Go.Proofs.Ytpaakpbbahbhcaa.HelpInt.iv l).length = n := by unfold Go.Proofs.Ytpaakpbbahbhcaa.HelpInt.iv; simp [hn]
  have h2 := Go.Proofs.Ytpaakpbbahbhcaa.GoK.own_setCells (m.map (Value.int .i64)) 0 h1 (by rw [List.length_map]; omega)
  have e : (Go.Proofs.Ytpaakpbbahbhcaa.HelpInt.iv l).take 0 ++ m.map (Value.int .i64) ++ (Go.Proofs.Ytpaakpbbahbhcaa.HelpInt.iv l).drop (0 + (m.map (Value.int .i64)).length) = Go.Proofs.Ytpaakpbbahbhcaa.HelpInt.iv m := by
    rw [List.length_map, Nat.zero_add, hm, List.drop_of_length_le (by omega)]
    simp [Go.Proofs.Ytpaakpbbahbhcaa.HelpInt.iv]
  rw [e] at h2
  exact ⟨h2.1, Aid.grown_tr hd h2.2⟩
def bts (l : List ByteArray) : List (List UInt8) := l.map (·.data.toList)
def unb (l : List (List UInt8)) : List ByteArray := l.map fun x => ⟨x.toArray⟩
theorem grown_grow (w : World) (os : Array Obj) (r : Option Nat) : w.grownBy (Sort.grow w os) r := by
  refine ⟨rfl, rfl, rfl, by simp [Sort.grow], fun k hk _ => ?_⟩
  show (w.heap ++ os)[k]? = w.heap[k]?
  rw [Array.getElem?_append_left hk]
end Go.Proofs.Ytpaakpbbahbhcaa.GoS

/-
  The contracts of the library functions that this program calls, laid at its own numbers by the shelf of the guide. No condition of their own: each theorem states its premises.
-/
namespace Go.Proofs
open Go.Shelf
def Try.lays128_ren : Go.Shelf.Ren := ⟨fun | 128 => 117 | n => n, fun | 51 => 115 | 3 => 3 | 4 => 4 | 46 => 100 | 5 => 5 | 9 => 9 | n => n, fun | n => n⟩
theorem Try.lays128 : Go.Proofs.Lays.n128 Try.prog Try.lays128_ren := {
  mixed := by kernel_rfl
  f128 := Try.func117.trans (congrArg some (by kernel_rfl))
  t3 := Try.underlying3
  a3 := Try.isAgg3
  z3 := Try.sizeOf3
  v3 := Try.zeroValue3
  t4 := Try.underlying4
  a4 := Try.isAgg4
  z4 := Try.sizeOf4
  v4 := Try.zeroValue4
  t5 := Try.underlying5
  a5 := Try.isAgg5
  z5 := Try.sizeOf5
  v5 := Try.zeroValue5
  t9 := Try.underlying9
  a9 := Try.isAgg9
  z9 := Try.sizeOf9
  v9 := Try.zeroValue9
  t46 := Try.underlying100
  a46 := Try.isAgg100
  z46 := Try.sizeOf100
  v46 := Try.zeroValue100
  t51 := Try.underlying115
  a51 := Try.isAgg115
  z51 := Try.sizeOf115
  v51 := Try.zeroValue115 }
/-- bits.Len32: "Len32 returns the minimum number of bits required to represent x; the result is 0 for x == 0.": IT RETURNS 'Lib.bitLen x'; the world is as it was. ('h0', 'h1': x is a uint32.) (LAID: no walk: one application.) -/
theorem Try.bits_Len32 (x : Int) (w : World) (h0 : 0 ≤ x) (h1 : x ≤ 4294967295) :
    Calls Try.prog 117 #[.int .u32 x] w fun e w' => e = .returned (.int .i64 (Lib.bitLen x.toNat)) ∧ w' = w := Any.bits_Len32 Try.lays128 x w h0 h1
def Try.lays125_ren : Go.Shelf.Ren := ⟨fun | 125 => 97 | 128 => 117 | 129 => 118 | n => n, fun | 46 => 100 | 3 => 3 | 51 => 115 | 53 => 71 | 4 => 4 | 5 => 5 | 9 => 9 | n => n, fun | n => n⟩
theorem Try.lays125 : Go.Proofs.Lays.n125 Try.prog Try.lays125_ren := {
  mixed := by kernel_rfl
  f125 := Try.func97.trans (congrArg some (by kernel_rfl))
  f128 := Try.func117.trans (congrArg some (by kernel_rfl))
  f129 := Try.func118.trans (congrArg some (by kernel_rfl))
  t3 := Try.underlying3
  a3 := Try.isAgg3
  z3 := Try.sizeOf3
  v3 := Try.zeroValue3
  t4 := Try.underlying4
  a4 := Try.isAgg4
  z4 := Try.sizeOf4
  v4 := Try.zeroValue4
  t5 := Try.underlying5
  a5 := Try.isAgg5
  z5 := Try.sizeOf5
  v5 := Try.zeroValue5
  t9 := Try.underlying9
  a9 := Try.isAgg9
  z9 := Try.sizeOf9
  v9 := Try.zeroValue9
  t46 := Try.underlying100
  a46 := Try.isAgg100
  z46 := Try.sizeOf100
  v46 := Try.zeroValue100
  t51 := Try.underlying115
  a51 := Try.isAgg115
  z51 := Try.sizeOf115
  v51 := Try.zeroValue115
  t53 := Try.underlying71
  a53 := Try.isAgg71
  z53 := Try.sizeOf71
  v53 := Try.zeroValue71 }
/-- bits.Len: "Len returns the minimum number of bits required to represent x; the result is 0 for x == 0.": IT RETURNS 'Lib.bitLen x'; the world is as it was. (A uint has 64 bits in the model.) ITS CALLEE bits.Len64 IS MET BY ITS OWN CONTRACT OFF THE SHELF (lay that first). (LAID: no walk: one application.) -/
theorem Try.bits_Len (x : Int) (w : World) (h0 : 0 ≤ x) (h1 : x ≤ 18446744073709551615) :
    Calls Try.prog 97 #[.int .u64 x] w fun e w' => e = .returned (.int .i64 (Lib.bitLen x.toNat)) ∧ w' = w := Any.bits_Len Try.lays125 x w h0 h1
def Try.lays215_ren : Go.Shelf.Ren := ⟨fun | 215 => 124 | n => n, fun | 3 => 3 | 4 => 4 | n => n, fun | n => n⟩
theorem Try.lays215 : Go.Proofs.Lays.n215 Try.prog Try.lays215_ren := {
  mixed := by kernel_rfl
  f215 := Try.func124.trans (congrArg some (by kernel_rfl))
  t3 := Try.underlying3
  a3 := Try.isAgg3
  z3 := Try.sizeOf3
  v3 := Try.zeroValue3
  t4 := Try.underlying4
  a4 := Try.isAgg4
  z4 := Try.sizeOf4
  v4 := Try.zeroValue4 }
open Go.RowKit in
/-- cmp.isNaN at int: 'x != x': false. (LAID: no walk: one application.) -/
theorem Try.cmp_isNaN_int (x : Int) (w : World) :
    Calls Try.prog 124 #[.int .i64 x] w fun e w' => e = .returned (.bool false) ∧ w' = w := Any.cmp_isNaN_int Try.lays215 x w
def Try.lays129_ren : Go.Shelf.Ren := ⟨fun | 129 => 118 | n => n, fun | 53 => 71 | 3 => 3 | 4 => 4 | 46 => 100 | 5 => 5 | 9 => 9 | n => n, fun | n => n⟩
theorem Try.lays129 : Go.Proofs.Lays.n129 Try.prog Try.lays129_ren := {
  mixed := by kernel_rfl
  f129 := Try.func118.trans (congrArg some (by kernel_rfl))
  t3 := Try.underlying3
  a3 := Try.isAgg3
  z3 := Try.sizeOf3
  v3 := Try.zeroValue3
  t4 := Try.underlying4
  a4 := Try.isAgg4
  z4 := Try.sizeOf4
  v4 := Try.zeroValue4
  t5 := Try.underlying5
  a5 := Try.isAgg5
  z5 := Try.sizeOf5
  v5 := Try.zeroValue5
  t9 := Try.underlying9
  a9 := Try.isAgg9
  z9 := Try.sizeOf9
  v9 := Try.zeroValue9
  t46 := Try.underlying100
  a46 := Try.isAgg100
  z46 := Try.sizeOf100
  v46 := Try.zeroValue100
  t53 := Try.underlying71
  a53 := Try.isAgg71
  z53 := Try.sizeOf71
  v53 := Try.zeroValue71 }
/-- bits.Len64: "Len64 returns the minimum number of bits required to represent x; the result is 0 for x == 0.": IT RETURNS 'Lib.bitLen x'; the world is as it was. ('h0', 'h1': x is a uint64.) (LAID: no walk: one application.) -/
theorem Try.bits_Len64 (x : Int) (w : World) (h0 : 0 ≤ x) (h1 : x ≤ 18446744073709551615) :
    Calls Try.prog 118 #[.int .u64 x] w fun e w' => e = .returned (.int .i64 (Lib.bitLen x.toNat)) ∧ w' = w := Any.bits_Len64 Try.lays129 x w h0 h1
def Try.lays189_ren : Go.Shelf.Ren := ⟨fun | 189 => 75 | 125 => 97 | 257 => 96 | 128 => 117 | 129 => 118 | 294 => 108 | 295 => 109 | 296 => 110 | 297 => 111 | 298 => 112 | 299 => 113 | 216 => 114 | 300 => 115 | 301 => 116 | 328 => 119 | 329 => 120 | 330 => 121 | 331 => 122 | 332 => 123 | 215 => 124 | 343 => 125 | n => n, fun | 28 => 32 | 3 => 3 | 46 => 100 | 0 => 0 | 51 => 115 | 53 => 71 | 4 => 4 | 183 => 109 | 182 => 108 | 131 => 27 | 5 => 5 | 9 => 9 | 218 => 117 | 222 => 121 | 228 => 123 | 229 => 124 | n => n, fun | n => n⟩
theorem Try.lays189 : Go.Proofs.Lays.n189 Try.prog Try.lays189_ren := {
  mixed := by kernel_rfl
  f125 := Try.func97.trans (congrArg some (by kernel_rfl))
  f128 := Try.func117.trans (congrArg some (by kernel_rfl))
  f129 := Try.func118.trans (congrArg some (by kernel_rfl))
  f189 := Try.func75.trans (congrArg some (by kernel_rfl))
  f215 := Try.func124.trans (congrArg some (by kernel_rfl))
  f216 := Try.func114.trans (congrArg some (by kernel_rfl))
  f257 := Try.func96.trans (congrArg some (by kernel_rfl))
  f294 := Try.func108.trans (congrArg some (by kernel_rfl))
  f295 := Try.func109.trans (congrArg some (by kernel_rfl))
  f296 := Try.func110.trans (congrArg some (by kernel_rfl))
  f297 := Try.func111.trans (congrArg some (by kernel_rfl))
  f298 := Try.func112.trans (congrArg some (by kernel_rfl))
  f299 := Try.func113.trans (congrArg some (by kernel_rfl))
  f300 := Try.func115.trans (congrArg some (by kernel_rfl))
  f301 := Try.func116.trans (congrArg some (by kernel_rfl))
  f328 := Try.func119.trans (congrArg some (by kernel_rfl))
  f329 := Try.func120.trans (congrArg some (by kernel_rfl))
  f330 := Try.func121.trans (congrArg some (by kernel_rfl))
  f331 := Try.func122.trans (congrArg some (by kernel_rfl))
  f332 := Try.func123.trans (congrArg some (by kernel_rfl))
  f343 := Try.func125.trans (congrArg some (by kernel_rfl))
  t0 := Try.underlying0
  a0 := Try.isAgg0
  z0 := Try.sizeOf0
  v0 := Try.zeroValue0
  t3 := Try.underlying3
  a3 := Try.isAgg3
  z3 := Try.sizeOf3
  v3 := Try.zeroValue3
  t4 := Try.underlying4
  a4 := Try.isAgg4
  z4 := Try.sizeOf4
  v4 := Try.zeroValue4
  t5 := Try.underlying5
  a5 := Try.isAgg5
  z5 := Try.sizeOf5
  v5 := Try.zeroValue5
  t9 := Try.underlying9
  a9 := Try.isAgg9
  z9 := Try.sizeOf9
  v9 := Try.zeroValue9
  t28 := Try.underlying32
  a28 := Try.isAgg32
  z28 := Try.sizeOf32
  v28 := Try.zeroValue32
  t46 := Try.underlying100
  a46 := Try.isAgg100
  z46 := Try.sizeOf100
  v46 := Try.zeroValue100
  t51 := Try.underlying115
  a51 := Try.isAgg115
  z51 := Try.sizeOf115
  v51 := Try.zeroValue115
  t53 := Try.underlying71
  a53 := Try.isAgg71
  z53 := Try.sizeOf71
  v53 := Try.zeroValue71
  t131 := Try.underlying27
  a131 := Try.isAgg27
  z131 := Try.sizeOf27
  v131 := Try.zeroValue27
  t182 := Try.underlying108
  a182 := Try.isAgg108
  z182 := Try.sizeOf108
  v182 := Try.zeroValue108
  t183 := Try.underlying109
  a183 := Try.isAgg109
  z183 := Try.sizeOf109
  v183 := Try.zeroValue109
  t218 := Try.underlying117
  a218 := Try.isAgg117
  z218 := Try.sizeOf117
  v218 := Try.zeroValue117
  t222 := Try.underlying121
  a222 := Try.isAgg121
  z222 := Try.sizeOf121
  v222 := Try.zeroValue121
  t228 := Try.underlying123
  a228 := Try.isAgg123
  z228 := Try.sizeOf123
  v228 := Try.zeroValue123
  t229 := Try.underlying124
  a229 := Try.isAgg124
  z229 := Try.sizeOf124
  v229 := Try.zeroValue124 }
open Go.Sort Go.RowKit in
theorem Try.slices_Sort_int (blk off cap : Nat) (zs : List Int) (w : World) (hH : Holds (Value.int .i64) w blk off zs.toArray) (hblk : blk < w.heap.size) (hsz : zs.length < 4611686018427387904) :
    Calls Try.prog 75 #[.slice (some ⟨blk, off, none⟩) zs.length cap] w fun e w' =>
      e = .returned (.tuple #[]) ∧ ∃ n os, w' = grow (putRow (Value.int .i64) (Sort.ahead w n) blk off (zs.mergeSort fun x y => decide (x ≤ y)).toArray) os := Any.slices_Sort_int Try.lays189 blk off cap zs w hH hblk hsz
def Try.lays108_ren : Go.Shelf.Ren := ⟨fun | 108 => 100 | n => n, fun | 28 => 32 | 3 => 3 | 0 => 0 | 4 => 4 | n => n, fun | n => n⟩
theorem Try.lays108 : Go.Proofs.Lays.n108 Try.prog Try.lays108_ren := {
  mixed := by kernel_rfl
  f108 := Try.func100.trans (congrArg some (by kernel_rfl))
  t0 := Try.underlying0
  a0 := Try.isAgg0
  z0 := Try.sizeOf0
  v0 := Try.zeroValue0
  t3 := Try.underlying3
  a3 := Try.isAgg3
  z3 := Try.sizeOf3
  v3 := Try.zeroValue3
  t4 := Try.underlying4
  a4 := Try.isAgg4
  z4 := Try.sizeOf4
  v4 := Try.zeroValue4
  t28 := Try.underlying32
  a28 := Try.isAgg32
  z28 := Try.sizeOf32
  v28 := Try.zeroValue32 }
open Go.Lib in
/-- slices.Index at []int: "Index returns the index of the first occurrence of v in s, or -1 if not present.": IT RETURNS 'Lib.idxOf (the elements) v'; the world is as it was. 'zs': what the cells behind the slice's address hold (its spare capacity too, if you have it); 'zs.take n': its elements. (LAID: no walk: one application.) -/
theorem Try.slices_Index_int (b off n c : Nat) (zs : List Int) (x : Int) (w : World) (hz : n ≤ zs.length) (hbig : n ≤ 9223372036854775807) (hc : ∀ j, j < zs.length → w.cell? ⟨b, off + j, none⟩ = some (.int .i64 (zs.getD j 0))) :
    Calls Try.prog 100 #[.slice (some ⟨b, off, none⟩) n c, .int .i64 x] w fun e w' => e = .returned (.int .i64 (Lib.idxOf (zs.take n) x)) ∧ w' = w := Any.slices_Index_int Try.lays108 b off n c zs x w hz hbig hc
open Go.Lib in
/-- The same at a slice of length 0, a nil one too: no cell is known, none is asked for. (LAID: no walk: one application.) -/
theorem Try.slices_Index_int_empty (a : Option Addr) (c : Nat) (x : Int) (w : World) :
    Calls Try.prog 100 #[.slice a 0 c, .int .i64 x] w fun e w' => e = .returned (.int .i64 (Lib.idxOf [] x)) ∧ w' = w := Any.slices_Index_int_empty Try.lays108 a c x w
def Try.lays107_ren : Go.Shelf.Ren := ⟨fun | 107 => 86 | 108 => 100 | n => n, fun | 28 => 32 | 3 => 3 | 4 => 4 | 0 => 0 | n => n, fun | n => n⟩
theorem Try.lays107 : Go.Proofs.Lays.n107 Try.prog Try.lays107_ren := {
  mixed := by kernel_rfl
  f107 := Try.func86.trans (congrArg some (by kernel_rfl))
  f108 := Try.func100.trans (congrArg some (by kernel_rfl))
  t0 := Try.underlying0
  a0 := Try.isAgg0
  z0 := Try.sizeOf0
  v0 := Try.zeroValue0
  t3 := Try.underlying3
  a3 := Try.isAgg3
  z3 := Try.sizeOf3
  v3 := Try.zeroValue3
  t4 := Try.underlying4
  a4 := Try.isAgg4
  z4 := Try.sizeOf4
  v4 := Try.zeroValue4
  t28 := Try.underlying32
  a28 := Try.isAgg32
  z28 := Try.sizeOf32
  v28 := Try.zeroValue32 }
open Go.Lib in
/-- slices.Contains at []int: "Contains reports whether v is present in s.": IT RETURNS 'elements.contains v'; the world is as it was. ITS CALLEE slices.Index IS MET BY ITS OWN CONTRACT OFF THE SHELF (lay that first): no loop is walked here. (LAID: no walk: one application.) -/
theorem Try.slices_Contains_int (b off n c : Nat) (zs : List Int) (x : Int) (w : World) (hz : n ≤ zs.length) (hbig : n ≤ 9223372036854775807) (hc : ∀ j, j < zs.length → w.cell? ⟨b, off + j, none⟩ = some (.int .i64 (zs.getD j 0))) :
    Calls Try.prog 86 #[.slice (some ⟨b, off, none⟩) n c, .int .i64 x] w fun e w' => e = .returned (.bool ((zs.take n).contains x)) ∧ w' = w := Any.slices_Contains_int Try.lays107 b off n c zs x w hz hbig hc
open Go.Lib in
/-- The same at a slice of length 0, a nil one too. (LAID: no walk: one application.) -/
theorem Try.slices_Contains_int_empty (a : Option Addr) (c : Nat) (x : Int) (w : World) :
    Calls Try.prog 86 #[.slice a 0 c, .int .i64 x] w fun e w' => e = .returned (.bool false) ∧ w' = w := Any.slices_Contains_int_empty Try.lays107 a c x w
def Try.laysNm215_ren : Go.Shelf.Ren := ⟨fun | 15 => 81 | n => n, fun | 22 => 32 | 3 => 3 | 4 => 4 | n => n, fun | n => n⟩
theorem Try.laysNm215 : Go.Proofs.Lays2.n15 Try.prog Try.laysNm215_ren := {
  mixed := by kernel_rfl
  f15 := Try.func81.trans (congrArg some (by kernel_rfl))
  t3 := Try.underlying3
  a3 := Try.isAgg3
  z3 := Try.sizeOf3
  v3 := Try.zeroValue3
  t4 := Try.underlying4
  a4 := Try.isAgg4
  z4 := Try.sizeOf4
  v4 := Try.zeroValue4
  t22 := Try.underlying32
  a22 := Try.isAgg32
  z22 := Try.sizeOf32
  v22 := Try.zeroValue32
  i3 := by kernel_rfl }
open Go.RowKit Go.Lib in
/-- slices.Clone at []int: "Clone returns a copy of the slice. The elements are copied using assignment, so this is a shallow clone. The result may have additional unused capacity. The result preserves the nilness of s.": OF A SLICE THAT IS NOT nil IT RETURNS A SLICE THAT IS NOT nil, OF THE SAME ELEMENTS, IN MEMORY OF THE CALL's OWN: in the how-to's words (6f): 'w'.ownsRow B e 1 v' n cells': v' begins at the head of a row among the blocks from B on (B: the heap's size at the call), not frozen, whose first cells are the elements · 'Below B w w'': below B all is as it was. The capacity is whatever the run-time gives. 'zs': what the cells behind the slice's address hold; 'zs.take n': its elements. (LAID: no walk: one application.) -/
theorem Try.slices_Clone_int (b off n c : Nat) (zs : List Int) (w : World) (hz : n ≤ zs.length) (hbig : n * 8 ≤ 140737488355328) (hc : ∀ j, j < zs.length → w.cell? ⟨b, off + j, none⟩ = some (.int .i64 (zs.getD j 0))) :
    Calls Try.prog 81 #[.slice (some ⟨b, off, none⟩) n c] w fun e w' => ∃ v', e = .returned v' ∧ w'.ownsRow w.heap.size 3 1 v' n ((zs.take n).map (Value.int .i64)) ∧ v' ≠ .slice none 0 0 ∧ Below w.heap.size w w' := Any.slices_Clone_int Try.laysNm215 b off n c zs w hz hbig hc
open Go.RowKit Go.Lib in
/-- The same at nil: nil comes back; the world is as it was. (LAID: no walk: one application.) -/
theorem Try.slices_Clone_int_nil (n c : Nat) (w : World) :
    Calls Try.prog 81 #[.slice none n c] w fun e w' => e = .returned (.slice none 0 0) ∧ w' = w := Any.slices_Clone_int_nil Try.laysNm215 n c w
open Go.RowKit Go.Lib in
/-- The same at a slice of length 0 that is not nil, WHATEVER ITS ADDRESS (no cell is asked for): a slice that is not nil and owns nothing comes back. (LAID: no walk: one application.) -/
theorem Try.slices_Clone_int_zero (a : Addr) (c : Nat) (w : World) :
    Calls Try.prog 81 #[.slice (some a) 0 c] w fun e w' => ∃ v', e = .returned v' ∧ w'.ownsRow w.heap.size 3 1 v' 0 [] ∧ v' ≠ .slice none 0 0 ∧ Below w.heap.size w w' := Any.slices_Clone_int_zero Try.laysNm215 a c w
def Try.laysNm220_ren : Go.Shelf.Ren := ⟨fun | 20 => 76 | n => n, fun | 22 => 32 | 3 => 3 | 4 => 4 | 0 => 0 | n => n, fun | n => n⟩
theorem Try.laysNm220 : Go.Proofs.Lays2.n20 Try.prog Try.laysNm220_ren := {
  mixed := by kernel_rfl
  f20 := Try.func76.trans (congrArg some (by kernel_rfl))
  t0 := Try.underlying0
  a0 := Try.isAgg0
  z0 := Try.sizeOf0
  v0 := Try.zeroValue0
  t3 := Try.underlying3
  a3 := Try.isAgg3
  z3 := Try.sizeOf3
  v3 := Try.zeroValue3
  t4 := Try.underlying4
  a4 := Try.isAgg4
  z4 := Try.sizeOf4
  v4 := Try.zeroValue4
  t22 := Try.underlying32
  a22 := Try.isAgg32
  z22 := Try.sizeOf32
  v22 := Try.zeroValue32
  i3 := by kernel_rfl }
open Go.RowKit Go.Lib Go.Sort in
/-- slices.Compact at []int, over an array: the library's two loops are walked. (LAID: no walk: one application.) -/
theorem Try.slices_Compact_int_arr (blk off cap : Nat) (d : Array Int) (w : World) (hH : Holds encI w blk off d) (hsz : d.size ≤ 9223372036854775807) (hcap : d.size ≤ cap) :
    Calls Try.prog 76 #[.slice (some ⟨blk, off, none⟩) d.size cap] w fun e w' => e = .returned (.slice (some ⟨blk, off, none⟩) (compactUpTo d d.size).length cap) ∧ ∃ q, w' = putRow encI (Sort.ahead w q) blk off (compactUpTo d d.size ++ List.replicate (d.size - (compactUpTo d d.size).length) 0).toArray := Any.slices_Compact_int_arr Try.laysNm220 blk off cap d w hH hsz hcap
open Go.RowKit Go.Lib Go.Sort in
/-- slices.Compact at []int: "Compact replaces consecutive runs of equal elements with a single copy. This is like the uniq command found on Unix. Compact modifies the contents of the slice s and returns the modified slice, which may have a smaller length. Compact zeroes the elements between the new length and the original length. The result preserves the nilness of s.": IT RETURNS THE SLICE CUT TO 'Lib.compact zs'; ITS CELLS HOLD 'Lib.compact zs', THEN ZERO VALUES up to the old length; all else is as it was, but for the count of draws. IN THE WORDS OF slices.Sort's CONTRACT ('Holds', 'putRow'): so the everyday 'slices.Sort(xs); xs = slices.Compact(xs)' goes from the one contract to the other. It asks 'zs.length ≤ cap' (every slice's: the reslicing 's[:k]' looks at it). Length 0, nil: '.._empty'. (LAID: no walk: one application.) -/
theorem Try.slices_Compact_int (blk off cap : Nat) (zs : List Int) (w : World) (hH : Holds (Value.int .i64) w blk off zs.toArray) (hsz : zs.length ≤ 9223372036854775807) (hcap : zs.length ≤ cap) :
    Calls Try.prog 76 #[.slice (some ⟨blk, off, none⟩) zs.length cap] w fun e w' => e = .returned (.slice (some ⟨blk, off, none⟩) (Lib.compact zs).length cap) ∧ ∃ q, w' = putRow (Value.int .i64) (Sort.ahead w q) blk off (Lib.compact zs ++ List.replicate (zs.length - (Lib.compact zs).length) 0).toArray := Any.slices_Compact_int Try.laysNm220 blk off cap zs w hH hsz hcap
open Go.RowKit Go.Lib Go.Sort in
/-- The same at a slice of length 0, a nil one too: it comes back as it is. (LAID: no walk: one application.) -/
theorem Try.slices_Compact_int_empty (a : Option Addr) (cap : Nat) (w : World) :
    Calls Try.prog 76 #[.slice a 0 cap] w fun e w' => e = .returned (.slice a 0 cap) ∧ w' = w := Any.slices_Compact_int_empty Try.laysNm220 a cap w
def Try.laysNm237_ren : Go.Shelf.Ren := ⟨fun | 37 => 124 | n => n, fun | 3 => 3 | 4 => 4 | n => n, fun | n => n⟩
theorem Try.laysNm237 : Go.Proofs.Lays2.n37 Try.prog Try.laysNm237_ren := {
  mixed := by kernel_rfl
  f37 := Try.func124.trans (congrArg some (by kernel_rfl))
  t3 := Try.underlying3
  a3 := Try.isAgg3
  z3 := Try.sizeOf3
  v3 := Try.zeroValue3
  t4 := Try.underlying4
  a4 := Try.isAgg4
  z4 := Try.sizeOf4
  v4 := Try.zeroValue4 }
open Go.RowKit Go.Lib in
/-- cmp.isNaN[int]: 'x != x': false. (LAID: no walk: one application.) -/
theorem Try.cmp_isNaN_int2 (x : Int) (w : World) :
    Calls Try.prog 124 #[.int .i64 x] w fun e w' => e = .returned (.bool false) ∧ w' = w := Any.cmp_isNaN_int2 Try.laysNm237 x w
def Try.laysNm231_ren : Go.Shelf.Ren := ⟨fun | 31 => 114 | 37 => 124 | n => n, fun | 3 => 3 | 4 => 4 | n => n, fun | n => n⟩
theorem Try.laysNm231 : Go.Proofs.Lays2.n31 Try.prog Try.laysNm231_ren := {
  mixed := by kernel_rfl
  f31 := Try.func114.trans (congrArg some (by kernel_rfl))
  f37 := Try.func124.trans (congrArg some (by kernel_rfl))
  t3 := Try.underlying3
  a3 := Try.isAgg3
  z3 := Try.sizeOf3
  v3 := Try.zeroValue3
  t4 := Try.underlying4
  a4 := Try.isAgg4
  z4 := Try.sizeOf4
  v4 := Try.zeroValue4 }
open Go.RowKit Go.Lib in
/-- cmp.Less[int]: "Less reports whether x is less than y.": 'x < y'; the world is as it was. (LAID: no walk: one application.) -/
theorem Try.cmp_Less_int2 (x y : Int) (w : World) :
    Calls Try.prog 114 #[.int .i64 x, .int .i64 y] w fun e w' => e = .returned (.bool (decide (x < y))) ∧ w' = w := Any.cmp_Less_int2 Try.laysNm231 x y w
open Go.RowKit Go.Lib Go.Sort in
/-- slices.Compact at []int, of an argument: the slice cut to 'Lib.compact (elements)'; the n cells hold that, then zeros. (LAID: no walk: one application.) -/
theorem Try.slices_Compact_int_cells (b off n c : Nat) (zs : List Int) (w : World) (hz : n ≤ zs.length) (hbig : n ≤ 9223372036854775807) (hcap : n ≤ c) (hc : ∀ j, j < zs.length → w.cell? ⟨b, off + j, none⟩ = some (.int .i64 (zs.getD j 0))) (hf : ∀ j, j < n → w.frozen? ⟨b, off + j, none⟩ = false) :
    Calls Try.prog 76 #[.slice (some ⟨b, off, none⟩) n c] w fun e w' => e = .returned (.slice (some ⟨b, off, none⟩) (Lib.compact (zs.take n)).length c) ∧ ∃ q, w' = (w.drewN q).setCells b off ((Lib.compact (zs.take n) ++ List.replicate (n - (Lib.compact (zs.take n)).length) 0).map (Value.int .i64)) := Any.slices_Compact_int_cells Try.laysNm220 b off n c zs w hz hbig hcap hc hf
open Go.RowKit Go.Sort in
/-- .. and plain. (LAID: no walk: one application.) -/
theorem Try.slices_Sort_int_none (p : Option Addr) (cap : Nat) (w : World) :
    Calls Try.prog 75 #[.slice p 0 cap] w fun e w' => e = .returned (.tuple #[]) ∧ w' = w := Any.slices_Sort_int_none Try.lays189 p cap w
def Try.laysSlE041_f81_ren : Go.Shelf.Ren := ⟨fun | 41 => 81 | n => n, fun | 22 => 32 | 23 => 3 | 4 => 4 | n => n, fun | n => n⟩
theorem Try.laysSlE041_f81 : Go.Proofs.SlLaysE0.n41 Try.prog Try.laysSlE041_f81_ren := {
  mixed := by kernel_rfl
  f41 := ⟨Try.f81.name, by decide, Try.func81.trans (congrArg some (by kernel_rfl))⟩
  t4 := Try.underlying4
  a4 := Try.isAgg4
  z4 := Try.sizeOf4
  v4 := Try.zeroValue4
  t22 := Try.underlying32
  a22 := Try.isAgg32
  z22 := Try.sizeOf32
  v22 := Try.zeroValue32 }
open Go.RowKit Go.Lib in
/-- slices.Clone: "Clone returns a copy of the slice. The elements are copied using assignment, so this is a shallow clone. The result may have additional unused capacity. The result preserves the nilness of s.": OF A SLICE THAT IS NOT nil IT RETURNS A SLICE THAT IS NOT nil, OF THE SAME CELLS, IN MEMORY OF THE CALL's OWN ('ownsRow': the how-to's 6f); below the heap's size at the call all is as it was. (LAID AT THE INSTANCE 'slices.Clone[[]int,int]': no walk: one application.) -/
theorem Try.slices_Clone (i0 : TypeInfo) (z : Value) (size bytes : Nat) (hi : Try.prog.info? 3 = some i0) (hz0 : i0.zero = some z) (hz1 : i0.size = size) (hz2 : i0.bytes = bytes) (hzs : z.cells.size = size) (hsz : 0 < size) (z23 : ∀ w, (Go.sizeOf 3).run Try.prog w = .ok size w) (b off n c : Nat) (news : List Value) (w : World) (hl : news.length = n * size) (hn : n ≤ maxLen) (hbig : n * bytes ≤ 140737488355328) (hc : ∀ j u, news[j]? = some u → w.cell? ⟨b, off + j, none⟩ = some u) (h1 : ∀ u ∈ news, u.oneCell' = true) :
    Calls Try.prog 81 #[.slice (some ⟨b, off, none⟩) n c] w fun e w' => ∃ v', e = .returned v' ∧ w'.ownsRow w.heap.size 3 size v' n news ∧ v' ≠ .slice none 0 0 ∧ Below w.heap.size w w' := AnyE.slices_Clone Try.laysSlE041_f81 i0 z size bytes hi hz0 hz1 hz2 hzs hsz z23 b off n c news w hl hn hbig hc h1
open Go.RowKit Go.Lib in
/-- The same at nil: nil comes back; the world is as it was; nothing is asked of the element's type. (LAID AT THE INSTANCE 'slices.Clone[[]int,int]': no walk: one application.) -/
theorem Try.slices_Clone_nil (n c : Nat) (w : World) :
    Calls Try.prog 81 #[.slice none n c] w fun e w' => e = .returned (.slice none 0 0) ∧ w' = w := AnyE.slices_Clone_nil Try.laysSlE041_f81 n c w
end Go.Proofs

/- slices.Sort of numbers as a plain function; the contract of the program's. No condition. -/
namespace Go.Proofs.Ytpaakpbbahbhcaa.GxSlicesSortIntInt
set_option linter.unusedVariables false
open Go.RowKit
open Go.Proofs.Ytpaakpbbahbhcaa.Turn Go.Proofs.Ytpaakpbbahbhcaa.GoM
def P (x_0 : List Int) : Option (List Int) := if x_0.length < 4611686018427387904 then some (x_0.mergeSort fun x y => decide (x ≤ y)) else none
theorem C (x_0 : List Int) (A0 : Option Addr) (c0 : Nat) (b0 : Nat) (w : World) (M0 : Hid (w.ownsRow b0 3 1 (.slice A0 x_0.length c0) x_0.length (Go.Proofs.Ytpaakpbbahbhcaa.HelpInt.iv x_0))) (N0 : Hid (x_0.length ≤ 9223372036854775807)) {l_ : List Int} (H : Hid (P x_0 = some l_)) :
    Calls Try.prog 75 #[.slice A0 x_0.length c0] w (fun e w' => e = .returned (.tuple #[]) ∧ w'.ownsRow b0 3 1 (.slice A0 x_0.length c0) x_0.length (Go.Proofs.Ytpaakpbbahbhcaa.HelpInt.iv l_) ∧ l_.length = x_0.length ∧ w.grownBy w' (Value.slice A0 x_0.length c0).ownBlock) := by
  have h : P x_0 = some l_ := H
  unfold P at h
  by_cases hl : x_0.length < 4611686018427387904
  · rw [if_pos hl] at h
    obtain rfl := Option.some.inj h
    have M := M0.out
    by_cases hz : x_0 = []
    · subst hz
      refine (Try.slices_Sort_int_none A0 c0 w).mono ?_
      rintro e w' ⟨rfl, rfl⟩
      have e0 : (([] : List Int).mergeSort fun x y => decide (x ≤ y)) = [] := List.eq_nil_of_length_eq_zero (by simp)
      rw [e0]
      exact ⟨rfl, M, rfl, Aid.grown_refl _ _⟩
    · have hpos : 0 < x_0.length := List.length_pos_iff.2 hz
      obtain ⟨g, rfl⟩ := own_some M hpos
      have hg := (M.lt g (by simp [Value.ownBlock])).2
      refine (Try.slices_Sort_int g 0 c0 x_0 w (Go.Proofs.Ytpaakpbbahbhcaa.GoS.own_holds rfl M) hg hl).mono ?_
      rintro e w' ⟨rfl, n, os, rfl⟩
      have hm : (x_0.mergeSort fun x y => decide (x ≤ y)).length = x_0.length := List.length_mergeSort _
      obtain ⟨h1, h2⟩ := Go.Proofs.Ytpaakpbbahbhcaa.GoS.own_put (m := x_0.mergeSort fun x y => decide (x ≤ y)) rfl hm M n
      have h3 := Go.Proofs.Ytpaakpbbahbhcaa.GoS.grown_grow (Sort.putRow (Value.int .i64) (Sort.ahead w n) g 0 (x_0.mergeSort fun x y => decide (x ≤ y)).toArray) os none
      exact ⟨rfl, h1.kept h3 (by simp [Value.ownBlock]), hm, Aid.grown_tr h2 (Go.Proofs.Ytpaakpbbahbhcaa.GoS.grown_grow _ os _)⟩
  · rw [if_neg hl] at h; simp at h
end Go.Proofs.Ytpaakpbbahbhcaa.GxSlicesSortIntInt

/- slices.Compact of numbers as a plain function; the contract of the program's. No condition. -/
namespace Go.Proofs.Ytpaakpbbahbhcaa.GxSlicesCompactIntInt
set_option linter.unusedVariables false
open Go.RowKit
open Go.Proofs.Ytpaakpbbahbhcaa.Turn Go.Proofs.Ytpaakpbbahbhcaa.GoM
def P (s_0 : List Int) : Option (List Int) := some (Lib.compact s_0)
theorem C (s_0 : List Int) (A0 : Option Addr) (c0 : Nat) (b0 : Nat) (w : World) (M0 : Hid (w.ownsRow b0 3 1 (.slice A0 s_0.length c0) s_0.length (Go.Proofs.Ytpaakpbbahbhcaa.HelpInt.iv s_0))) (N0 : Hid (s_0.length ≤ 9223372036854775807)) (LB : Hid (b0 ≤ w.heap.size)) {r : List Int} (H : Hid (P s_0 = some r)) :
    Calls Try.prog 76 #[.slice A0 s_0.length c0] w (fun e w' => ∃ A_r c_r, e = .returned (.slice A_r r.length c_r) ∧ w'.ownsRow b0 3 1 (.slice A_r r.length c_r) r.length (Go.Proofs.Ytpaakpbbahbhcaa.HelpInt.iv r) ∧ w.grownBy w' (Value.slice A0 s_0.length c0).ownBlock ∧ Go.Proofs.Ytpaakpbbahbhcaa.GoK.From w A0 A_r) := by
  have h : P s_0 = some r := H
  unfold P at h
  obtain rfl := Option.some.inj h
  have M := M0.out
  by_cases hz : s_0 = []
  · subst hz
    refine (Try.slices_Compact_int_empty A0 c0 w).mono ?_
    rintro e w' ⟨rfl, rfl⟩
    exact ⟨A0, c0, rfl, M, Aid.grown_refl _ _, Go.Proofs.Ytpaakpbbahbhcaa.GoK.from_self⟩
  · have hpos : 0 < s_0.length := List.length_pos_iff.2 hz
    obtain ⟨g, rfl⟩ := own_some M hpos
    have hle := Lib.compact_length_le s_0
    have hR := own_room M
    refine (Try.slices_Compact_int g 0 c0 s_0 w (Go.Proofs.Ytpaakpbbahbhcaa.GoS.own_holds rfl M) N0.out hR.1).mono ?_
    rintro e w' ⟨rfl, q, rfl⟩
    obtain ⟨h1, h2⟩ := Go.Proofs.Ytpaakpbbahbhcaa.GoS.own_put (m := Lib.compact s_0 ++ List.replicate (s_0.length - (Lib.compact s_0).length) 0) rfl (by rw [List.length_append, List.length_replicate]; omega) M q
    obtain ⟨i0, hi, hz0, hz1, hz2⟩ := Aid.info_parts (P := Try.prog) (T := 3) (z := .int .i64 0) (s := 1) (b := 8) (by kernel_rfl)
    have h3 := (slice_head (P := Try.prog) (t := 32) (k := .i64) (hi := ((Lib.compact s_0).length : Int)) (m := (Lib.compact s_0).length) (ys := Go.Proofs.Ytpaakpbbahbhcaa.HelpInt.iv (Lib.compact s_0)) (by kernel_rfl) (by kernel_rfl) hi hz1 h1 ⟨by omega, by omega⟩ (by omega) (by
      unfold Go.Proofs.Ytpaakpbbahbhcaa.HelpInt.iv
      rw [List.map_append, Int.toNat_natCast, Nat.mul_one, List.take_left' (by simp)])).2
    exact ⟨_, c0, rfl, h3, h2, Go.Proofs.Ytpaakpbbahbhcaa.GoK.from_self⟩
end Go.Proofs.Ytpaakpbbahbhcaa.GxSlicesCompactIntInt

/- loop.example/g01062/impl.TraitsSeen as a plain function, and the contract of the program's: where the plain one has an answer, the program has it. Conditions: slices read as lists. -/
namespace Go.Proofs.Ytpaakpbbahbhcaa.GiTraitsSeen
set_option linter.unusedVariables false
set_option linter.unusedSimpArgs false
open Go.RowKit
open Go.Proofs.Ytpaakpbbahbhcaa.Rowed Go.Proofs.Ytpaakpbbahbhcaa.Turn Go.Proofs.Ytpaakpbbahbhcaa.Aid Go.Proofs.Ytpaakpbbahbhcaa.GoP Go.Proofs.Ytpaakpbbahbhcaa.GoM

def l0 (t_5 : (List Go.Proofs.Ytpaakpbbahbhcaa.PSighting.Sighting)) (k0 : Nat) (s : (List Int)) (nx0 bk0 : (List Int) → Option ((List Int) × Bool)) : Option ((List Int) × Bool) :=
  letK s fun traits_9l0 =>
  Option.bind (idx t_5 (k0 : Int)) fun (yt_13 : Go.Proofs.Ytpaakpbbahbhcaa.PSighting.Sighting) =>
  unSighting yt_13 fun (t_13_id : Int) (t_13_year : Int) (t_13_town : ByteArray) (t_13_traits : (List Int)) =>
  guardK (traits_9l0.length + t_13_traits.length ≤ 1099511627776) <|
  letK (traits_9l0 ++ t_13_traits) fun (t_20 : (List Int)) =>
  appK nx0 (t_20)

def e0 (t_5 : (List Go.Proofs.Ytpaakpbbahbhcaa.PSighting.Sighting)) (s : (List Int)) : Option ((List Int) × Bool) :=
  letK s fun traits_9l0 =>
  Option.bind (Go.Proofs.Ytpaakpbbahbhcaa.GxSlicesSortIntInt.P traits_9l0) fun (lt_25 : (List Int)) =>
  Option.bind (Go.Proofs.Ytpaakpbbahbhcaa.GxSlicesCompactIntInt.P lt_25) fun (t_27 : (List Int)) =>
  letK (decide (0 < (t_5.length : Int))) fun (t_30 : Bool) =>
  some (t_27, t_30)

def P (list : (List Go.Proofs.Ytpaakpbbahbhcaa.PSighting.Sighting)) (limit : Int) (id : Int) : Option ((List Int) × Bool) :=
  Option.bind (Go.Proofs.Ytpaakpbbahbhcaa.GiCoverWith.P list limit id) fun (t_5 : (List Go.Proofs.Ytpaakpbbahbhcaa.PSighting.Sighting)) =>
  cntK (l0 t_5) (t_5.length) 0 (([] : List Int)) (e0 t_5)

set_option maxRecDepth 100000 in
set_option maxHeartbeats 2000000 in
theorem C (list : (List Go.Proofs.Ytpaakpbbahbhcaa.PSighting.Sighting)) (limit : Int) (id : Int) (A0 : Option Addr) (c0 : Nat)  (w : World) (M0 : Hid (Go.Proofs.Ytpaakpbbahbhcaa.GoV.ReadNest w Go.Proofs.Ytpaakpbbahbhcaa.GoVSighting.lay A0 list)) (N0 : Hid (list.length ≤ 9223372036854775807)) (Q0 : Hid (Room A0 list.length c0))  {r0 : (List Int)} {r1 : Bool} (H : Hid (P list limit id = some (r0, r1))) :
    Calls Try.prog 45 #[.slice A0 list.length c0, .int .i64 limit, .int .i64 id] w (fun e w' => ∃ A_r0 c_r0, e = .returned (.tuple #[.slice A_r0 r0.length c_r0, .bool r1]) ∧ w'.ownsRow w.heap.size 3 1 (.slice A_r0 r0.length c_r0) r0.length (Go.Proofs.Ytpaakpbbahbhcaa.HelpInt.iv r0) ∧ Below w.heap.size w w') := by
  have HB := Lib.hid (Below.refl w.heap.size w)
  unfold P at H
  have N0o := N0.out
  obtain ⟨i0_3, hi_3, hz0_3, hz1_3, hz2_3⟩ := Aid.info_parts (P := Try.prog) (T := 3) (z := .int .i64 0) (s := 1) (b := 8) (by kernel_rfl)
  go_enter Try.func45, Try.ntmps45
  replace H := bind_hid H
  obtain ⟨t_5, qt_5, H⟩ := H
  go_wp2_with fail
  go_at_call 74
  refine (Go.Proofs.Ytpaakpbbahbhcaa.GiCoverWith.C (list) (limit) (id) A0 c0 w _ (Lib.hid HB.out)   M0 N0 Q0 qt_5).mono ?_
  rintro e_t_5 wt_5 ⟨At_5, ct_5, rfl, ⟨Bt_5, ot_5⟩, bt_5⟩
  have Ot_5 := Lib.hid (Go.Proofs.Ytpaakpbbahbhcaa.GoV.part_lower ot_5 HB.out.size)
  clear ot_5
  have HBwt_5 := Lib.hid (Below.step HB.out bt_5)
  clear bt_5
  obtain ⟨w_t_7, hw_t_7⟩ : ∃ x, wt_5.alloc (.cells #[] 3) = x := ⟨_, rfl⟩
  have bw_t_7 : Below wt_5.heap.size wt_5 w_t_7 := by rw [← hw_t_7]; exact (Below.refl _ _).alloc (Nat.le_refl _) _
  have Ot_7 : Hid (w_t_7.ownsRow w.heap.size 3 1 (.slice (some ⟨wt_5.heap.size, 0, none⟩) 0 0) 0 []) := Lib.hid (by rw [← hw_t_7]; exact own_empty HBwt_5.out.size)
  have Dt_7_t_5 := Lib.hid (Go.Proofs.Ytpaakpbbahbhcaa.GoV.part_fresh Ot_5.out)
  have HBw_t_7 := Lib.hid (Below.step HBwt_5.out bw_t_7)
  replace Ot_5 := Lib.hid (Go.Proofs.Ytpaakpbbahbhcaa.GoV.part_below Ot_5.out bw_t_7)
  clear bw_t_7
  have hb_0 : t_5.length ≤ 9223372036854775807 := Go.Proofs.Ytpaakpbbahbhcaa.GoV.part_max Ot_5.out
  go_wp2_with fail
  go_loopg [19, 9] (t_5.length) (fun m_ v19_ v9_ wr => ∃ (k0 : Nat) (traits_9l0 : (List Int)) (Atraits_9l0 : Option Addr) (ctraits_9l0 : Nat), k0 + m_ = t_5.length ∧ v19_ = .int .i64 (k0 : Int) ∧ v9_ = .slice Atraits_9l0 traits_9l0.length ctraits_9l0 ∧ Hid (cntK (l0 t_5) m_ k0 (traits_9l0) (e0 t_5) = some (r0, r1)) ∧ Hid (Below w.heap.size w wr) ∧ Hid (wr.ownsRow w.heap.size 3 1 (.slice Atraits_9l0 traits_9l0.length ctraits_9l0) traits_9l0.length (Go.Proofs.Ytpaakpbbahbhcaa.HelpInt.iv traits_9l0)) ∧ Hid (Go.Proofs.Ytpaakpbbahbhcaa.GoV.PartNest wr w (w.heap.size) 67 3 Go.Proofs.Ytpaakpbbahbhcaa.GoVSighting.lay (fun _ => false) At_5 ct_5 t_5 Bt_5) ∧ Hid (∀ y_ ∈ Bt_5, Apart Atraits_9l0 y_))
  case atStart => exact ⟨0, _, _, _, by omega, rfl, rfl, H, HBw_t_7, Ot_7, Ot_5, Lib.hid Dt_7_t_5.out⟩
  case round =>
    obtain ⟨k0, traits_9l0, Atraits_9l0, ctraits_9l0, hkm0, rfl, rfl, H, HBwr0, Otraits_9l0, Ot_5, Dtraits_9l0_t_5⟩ := hrel
    rename World => wr0
    cases gk with
    | zero =>
      obtain rfl : k0 = t_5.length := by omega
      have hc0 : decide (((t_5.length : Nat) : Int) < ((t_5.length : Nat) : Int)) = false := by simp
      replace H := cnt_zero H
      unfold e0 at H
      replace H := let_hid H
      obtain ⟨_, rfl, H⟩ := H
      replace H := bind_hid H
      obtain ⟨lt_25, qt_25, H⟩ := H
      go_wp2_with fail
      go_at_call 75
      refine (Go.Proofs.Ytpaakpbbahbhcaa.GxSlicesSortIntInt.C (traits_9l0) Atraits_9l0 ctraits_9l0 w.heap.size _   Otraits_9l0 (Lib.hid (own_max Otraits_9l0.out))   qt_25).mono ?_
      rintro e_t_25 wt_25 ⟨rfl, ot_25, nt_25, gt_25⟩
      have Pt_25 := Lib.hid ot_25
      have Gt_25 := Lib.hid gt_25
      replace nt_25 := Lib.hid nt_25
      clear ot_25 gt_25
      have HBwt_25 := Lib.hid (HBwr0.out.grown Gt_25.out HBwr0.out.size (fun q hq => (Otraits_9l0.out.lt q hq).1))
      replace Ot_5 := Lib.hid (Go.Proofs.Ytpaakpbbahbhcaa.GoV.part_other Ot_5.out Gt_25.out Dtraits_9l0_t_5.out)
      clear Otraits_9l0 Gt_25
      replace H := bind_hid H
      obtain ⟨t_27, qt_27, H⟩ := H
      go_wp2_with fail
      have hc0_ := nt_25.out
      have Oct_27_1 := Lib.hid (own_len hc0_ Pt_25.out)
      have con_ := Go.Proofs.Ytpaakpbbahbhcaa.GxSlicesCompactIntInt.C (lt_25) Atraits_9l0 ctraits_9l0 w.heap.size _   Oct_27_1 (Lib.hid (own_max Oct_27_1.out)) (Lib.hid HBwt_25.out.size)  qt_27
      rw [hc0_] at con_
      clear hc0_ Oct_27_1
      go_at_call 76
      refine con_.mono ?_
      rintro e_t_27 wt_27 ⟨At_27, ct_27, rfl, ot_27, gt_27, yt_27⟩
      have Pt_27 := Lib.hid ot_27
      have Gt_27 := Lib.hid gt_27
      replace yt_27 := Lib.hid yt_27
      clear ot_27 gt_27
      have HBwt_27 := Lib.hid (HBwt_25.out.grown Gt_27.out HBwt_25.out.size (fun q hq => (Pt_25.out.lt q hq).1))
      have Dt_27_t_5 : Hid (∀ y_ ∈ Bt_5, Apart At_27 y_) := Lib.hid (fun y_ hy_ => (Go.Proofs.Ytpaakpbbahbhcaa.GoK.apart_from (Dtraits_9l0_t_5.out y_ hy_) (fun a_ ha_ => (Go.Proofs.Ytpaakpbbahbhcaa.GoV.part_lt Ot_5.out y_ hy_ a_ ha_).2) yt_27.out))
      replace Ot_5 := Lib.hid (Go.Proofs.Ytpaakpbbahbhcaa.GoV.part_other Ot_5.out Gt_27.out Dtraits_9l0_t_5.out)
      clear Pt_25 Gt_27 yt_27
      replace H := let_hid H
      obtain ⟨t_30, ht_30, H⟩ := H
      try have nhr_t_30 : decide (0 < t_5.length) = t_30 := by rw [← ht_30, decide_eq_decide]; omega
      cases ret_hid H
      go_wp2_with fail
      go_ret2
      exact ⟨At_27, ct_27, rfl, Pt_27.out, HBwt_27.out⟩
    | succ m0 =>
      have hlt0 : k0 < t_5.length := by omega
      have hc0 : decide ((k0 : Int) < ((t_5.length : Nat) : Int)) = true := by simp; omega
      replace H := cnt_succ H
      unfold l0 at H
      replace H := let_hid H
      obtain ⟨_, rfl, H⟩ := H
      replace H := idx_hid H
      obtain ⟨nt_13, yt_13, et_13, lt_13, gt_13, H⟩ := H
      obtain rfl : k0 = nt_13 := by omega
      clear et_13
      obtain ⟨t_13_id, t_13_year, t_13_town, t_13_traits⟩ := yt_13
      replace H := unSighting_hid H
      obtain ⟨gt_13_, zt_13, Art_13, crt_13, eAt_13, zzt_13, hKt_13, hrt_13, hqt_13, hnt_13⟩ := Go.Proofs.Ytpaakpbbahbhcaa.GoV.part_held Ot_5.out (k := k0) lt_13
      obtain rfl := Option.some.inj (gt_13.out.symm.trans zzt_13)
      clear zzt_13
      subst eAt_13
      have hct_13_0 : wr0.cell? ⟨gt_13_, k0 * 4, none⟩ = some (.int .i64 t_13_id) := hKt_13 0 _ rfl
      have hct_13_1 : wr0.cell? ⟨gt_13_, k0 * 4 + 1, none⟩ = some (.int .i64 t_13_year) := hKt_13 1 _ rfl
      have hct_13_2 : wr0.cell? ⟨gt_13_, k0 * 4 + 2, none⟩ = some (.string t_13_town) := hKt_13 2 _ rfl
      have hct_13_3 : wr0.cell? ⟨gt_13_, k0 * 4 + 3, none⟩ = some (.slice Art_13 t_13_traits.length crt_13) := hKt_13 3 _ rfl
      clear hKt_13
      have ltt_13 := cell_lt hct_13_0
      have Mrt_13 := Lib.hid hrt_13
      have Qrt_13 := Lib.hid hqt_13
      have Nrt_13 := Lib.hid hnt_13
      clear hrt_13 hqt_13 hnt_13
      have b0t_13 : (0 : Int) ≤ (k0 : Int) := by omega
      have b1t_13 : (k0 : Int) < ((t_5.length : Nat) : Int) := by omega
      have b2t_13 : ((k0 : Int)).toNat = k0 := by omega
      obtain ⟨w_s_15, hw_s_15⟩ : ∃ x, wr0.alloc (.cells #[.int .i64 t_13_id, .int .i64 t_13_year, .string t_13_town, .slice Art_13 t_13_traits.length crt_13] 67) = x := ⟨_, rfl⟩
      have bw_s_15 : Below wr0.heap.size wr0 w_s_15 := by rw [← hw_s_15]; exact (Below.refl _ _).alloc (Nat.le_refl _) _
      have Ds_15_t_5 := Lib.hid (Go.Proofs.Ytpaakpbbahbhcaa.GoV.part_fresh Ot_5.out)
      have Ds_15_traits_9l0 := Lib.hid (apart_fresh Otraits_9l0.out)
      have HBw_s_15 := Lib.hid (Below.step HBwr0.out bw_s_15)
      have hct_13_0__170 := cell_below bw_s_15 hct_13_0
      have hct_13_1__171 := cell_below bw_s_15 hct_13_1
      have hct_13_2__172 := cell_below bw_s_15 hct_13_2
      have hct_13_3__173 := cell_below bw_s_15 hct_13_3
      replace Ot_5 := Lib.hid (Go.Proofs.Ytpaakpbbahbhcaa.GoV.part_below Ot_5.out bw_s_15)
      replace Otraits_9l0 := Lib.hid (own_below Otraits_9l0.out bw_s_15)
      clear bw_s_15
      have ks_15_0 : w_s_15.cell? ⟨wr0.heap.size, 0, none⟩ = some (.int .i64 t_13_id) := by rw [← hw_s_15]; exact box_new _ _ _ 0 _ rfl
      have ks_15_1 : w_s_15.cell? ⟨wr0.heap.size, 1, none⟩ = some (.int .i64 t_13_year) := by rw [← hw_s_15]; exact box_new _ _ _ 1 _ rfl
      have ks_15_2 : w_s_15.cell? ⟨wr0.heap.size, 2, none⟩ = some (.string t_13_town) := by rw [← hw_s_15]; exact box_new _ _ _ 2 _ rfl
      have ks_15_3 : w_s_15.cell? ⟨wr0.heap.size, 3, none⟩ = some (.slice Art_13 t_13_traits.length crt_13) := by rw [← hw_s_15]; exact box_new _ _ _ 3 _ rfl
      replace H := guard_hid H
      obtain ⟨hlt_20, H⟩ := H
      replace H := let_hid H
      obtain ⟨t_20, ht_20, H⟩ := H
      have hht_20 := Lib.hid ht_20
      clear ht_20
      have hst_20 := HBw_s_15.out.size
      have Ct_20 := Lib.hid ((Cells.below Mrt_13.out HBw_s_15.out))
      go_wp2_with (at_builtin; refine append_spread rfl _ _ 32 rfl w.heap.size 3 i0_3 (.int .i64 0) 1 8 Try.underlying32 hi_3 hz0_3 hz1_3 hz2_3 rfl (by decide) Atraits_9l0 ctraits_9l0 traits_9l0.length _ rfl Otraits_9l0.out Art_13 t_13_traits.length crt_13 (Go.Proofs.Ytpaakpbbahbhcaa.HelpInt.iv t_13_traits) rfl Qrt_13.out Ct_20.out (fun u hu => by unfold Go.Proofs.Ytpaakpbbahbhcaa.HelpInt.iv at hu; obtain ⟨y_, _, rfl⟩ := List.mem_map.1 hu; rfl) (by unfold maxLen; omega) (by omega) hst_20 ?_; intro vt_20 wt_20 ot_20 gt_20 yt_20; obtain ⟨At_20, ct_20, rfl, pt_20⟩ := own_pushS (f := Go.Proofs.Ytpaakpbbahbhcaa.HelpInt.iv) hht_20.out (by simp [Go.Proofs.Ytpaakpbbahbhcaa.HelpInt.iv]) rfl ot_20; have Pt_20 := Lib.hid pt_20; have Yt_20 := Lib.hid yt_20; have Gt_20 := Lib.hid gt_20; clear ot_20 gt_20 pt_20 yt_20; refine stop_in ?_)
      refine stop_out ?_
      clear Ct_20
      have HBwt_20 := Lib.hid (HBw_s_15.out.grown Gt_20.out hst_20 (fun q hq => (Otraits_9l0.out.lt q hq).1))
      clear hst_20
      have Dt_20_t_5 : Hid (∀ y_ ∈ Bt_5, Apart At_20 y_) := Lib.hid (fun y_ hy_ => (apart_app (Dtraits_9l0_t_5.out y_ hy_) (fun a_ ha_ => (Go.Proofs.Ytpaakpbbahbhcaa.GoV.part_lt Ot_5.out y_ hy_ a_ ha_).2) Yt_20.out))
      have Dt_20_s_15 : Hid (Apart At_20 _) := Lib.hid (apart_app (Apart.symm Ds_15_traits_9l0.out) (fun a_ ha_ => by cases ha_; exact cell_lt ks_15_0) Yt_20.out)
      replace hct_13_0__170 := cell_other hct_13_0__170 Gt_20.out (Dtraits_9l0_t_5.out _ (Go.Proofs.Ytpaakpbbahbhcaa.GoV.part_head Ot_5.out))
      replace hct_13_1__171 := cell_other hct_13_1__171 Gt_20.out (Dtraits_9l0_t_5.out _ (Go.Proofs.Ytpaakpbbahbhcaa.GoV.part_head Ot_5.out))
      replace hct_13_2__172 := cell_other hct_13_2__172 Gt_20.out (Dtraits_9l0_t_5.out _ (Go.Proofs.Ytpaakpbbahbhcaa.GoV.part_head Ot_5.out))
      replace hct_13_3__173 := cell_other hct_13_3__173 Gt_20.out (Dtraits_9l0_t_5.out _ (Go.Proofs.Ytpaakpbbahbhcaa.GoV.part_head Ot_5.out))
      replace ks_15_0 := cell_other ks_15_0 Gt_20.out (Apart.symm Ds_15_traits_9l0.out)
      replace ks_15_1 := cell_other ks_15_1 Gt_20.out (Apart.symm Ds_15_traits_9l0.out)
      replace ks_15_2 := cell_other ks_15_2 Gt_20.out (Apart.symm Ds_15_traits_9l0.out)
      replace ks_15_3 := cell_other ks_15_3 Gt_20.out (Apart.symm Ds_15_traits_9l0.out)
      replace Ot_5 := Lib.hid (Go.Proofs.Ytpaakpbbahbhcaa.GoV.part_other Ot_5.out Gt_20.out Dtraits_9l0_t_5.out)
      clear hct_13_0 hct_13_1 hct_13_2 hct_13_3
      clear Otraits_9l0 Yt_20 Gt_20
      replace H := app_hid H
      go_wp2_with fail
      go_roundg m0
      case measure => omega
      case rel => exact ⟨k0 + 1, _, _, _, by omega, by go_num, rfl, H, HBwt_20, Pt_20, Ot_5, Lib.hid Dt_20_t_5.out⟩
end Go.Proofs.Ytpaakpbbahbhcaa.GiTraitsSeen

/- loop.example/g01062/laws.FnExactTraitsSeen as a plain function, and the contract of the program's: where the plain one has an answer, the program has it. Conditions: slices read as lists. -/
namespace Go.Proofs.Ytpaakpbbahbhcaa.GlFnExactTraitsSeen
set_option linter.unusedVariables false
set_option linter.unusedSimpArgs false
open Go.RowKit
open Go.Proofs.Ytpaakpbbahbhcaa.Rowed Go.Proofs.Ytpaakpbbahbhcaa.Turn Go.Proofs.Ytpaakpbbahbhcaa.Aid Go.Proofs.Ytpaakpbbahbhcaa.GoP Go.Proofs.Ytpaakpbbahbhcaa.GoM

def P (fuel : Nat) (aList : (List Go.Proofs.Ytpaakpbbahbhcaa.PSighting.Sighting)) (aLimit : Int) (aId : Int) : Option (Bool) :=
  Option.bind (Go.Proofs.Ytpaakpbbahbhcaa.GlSzSightingS.P aList 1048576) fun (t_4 : Int) =>
  letK (decide (t_4 < 0)) fun (t_7 : Bool) =>
  iteK t_7
  (some true)
  (Option.bind (Go.Proofs.Ytpaakpbbahbhcaa.GlToSightingS.P aList) fun (t_10 : (List Go.Proofs.Ytpaakpbbahbhcaa.PSighting.Sighting)) =>
  bind2 (Go.Proofs.Ytpaakpbbahbhcaa.GsTraitsSeen.P fuel t_10 aLimit aId) fun (t_13a : (List Int)) (t_13b : Bool) =>
  Option.bind (Go.Proofs.Ytpaakpbbahbhcaa.GlToSightingS.P aList) fun (t_20 : (List Go.Proofs.Ytpaakpbbahbhcaa.PSighting.Sighting)) =>
  bind2 (Go.Proofs.Ytpaakpbbahbhcaa.GiTraitsSeen.P t_20 aLimit aId) fun (t_25a : (List Int)) (t_25b : Bool) =>
  Option.bind (Go.Proofs.Ytpaakpbbahbhcaa.GlEqIntS.P t_25a t_13a) fun (t_33 : Bool) =>
  letK (!t_33) fun (t_34 : Bool) =>
  joinK (fun (t_39 : Bool) =>
  iteK t_39
  (some false)
  (Option.bind (Go.Proofs.Ytpaakpbbahbhcaa.GlToSightingS.P aList) fun (t_43 : (List Go.Proofs.Ytpaakpbbahbhcaa.PSighting.Sighting)) =>
  Option.bind (Go.Proofs.Ytpaakpbbahbhcaa.GlEqSightingS.P t_20 t_43) fun (t_44 : Bool) =>
  letK (!t_44) fun (t_45 : Bool) =>
  iteK t_45
  (some false)
  (bind2 (Go.Proofs.Ytpaakpbbahbhcaa.GlMarkSightingS.P t_20 1) fun (t_50 : Int) (lt_50 : (List Go.Proofs.Ytpaakpbbahbhcaa.PSighting.Sighting)) =>
  letK (decide (t_50 < 0)) fun (t_53 : Bool) =>
  joinK (fun (t_59 : Bool) =>
  joinK (fun (t_64 : Bool) =>
  iteK t_64
  (some false)
  (bind2 (Go.Proofs.Ytpaakpbbahbhcaa.GlMarkIntS.P t_25a 1) fun (t_69 : Int) (lt_69 : (List Int)) =>
  Option.bind (Go.Proofs.Ytpaakpbbahbhcaa.GlHeldIntS.P lt_69 1) fun (t_74 : Int) =>
  letK (decide (t_74 < 0)) fun (t_77 : Bool) =>
  iteK t_77
  (some false)
  (letK (t_74 != t_69) fun (t_81 : Bool) =>
  iteK t_81
  (some false)
  (Option.bind (Go.Proofs.Ytpaakpbbahbhcaa.GlToSightingS.P aList) fun (t_84 : (List Go.Proofs.Ytpaakpbbahbhcaa.PSighting.Sighting)) =>
  bind2 (Go.Proofs.Ytpaakpbbahbhcaa.GiTraitsSeen.P t_84 aLimit aId) fun (t_87a : (List Int)) (t_87b : Bool) =>
  Option.bind (Go.Proofs.Ytpaakpbbahbhcaa.GlEqIntS.P t_87a t_13a) fun (t_95 : Bool) =>
  letK (!t_95) fun (t_96 : Bool) =>
  joinK (fun (t_101 : Bool) =>
  iteK t_101
  (some false)
  (Option.bind (Go.Proofs.Ytpaakpbbahbhcaa.GlHeldIntS.P lt_69 1) fun (t_106 : Int) =>
  letK (decide (t_106 < 0)) fun (t_109 : Bool) =>
  iteK t_109
  (some false)
  (letK (t_106 != t_69) fun (t_113 : Bool) =>
  iteK t_113
  (some false)
  (some true)))) fun jt_101 => iteK t_96 (appK jt_101 true) (letK (!(t_87b == t_13b)) fun (t_100 : Bool) =>
  appK jt_101 t_100))))) fun jt_64 => iteK t_59 (appK jt_64 true) (letK (!(t_25b == t_13b)) fun (t_63 : Bool) =>
  appK jt_64 t_63)) fun jt_59 => iteK t_53 (appK jt_59 true) (Option.bind (Go.Proofs.Ytpaakpbbahbhcaa.GlEqIntS.P t_25a t_13a) fun (t_57 : Bool) =>
  letK (!t_57) fun (t_58 : Bool) =>
  appK jt_59 t_58)))) fun jt_39 => iteK t_34 (appK jt_39 true) (letK (!(t_25b == t_13b)) fun (t_38 : Bool) =>
  appK jt_39 t_38))

set_option maxRecDepth 100000 in
set_option maxHeartbeats 2000000 in
theorem C (fuel : Nat) (aList : (List Go.Proofs.Ytpaakpbbahbhcaa.PSighting.Sighting)) (aLimit : Int) (aId : Int) (A0 : Option Addr) (c0 : Nat)  (w : World) (M0 : Hid (Go.Proofs.Ytpaakpbbahbhcaa.GoV.ReadNest w Go.Proofs.Ytpaakpbbahbhcaa.GoVSighting.lay A0 aList)) (N0 : Hid (aList.length ≤ 9223372036854775807))  {r : Bool} (H : Hid (P fuel aList aLimit aId = some r)) :
    Calls Try.prog 10 #[.slice A0 aList.length c0, .int .i64 aLimit, .int .i64 aId] w (Gives (.bool r) w) := by
  have HB := Lib.hid (Below.refl w.heap.size w)
  unfold P at H
  have N0o := N0.out
  go_enter Try.func10, Try.ntmps10
  replace H := bind_hid H
  obtain ⟨t_4, qt_4, H⟩ := H
  go_wp2_with fail
  go_at_call 30
  refine (Go.Proofs.Ytpaakpbbahbhcaa.GlSzSightingS.C (aList) (1048576) A0 c0 _   (Lib.hid (Go.Proofs.Ytpaakpbbahbhcaa.GoV.read_below M0.out HB.out)) N0 qt_4).mono ?_
  rintro e_t_4 wt_4 ⟨rfl, bt_4⟩
  have HBwt_4 := Lib.hid (Below.step HB.out bt_4)
  clear bt_4
  replace H := let_hid H
  obtain ⟨t_7, ht_7, H⟩ := H
  cases t_7 with
  | false =>
    replace H := ite_f H
    replace H := bind_hid H
    obtain ⟨t_10, qt_10, H⟩ := H
    go_wp2_with fail
    go_at_call 31
    refine (Go.Proofs.Ytpaakpbbahbhcaa.GlToSightingS.C (aList) A0 c0 _   (Lib.hid (Go.Proofs.Ytpaakpbbahbhcaa.GoV.read_below M0.out HBwt_4.out)) N0 qt_10).mono ?_
    rintro e_t_10 wt_10 ⟨At_10, ct_10, rfl, ⟨Bt_10, ot_10⟩, bt_10⟩
    have Ot_10 := Lib.hid (Go.Proofs.Ytpaakpbbahbhcaa.GoV.nest_lower ot_10 HBwt_4.out.size)
    clear ot_10
    have HBwt_10 := Lib.hid (Below.step HBwt_4.out bt_10)
    clear bt_10
    replace H := bind2_hid H
    obtain ⟨t_13a, t_13b, qt_13, H⟩ := H
    go_wp2_with fail
    go_at_call 44
    refine (Go.Proofs.Ytpaakpbbahbhcaa.GsTraitsSeen.C fuel (t_10) (aLimit) (aId) At_10 ct_10 _   (Lib.hid (Go.Proofs.Ytpaakpbbahbhcaa.GoV.nest_read Ot_10.out)) (Lib.hid (Go.Proofs.Ytpaakpbbahbhcaa.GoV.nest_max Ot_10.out)) qt_13).mono ?_
    rintro e_t_13 wt_13 ⟨At_13a, ct_13a, rfl, ot_13a, bt_13⟩
    have Dt_13a_t_10 := Lib.hid (Go.Proofs.Ytpaakpbbahbhcaa.GoV.nest_call ot_13a Ot_10.out)
    have Ot_13a := Lib.hid (own_lower ot_13a HBwt_10.out.size)
    clear ot_13a
    have HBwt_13 := Lib.hid (Below.step HBwt_10.out bt_13)
    replace Ot_10 := Lib.hid (Go.Proofs.Ytpaakpbbahbhcaa.GoV.nest_below Ot_10.out bt_13)
    clear bt_13
    replace H := bind_hid H
    obtain ⟨t_20, qt_20, H⟩ := H
    go_wp2_with fail
    go_at_call 31
    refine (Go.Proofs.Ytpaakpbbahbhcaa.GlToSightingS.C (aList) A0 c0 _   (Lib.hid (Go.Proofs.Ytpaakpbbahbhcaa.GoV.read_below M0.out HBwt_13.out)) N0 qt_20).mono ?_
    rintro e_t_20 wt_20 ⟨At_20, ct_20, rfl, ⟨Bt_20, ot_20⟩, bt_20⟩
    have Dt_20_t_10 := Lib.hid (Go.Proofs.Ytpaakpbbahbhcaa.GoV.lts_apart (Go.Proofs.Ytpaakpbbahbhcaa.GoV.nest_lt ot_20) (Go.Proofs.Ytpaakpbbahbhcaa.GoV.nest_lt Ot_10.out))
    have Dt_20_t_13a := Lib.hid (Go.Proofs.Ytpaakpbbahbhcaa.GoV.nest_callrow ot_20 Ot_13a.out)
    have Ot_20 := Lib.hid (Go.Proofs.Ytpaakpbbahbhcaa.GoV.nest_lower ot_20 HBwt_13.out.size)
    clear ot_20
    have HBwt_20 := Lib.hid (Below.step HBwt_13.out bt_20)
    replace Ot_10 := Lib.hid (Go.Proofs.Ytpaakpbbahbhcaa.GoV.nest_below Ot_10.out bt_20)
    replace Ot_13a := Lib.hid (own_below Ot_13a.out bt_20)
    clear bt_20
    replace H := bind2_hid H
    obtain ⟨t_25a, t_25b, qt_25, H⟩ := H
    go_wp2_with fail
    go_at_call 45
    refine (Go.Proofs.Ytpaakpbbahbhcaa.GiTraitsSeen.C (t_20) (aLimit) (aId) At_20 ct_20 _   (Lib.hid (Go.Proofs.Ytpaakpbbahbhcaa.GoV.nest_read Ot_20.out)) (Lib.hid (Go.Proofs.Ytpaakpbbahbhcaa.GoV.nest_max Ot_20.out)) (Lib.hid (Go.Proofs.Ytpaakpbbahbhcaa.GoV.nest_room Ot_20.out)) qt_25).mono ?_
    rintro e_t_25 wt_25 ⟨At_25a, ct_25a, rfl, ot_25a, bt_25⟩
    have Dt_25a_t_10 := Lib.hid (Go.Proofs.Ytpaakpbbahbhcaa.GoV.nest_call ot_25a Ot_10.out)
    have Dt_25a_t_13a := Lib.hid (apart_call ot_25a Ot_13a.out)
    have Dt_25a_t_20 := Lib.hid (Go.Proofs.Ytpaakpbbahbhcaa.GoV.nest_call ot_25a Ot_20.out)
    have Ot_25a := Lib.hid (own_lower ot_25a HBwt_20.out.size)
    clear ot_25a
    have HBwt_25 := Lib.hid (Below.step HBwt_20.out bt_25)
    replace Ot_10 := Lib.hid (Go.Proofs.Ytpaakpbbahbhcaa.GoV.nest_below Ot_10.out bt_25)
    replace Ot_13a := Lib.hid (own_below Ot_13a.out bt_25)
    replace Ot_20 := Lib.hid (Go.Proofs.Ytpaakpbbahbhcaa.GoV.nest_below Ot_20.out bt_25)
    clear bt_25
    replace H := bind_hid H
    obtain ⟨t_33, qt_33, H⟩ := H
    go_wp2_with fail
    go_at_call 37
    refine (Go.Proofs.Ytpaakpbbahbhcaa.GlEqIntS.C (t_25a) (t_13a) At_25a ct_25a At_13a ct_13a _   (Lib.hid (own_cells Ot_25a.out)) (Lib.hid (own_max Ot_25a.out)) (Lib.hid (own_cells Ot_13a.out)) (Lib.hid (own_max Ot_13a.out)) qt_33).mono ?_
    rintro e_t_33 wt_33 ⟨rfl, bt_33⟩
    have HBwt_33 := Lib.hid (Below.step HBwt_25.out bt_33)
    replace Ot_10 := Lib.hid (Go.Proofs.Ytpaakpbbahbhcaa.GoV.nest_below Ot_10.out bt_33)
    replace Ot_13a := Lib.hid (own_below Ot_13a.out bt_33)
    replace Ot_20 := Lib.hid (Go.Proofs.Ytpaakpbbahbhcaa.GoV.nest_below Ot_20.out bt_33)
    replace Ot_25a := Lib.hid (own_below Ot_25a.out bt_33)
    clear bt_33
    cases t_33 with
    | false =>
      replace H := let_hid H
      obtain ⟨t_34, ht_34, H⟩ := H
      obtain rfl : t_34 = true := ht_34.symm
      replace H := join_hid H
      replace H := ite_t H
      replace H := app_hid H
      replace H := ite_t H
      obtain rfl := ret_hid H
      go_wp2_with fail
      go_ret
      exact ⟨rfl, HBwt_33.out⟩
    | true =>
      replace H := let_hid H
      obtain ⟨t_34, ht_34, H⟩ := H
      obtain rfl : t_34 = false := ht_34.symm
      replace H := join_hid H
      replace H := ite_f H
      replace H := let_hid H
      obtain ⟨t_38, ht_38, H⟩ := H
      replace H := app_hid H
      cases t_38 with
      | false =>
        replace H := ite_f H
        replace H := bind_hid H
        obtain ⟨t_43, qt_43, H⟩ := H
        go_wp2_with fail
        go_at_call 31
        refine (Go.Proofs.Ytpaakpbbahbhcaa.GlToSightingS.C (aList) A0 c0 _   (Lib.hid (Go.Proofs.Ytpaakpbbahbhcaa.GoV.read_below M0.out HBwt_33.out)) N0 qt_43).mono ?_
        rintro e_t_43 wt_43 ⟨At_43, ct_43, rfl, ⟨Bt_43, ot_43⟩, bt_43⟩
        have Dt_43_t_10 := Lib.hid (Go.Proofs.Ytpaakpbbahbhcaa.GoV.lts_apart (Go.Proofs.Ytpaakpbbahbhcaa.GoV.nest_lt ot_43) (Go.Proofs.Ytpaakpbbahbhcaa.GoV.nest_lt Ot_10.out))
        have Dt_43_t_13a := Lib.hid (Go.Proofs.Ytpaakpbbahbhcaa.GoV.nest_callrow ot_43 Ot_13a.out)
        have Dt_43_t_20 := Lib.hid (Go.Proofs.Ytpaakpbbahbhcaa.GoV.lts_apart (Go.Proofs.Ytpaakpbbahbhcaa.GoV.nest_lt ot_43) (Go.Proofs.Ytpaakpbbahbhcaa.GoV.nest_lt Ot_20.out))
        have Dt_43_t_25a := Lib.hid (Go.Proofs.Ytpaakpbbahbhcaa.GoV.nest_callrow ot_43 Ot_25a.out)
        have Ot_43 := Lib.hid (Go.Proofs.Ytpaakpbbahbhcaa.GoV.nest_lower ot_43 HBwt_33.out.size)
        clear ot_43
        have HBwt_43 := Lib.hid (Below.step HBwt_33.out bt_43)
        replace Ot_10 := Lib.hid (Go.Proofs.Ytpaakpbbahbhcaa.GoV.nest_below Ot_10.out bt_43)
        replace Ot_13a := Lib.hid (own_below Ot_13a.out bt_43)
        replace Ot_20 := Lib.hid (Go.Proofs.Ytpaakpbbahbhcaa.GoV.nest_below Ot_20.out bt_43)
        replace Ot_25a := Lib.hid (own_below Ot_25a.out bt_43)
        clear bt_43
        replace H := bind_hid H
        obtain ⟨t_44, qt_44, H⟩ := H
        go_wp2_with fail
        go_at_call 32
        refine (Go.Proofs.Ytpaakpbbahbhcaa.GlEqSightingS.C (t_20) (t_43) At_20 ct_20 At_43 ct_43 _   (Lib.hid (Go.Proofs.Ytpaakpbbahbhcaa.GoV.nest_read Ot_20.out)) (Lib.hid (Go.Proofs.Ytpaakpbbahbhcaa.GoV.nest_max Ot_20.out)) (Lib.hid (Go.Proofs.Ytpaakpbbahbhcaa.GoV.nest_read Ot_43.out)) (Lib.hid (Go.Proofs.Ytpaakpbbahbhcaa.GoV.nest_max Ot_43.out)) qt_44).mono ?_
        rintro e_t_44 wt_44 ⟨rfl, bt_44⟩
        have HBwt_44 := Lib.hid (Below.step HBwt_43.out bt_44)
        replace Ot_10 := Lib.hid (Go.Proofs.Ytpaakpbbahbhcaa.GoV.nest_below Ot_10.out bt_44)
        replace Ot_13a := Lib.hid (own_below Ot_13a.out bt_44)
        replace Ot_20 := Lib.hid (Go.Proofs.Ytpaakpbbahbhcaa.GoV.nest_below Ot_20.out bt_44)
        replace Ot_25a := Lib.hid (own_below Ot_25a.out bt_44)
        replace Ot_43 := Lib.hid (Go.Proofs.Ytpaakpbbahbhcaa.GoV.nest_below Ot_43.out bt_44)
        clear bt_44
        cases t_44 with
        | false =>
          replace H := let_hid H
          obtain ⟨t_45, ht_45, H⟩ := H
          obtain rfl : t_45 = true := ht_45.symm
          replace H := ite_t H
          obtain rfl := ret_hid H
          go_wp2_with fail
          go_ret
          exact ⟨rfl, HBwt_44.out⟩
        | true =>
          replace H := let_hid H
          obtain ⟨t_45, ht_45, H⟩ := H
          obtain rfl : t_45 = false := ht_45.symm
          replace H := ite_f H
          replace H := bind2_hid H
          obtain ⟨t_50, lt_50, qt_50, H⟩ := H
          go_wp2_with fail
          go_at_call 34
          refine (Go.Proofs.Ytpaakpbbahbhcaa.GlMarkSightingS.C (t_20) (1) At_20 ct_20 w.heap.size Bt_20 _   Ot_20 (Lib.hid (Go.Proofs.Ytpaakpbbahbhcaa.GoV.nest_max Ot_20.out))   qt_50).mono ?_
          rintro e_t_50 wt_50 ⟨rfl, ot_50, nt_50, gt_50⟩
          have Pt_50 := Lib.hid ot_50
          have Gt_50 := Lib.hid gt_50
          replace nt_50 := Lib.hid nt_50
          clear ot_50 gt_50
          have HBwt_50 := Lib.hid (Go.Proofs.Ytpaakpbbahbhcaa.GoN.below_nest HBwt_44.out Gt_50.out HBwt_44.out.size (Go.Proofs.Ytpaakpbbahbhcaa.GoV.nest_lt Ot_20.out))
          replace Ot_10 := Lib.hid (Go.Proofs.Ytpaakpbbahbhcaa.GoV.nest_otherN Ot_10.out Gt_50.out (Go.Proofs.Ytpaakpbbahbhcaa.GoN.nest_flip Dt_20_t_10.out))
          replace Ot_13a := Lib.hid (Go.Proofs.Ytpaakpbbahbhcaa.GoN.own_otherN Ot_13a.out Gt_50.out Dt_20_t_13a.out)
          replace Ot_25a := Lib.hid (Go.Proofs.Ytpaakpbbahbhcaa.GoN.own_otherN Ot_25a.out Gt_50.out Dt_25a_t_20.out)
          replace Ot_43 := Lib.hid (Go.Proofs.Ytpaakpbbahbhcaa.GoV.nest_otherN Ot_43.out Gt_50.out Dt_43_t_20.out)
          clear Ot_20 Gt_50
          replace H := let_hid H
          obtain ⟨t_53, ht_53, H⟩ := H
          replace H := join_hid H
          cases t_53 with
          | false =>
            replace H := ite_f H
            replace H := bind_hid H
            obtain ⟨t_57, qt_57, H⟩ := H
            go_wp2_with fail
            go_at_call 37
            refine (Go.Proofs.Ytpaakpbbahbhcaa.GlEqIntS.C (t_25a) (t_13a) At_25a ct_25a At_13a ct_13a _   (Lib.hid (own_cells Ot_25a.out)) (Lib.hid (own_max Ot_25a.out)) (Lib.hid (own_cells Ot_13a.out)) (Lib.hid (own_max Ot_13a.out)) qt_57).mono ?_
            rintro e_t_57 wt_57 ⟨rfl, bt_57⟩
            have HBwt_57 := Lib.hid (Below.step HBwt_50.out bt_57)
            replace Ot_10 := Lib.hid (Go.Proofs.Ytpaakpbbahbhcaa.GoV.nest_below Ot_10.out bt_57)
            replace Ot_13a := Lib.hid (own_below Ot_13a.out bt_57)
            replace Pt_50 := Lib.hid (Go.Proofs.Ytpaakpbbahbhcaa.GoV.nest_below Pt_50.out bt_57)
            replace Ot_25a := Lib.hid (own_below Ot_25a.out bt_57)
            replace Ot_43 := Lib.hid (Go.Proofs.Ytpaakpbbahbhcaa.GoV.nest_below Ot_43.out bt_57)
            clear bt_57
            cases t_57 with
            | false =>
              replace H := let_hid H
              obtain ⟨t_58, ht_58, H⟩ := H
              obtain rfl : t_58 = true := ht_58.symm
              replace H := app_hid H
              replace H := join_hid H
              replace H := ite_t H
              replace H := app_hid H
              replace H := ite_t H
              obtain rfl := ret_hid H
              go_wp2_with fail
              go_ret
              exact ⟨rfl, HBwt_57.out⟩
            | true =>
              replace H := let_hid H
              obtain ⟨t_58, ht_58, H⟩ := H
              obtain rfl : t_58 = false := ht_58.symm
              replace H := app_hid H
              replace H := join_hid H
              replace H := ite_f H
              replace H := let_hid H
              obtain ⟨t_63, ht_63, H⟩ := H
              obtain rfl := ht_38.symm.trans ht_63
              replace H := app_hid H
              replace H := ite_f H
              replace H := bind2_hid H
              obtain ⟨t_69, lt_69, qt_69, H⟩ := H
              go_wp2_with fail
              go_at_call 38
              refine (Go.Proofs.Ytpaakpbbahbhcaa.GlMarkIntS.C (t_25a) (1) At_25a ct_25a w.heap.size _   Ot_25a (Lib.hid (own_max Ot_25a.out))   qt_69).mono ?_
              rintro e_t_69 wt_69 ⟨rfl, ot_69, nt_69, gt_69⟩
              have Pt_69 := Lib.hid ot_69
              have Gt_69 := Lib.hid gt_69
              replace nt_69 := Lib.hid nt_69
              clear ot_69 gt_69
              have HBwt_69 := Lib.hid (HBwt_57.out.grown Gt_69.out HBwt_57.out.size (fun q hq => (Ot_25a.out.lt q hq).1))
              replace Ot_10 := Lib.hid (Go.Proofs.Ytpaakpbbahbhcaa.GoV.nest_other Ot_10.out Gt_69.out Dt_25a_t_10.out)
              replace Ot_13a := Lib.hid (own_other Ot_13a.out Gt_69.out Dt_25a_t_13a.out)
              replace Pt_50 := Lib.hid (Go.Proofs.Ytpaakpbbahbhcaa.GoV.nest_other Pt_50.out Gt_69.out Dt_25a_t_20.out)
              replace Ot_43 := Lib.hid (Go.Proofs.Ytpaakpbbahbhcaa.GoV.nest_other Ot_43.out Gt_69.out Dt_43_t_25a.out)
              clear Ot_25a Gt_69
              replace H := bind_hid H
              obtain ⟨t_74, qt_74, H⟩ := H
              go_wp2_with fail
              have hc_ := nt_69.out
              have hv_ : (Value.slice At_25a t_25a.length ct_25a : Value) = Value.slice At_25a lt_69.length ct_25a := by rw [hc_]
              try rw [hv_]
              replace Pt_69 := Lib.hid (own_len hc_ Pt_69.out)
              clear hc_ hv_
              go_wp2_with fail
              go_at_call 39
              refine (Go.Proofs.Ytpaakpbbahbhcaa.GlHeldIntS.C (lt_69) (1) At_25a ct_25a _   (Lib.hid (own_cells Pt_69.out)) (Lib.hid (own_max Pt_69.out)) qt_74).mono ?_
              rintro e_t_74 wt_74 ⟨rfl, bt_74⟩
              have HBwt_74 := Lib.hid (Below.step HBwt_69.out bt_74)
              replace Ot_10 := Lib.hid (Go.Proofs.Ytpaakpbbahbhcaa.GoV.nest_below Ot_10.out bt_74)
              replace Ot_13a := Lib.hid (own_below Ot_13a.out bt_74)
              replace Pt_50 := Lib.hid (Go.Proofs.Ytpaakpbbahbhcaa.GoV.nest_below Pt_50.out bt_74)
              replace Pt_69 := Lib.hid (own_below Pt_69.out bt_74)
              replace Ot_43 := Lib.hid (Go.Proofs.Ytpaakpbbahbhcaa.GoV.nest_below Ot_43.out bt_74)
              clear bt_74
              replace H := let_hid H
              obtain ⟨t_77, ht_77, H⟩ := H
              cases t_77 with
              | false =>
                replace H := ite_f H
                replace H := let_hid H
                obtain ⟨t_81, ht_81, H⟩ := H
                cases t_81 with
                | false =>
                  replace H := ite_f H
                  replace H := bind_hid H
                  obtain ⟨t_84, qt_84, H⟩ := H
                  go_wp2_with fail
                  go_at_call 31
                  refine (Go.Proofs.Ytpaakpbbahbhcaa.GlToSightingS.C (aList) A0 c0 _   (Lib.hid (Go.Proofs.Ytpaakpbbahbhcaa.GoV.read_below M0.out HBwt_74.out)) N0 qt_84).mono ?_
                  rintro e_t_84 wt_84 ⟨At_84, ct_84, rfl, ⟨Bt_84, ot_84⟩, bt_84⟩
                  have Dt_84_t_10 := Lib.hid (Go.Proofs.Ytpaakpbbahbhcaa.GoV.lts_apart (Go.Proofs.Ytpaakpbbahbhcaa.GoV.nest_lt ot_84) (Go.Proofs.Ytpaakpbbahbhcaa.GoV.nest_lt Ot_10.out))
                  have Dt_84_t_13a := Lib.hid (Go.Proofs.Ytpaakpbbahbhcaa.GoV.nest_callrow ot_84 Ot_13a.out)
                  have Dt_84_t_20 := Lib.hid (Go.Proofs.Ytpaakpbbahbhcaa.GoV.lts_apart (Go.Proofs.Ytpaakpbbahbhcaa.GoV.nest_lt ot_84) (Go.Proofs.Ytpaakpbbahbhcaa.GoV.nest_lt Pt_50.out))
                  have Dt_84_t_25a := Lib.hid (Go.Proofs.Ytpaakpbbahbhcaa.GoV.nest_callrow ot_84 Pt_69.out)
                  have Dt_84_t_43 := Lib.hid (Go.Proofs.Ytpaakpbbahbhcaa.GoV.lts_apart (Go.Proofs.Ytpaakpbbahbhcaa.GoV.nest_lt ot_84) (Go.Proofs.Ytpaakpbbahbhcaa.GoV.nest_lt Ot_43.out))
                  have Ot_84 := Lib.hid (Go.Proofs.Ytpaakpbbahbhcaa.GoV.nest_lower ot_84 HBwt_74.out.size)
                  clear ot_84
                  have HBwt_84 := Lib.hid (Below.step HBwt_74.out bt_84)
                  replace Ot_10 := Lib.hid (Go.Proofs.Ytpaakpbbahbhcaa.GoV.nest_below Ot_10.out bt_84)
                  replace Ot_13a := Lib.hid (own_below Ot_13a.out bt_84)
                  replace Pt_50 := Lib.hid (Go.Proofs.Ytpaakpbbahbhcaa.GoV.nest_below Pt_50.out bt_84)
                  replace Pt_69 := Lib.hid (own_below Pt_69.out bt_84)
                  replace Ot_43 := Lib.hid (Go.Proofs.Ytpaakpbbahbhcaa.GoV.nest_below Ot_43.out bt_84)
                  clear bt_84
                  replace H := bind2_hid H
                  obtain ⟨t_87a, t_87b, qt_87, H⟩ := H
                  go_wp2_with fail
                  go_at_call 45
                  refine (Go.Proofs.Ytpaakpbbahbhcaa.GiTraitsSeen.C (t_84) (aLimit) (aId) At_84 ct_84 _   (Lib.hid (Go.Proofs.Ytpaakpbbahbhcaa.GoV.nest_read Ot_84.out)) (Lib.hid (Go.Proofs.Ytpaakpbbahbhcaa.GoV.nest_max Ot_84.out)) (Lib.hid (Go.Proofs.Ytpaakpbbahbhcaa.GoV.nest_room Ot_84.out)) qt_87).mono ?_
                  rintro e_t_87 wt_87 ⟨At_87a, ct_87a, rfl, ot_87a, bt_87⟩
                  have Dt_87a_t_10 := Lib.hid (Go.Proofs.Ytpaakpbbahbhcaa.GoV.nest_call ot_87a Ot_10.out)
                  have Dt_87a_t_13a := Lib.hid (apart_call ot_87a Ot_13a.out)
                  have Dt_87a_t_20 := Lib.hid (Go.Proofs.Ytpaakpbbahbhcaa.GoV.nest_call ot_87a Pt_50.out)
                  have Dt_87a_t_25a := Lib.hid (apart_call ot_87a Pt_69.out)
                  have Dt_87a_t_43 := Lib.hid (Go.Proofs.Ytpaakpbbahbhcaa.GoV.nest_call ot_87a Ot_43.out)
                  have Dt_87a_t_84 := Lib.hid (Go.Proofs.Ytpaakpbbahbhcaa.GoV.nest_call ot_87a Ot_84.out)
                  have Ot_87a := Lib.hid (own_lower ot_87a HBwt_84.out.size)
                  clear ot_87a
                  have HBwt_87 := Lib.hid (Below.step HBwt_84.out bt_87)
                  replace Ot_10 := Lib.hid (Go.Proofs.Ytpaakpbbahbhcaa.GoV.nest_below Ot_10.out bt_87)
                  replace Ot_13a := Lib.hid (own_below Ot_13a.out bt_87)
                  replace Pt_50 := Lib.hid (Go.Proofs.Ytpaakpbbahbhcaa.GoV.nest_below Pt_50.out bt_87)
                  replace Pt_69 := Lib.hid (own_below Pt_69.out bt_87)
                  replace Ot_43 := Lib.hid (Go.Proofs.Ytpaakpbbahbhcaa.GoV.nest_below Ot_43.out bt_87)
                  replace Ot_84 := Lib.hid (Go.Proofs.Ytpaakpbbahbhcaa.GoV.nest_below Ot_84.out bt_87)
                  clear bt_87
                  replace H := bind_hid H
                  obtain ⟨t_95, qt_95, H⟩ := H
                  go_wp2_with fail
                  go_at_call 37
                  refine (Go.Proofs.Ytpaakpbbahbhcaa.GlEqIntS.C (t_87a) (t_13a) At_87a ct_87a At_13a ct_13a _   (Lib.hid (own_cells Ot_87a.out)) (Lib.hid (own_max Ot_87a.out)) (Lib.hid (own_cells Ot_13a.out)) (Lib.hid (own_max Ot_13a.out)) qt_95).mono ?_
                  rintro e_t_95 wt_95 ⟨rfl, bt_95⟩
                  have HBwt_95 := Lib.hid (Below.step HBwt_87.out bt_95)
                  replace Ot_10 := Lib.hid (Go.Proofs.Ytpaakpbbahbhcaa.GoV.nest_below Ot_10.out bt_95)
                  replace Ot_13a := Lib.hid (own_below Ot_13a.out bt_95)
                  replace Pt_50 := Lib.hid (Go.Proofs.Ytpaakpbbahbhcaa.GoV.nest_below Pt_50.out bt_95)
                  replace Pt_69 := Lib.hid (own_below Pt_69.out bt_95)
                  replace Ot_43 := Lib.hid (Go.Proofs.Ytpaakpbbahbhcaa.GoV.nest_below Ot_43.out bt_95)
                  replace Ot_84 := Lib.hid (Go.Proofs.Ytpaakpbbahbhcaa.GoV.nest_below Ot_84.out bt_95)
                  replace Ot_87a := Lib.hid (own_below Ot_87a.out bt_95)
                  clear bt_95
                  cases t_95 with
                  | false =>
                    replace H := let_hid H
                    obtain ⟨t_96, ht_96, H⟩ := H
                    obtain rfl : t_96 = true := ht_96.symm
                    replace H := join_hid H
                    replace H := ite_t H
                    replace H := app_hid H
                    replace H := ite_t H
                    obtain rfl := ret_hid H
                    go_wp2_with fail
                    go_ret
                    exact ⟨rfl, HBwt_95.out⟩
                  | true =>
                    replace H := let_hid H
                    obtain ⟨t_96, ht_96, H⟩ := H
                    obtain rfl : t_96 = false := ht_96.symm
                    replace H := join_hid H
                    replace H := ite_f H
                    replace H := let_hid H
                    obtain ⟨t_100, ht_100, H⟩ := H
                    replace H := app_hid H
                    cases t_100 with
                    | false =>
                      replace H := ite_f H
                      replace H := bind_hid H
                      obtain ⟨t_106, qt_106, H⟩ := H
                      go_wp2_with fail
                      go_at_call 39
                      refine (Go.Proofs.Ytpaakpbbahbhcaa.GlHeldIntS.C (lt_69) (1) At_25a ct_25a _   (Lib.hid (own_cells Pt_69.out)) (Lib.hid (own_max Pt_69.out)) qt_106).mono ?_
                      rintro e_t_106 wt_106 ⟨rfl, bt_106⟩
                      have HBwt_106 := Lib.hid (Below.step HBwt_95.out bt_106)
                      replace Ot_10 := Lib.hid (Go.Proofs.Ytpaakpbbahbhcaa.GoV.nest_below Ot_10.out bt_106)
                      replace Ot_13a := Lib.hid (own_below Ot_13a.out bt_106)
                      replace Pt_50 := Lib.hid (Go.Proofs.Ytpaakpbbahbhcaa.GoV.nest_below Pt_50.out bt_106)
                      replace Pt_69 := Lib.hid (own_below Pt_69.out bt_106)
                      replace Ot_43 := Lib.hid (Go.Proofs.Ytpaakpbbahbhcaa.GoV.nest_below Ot_43.out bt_106)
                      replace Ot_84 := Lib.hid (Go.Proofs.Ytpaakpbbahbhcaa.GoV.nest_below Ot_84.out bt_106)
                      replace Ot_87a := Lib.hid (own_below Ot_87a.out bt_106)
                      clear bt_106
                      replace H := let_hid H
                      obtain ⟨t_109, ht_109, H⟩ := H
                      cases t_109 with
                      | false =>
                        replace H := ite_f H
                        replace H := let_hid H
                        obtain ⟨t_113, ht_113, H⟩ := H
                        cases t_113 with
                        | false =>
                          replace H := ite_f H
                          obtain rfl := ret_hid H
                          go_wp2_with fail
                          go_ret
                          exact ⟨rfl, HBwt_106.out⟩
                        | true =>
                          replace H := ite_t H
                          obtain rfl := ret_hid H
                          go_wp2_with fail
                          go_ret
                          exact ⟨rfl, HBwt_106.out⟩
                      | true =>
                        replace H := ite_t H
                        obtain rfl := ret_hid H
                        go_wp2_with fail
                        go_ret
                        exact ⟨rfl, HBwt_106.out⟩
                    | true =>
                      replace H := ite_t H
                      obtain rfl := ret_hid H
                      go_wp2_with fail
                      go_ret
                      exact ⟨rfl, HBwt_95.out⟩
                | true =>
                  replace H := ite_t H
                  obtain rfl := ret_hid H
                  go_wp2_with fail
                  go_ret
                  exact ⟨rfl, HBwt_74.out⟩
              | true =>
                replace H := ite_t H
                obtain rfl := ret_hid H
                go_wp2_with fail
                go_ret
                exact ⟨rfl, HBwt_74.out⟩
          | true =>
            replace H := ite_t H
            replace H := app_hid H
            replace H := join_hid H
            replace H := ite_t H
            replace H := app_hid H
            replace H := ite_t H
            obtain rfl := ret_hid H
            go_wp2_with fail
            go_ret
            exact ⟨rfl, HBwt_50.out⟩
      | true =>
        replace H := ite_t H
        obtain rfl := ret_hid H
        go_wp2_with fail
        go_ret
        exact ⟨rfl, HBwt_33.out⟩
  | true =>
    replace H := ite_t H
    obtain rfl := ret_hid H
    go_wp2_with fail
    go_ret
    exact ⟨rfl, HBwt_4.out⟩
end Go.Proofs.Ytpaakpbbahbhcaa.GlFnExactTraitsSeen

/- Chapter 8: rates: the plain functions of the program and of the reference agree, and the laws answer true. (QSort) No condition but those of each theorem. -/
namespace Go.Proofs.Ytpaakpbbahbhcaa.QSort
set_option linter.unusedVariables false
set_option linter.unusedSimpArgs false
open Go.RowKit
open Go.Proofs.Ytpaakpbbahbhcaa.GoP Go.Proofs.Ytpaakpbbahbhcaa.PlainStamp Go.Proofs.Ytpaakpbbahbhcaa.QBase Go.Proofs.Ytpaakpbbahbhcaa.QLoop

def sortI (l : List Int) : List Int := l.mergeSort fun x y => decide (x ≤ y)
theorem sortI_mem {l : List Int} {x : Int} : x ∈ sortI l ↔ x ∈ l := List.mem_mergeSort
theorem sortI_len (l : List Int) : (sortI l).length = l.length := List.length_mergeSort _
theorem sortI_up (l : List Int) : List.Pairwise (fun a b => a ≤ b) (sortI l) := by
  have h := List.pairwise_mergeSort (le := fun x y : Int => decide (x ≤ y)) (fun a b c h1 h2 => by simp at *; omega) (fun a b => by simp; omega) l
  exact h.imp (fun h => by simpa using h)
def compI (l : List Int) : List Int := Lib.compact l
theorem comp_key (l : List Int) (hs : List.Pairwise (fun a b => a ≤ b) l) : ∀ m, m ≤ l.length → List.Pairwise (fun a b => a < b) (Lib.compactUpTo l.toArray m) ∧ (∀ x, x ∈ Lib.compactUpTo l.toArray m ↔ ∃ j, j < m ∧ l[j]? = some x) := by
  intro m
  induction m with
  | zero => intro _; simp [Lib.compactUpTo]
  | succ m ih =>
    intro hm
    obtain ⟨h1, h2⟩ := ih (by omega)
    have hle : ∀ {i j : Nat} {x y : Int}, i ≤ j → l[i]? = some x → l[j]? = some y → x ≤ y := by
      intro i j x y hij hx hy
      obtain ⟨a1, a2⟩ := List.getElem?_eq_some_iff.1 hx
      obtain ⟨b1, b2⟩ := List.getElem?_eq_some_iff.1 hy
      by_cases he : i = j
      · subst he; rw [hx] at hy; simp at hy; omega
      · have := List.pairwise_iff_getElem.1 hs i j a1 b1 (by omega)
        rw [a2, b2] at this; exact this
    have hx : l[m]? = some l[m] := List.getElem?_eq_getElem (by omega)
    have g : l.toArray[m]! = l[m] := by simp [hx]
    rw [Lib.compactUpTo_succ]
    by_cases hk : Lib.keeps l.toArray m = true
    · rw [if_pos hk, g]
      have hlt : ∀ x, x ∈ Lib.compactUpTo l.toArray m → x < l[m] := by
        intro x hxm
        obtain ⟨j, hj, hjx⟩ := (h2 x).1 hxm
        have hp : m - 1 < l.length := by omega
        have h3 : x ≤ l[m-1] := hle (i := j) (j := m - 1) (by omega) hjx (List.getElem?_eq_getElem hp)
        have h4 : l[m-1] ≤ l[m] := hle (i := m - 1) (j := m) (by omega) (List.getElem?_eq_getElem hp) hx
        have h5 : l[m] ≠ l[m-1] := by
          unfold Lib.keeps at hk
          rw [decide_eq_true_eq] at hk
          rcases hk with h0 | h0
          · omega
          · rw [g] at h0
            have : l.toArray[m-1]! = l[m-1] := by simp [List.getElem?_eq_getElem hp]
            rw [this] at h0; exact h0
        omega
      refine ⟨List.pairwise_append.2 ⟨h1, by simp, fun a ha b hb => by simp at hb; subst hb; exact hlt a ha⟩, fun x => ?_⟩
      rw [List.mem_append, h2, List.mem_singleton]
      constructor
      · rintro (⟨j, hj, hjx⟩ | rfl)
        · exact ⟨j, by omega, hjx⟩
        · exact ⟨m, by omega, hx⟩
      · rintro ⟨j, hj, hjx⟩
        by_cases he : j = m
        · subst he; rw [hx] at hjx; simp at hjx; exact Or.inr hjx.symm
        · exact Or.inl ⟨j, by omega, hjx⟩
    · rw [if_neg hk, List.append_nil]
      refine ⟨h1, fun x => ?_⟩
      rw [h2]
      constructor
      · rintro ⟨j, hj, hjx⟩; exact ⟨j, by omega, hjx⟩
      · rintro ⟨j, hj, hjx⟩
        by_cases he : j = m
        · subst he
          have hm0 : ¬ (j = 0) ∧ l.toArray[j]! = l.toArray[j-1]! := by
            unfold Lib.keeps at hk
            simpa using hk
          have hp : j - 1 < l.length := by omega
          have h6 : l.toArray[j-1]! = l[j-1] := by simp [List.getElem?_eq_getElem hp]
          rw [hx] at hjx
          refine ⟨j - 1, by omega, ?_⟩
          rw [List.getElem?_eq_getElem hp, ← hjx, ← g, hm0.2, h6]
        · exact ⟨j, by omega, hjx⟩
theorem compI_up {l : List Int} (hs : List.Pairwise (fun a b => a ≤ b) l) : List.Pairwise (fun a b => a < b) (compI l) := (comp_key l hs l.length (Nat.le_refl _)).1
theorem compI_mem {l : List Int} (hs : List.Pairwise (fun a b => a ≤ b) l) {x : Int} : x ∈ compI l ↔ x ∈ l := by
  unfold compI Lib.compact
  rw [(comp_key l hs l.length (Nat.le_refl _)).2 x]
  constructor
  · rintro ⟨j, _, hj⟩; exact List.mem_of_getElem? hj
  · intro h
    obtain ⟨j, hj⟩ := List.getElem?_of_mem h
    exact ⟨j, (List.getElem?_eq_some_iff.1 hj).1, hj⟩
theorem compI_len (l : List Int) : (compI l).length ≤ l.length := Lib.compact_length_le l
theorem sort_eq (l : List Int) (h : l.length ≤ 1000000) : GxSlicesSortIntInt.P l = some (sortI l) := by unfold GxSlicesSortIntInt.P sortI; rw [if_pos (by omega)]
theorem comp_eq (l : List Int) : GxSlicesCompactIntInt.P l = some (compI l) := rfl
end Go.Proofs.Ytpaakpbbahbhcaa.QSort

/- Chapter 13: censuses: the plain functions of the program and of the reference agree, and the laws answer true. (Q13Traits) No condition but those of each theorem. -/
namespace Go.Proofs.Ytpaakpbbahbhcaa.Q13Traits
set_option linter.unusedVariables false
set_option linter.unusedSimpArgs false
open Go.RowKit
open Go.Proofs.Ytpaakpbbahbhcaa.GoP Go.Proofs.Ytpaakpbbahbhcaa.PlainStamp Go.Proofs.Ytpaakpbbahbhcaa.QBase Go.Proofs.Ytpaakpbbahbhcaa.Q13With Go.Proofs.Ytpaakpbbahbhcaa.QSort Go.Proofs.Ytpaakpbbahbhcaa.Q12Put Go.Proofs.Ytpaakpbbahbhcaa.Q13Find Go.Proofs.Ytpaakpbbahbhcaa.Q13Tools Go.Proofs.Ytpaakpbbahbhcaa.Q13Cover Go.Proofs.Ytpaakpbbahbhcaa.Q13Bonds Go.Proofs.Ytpaakpbbahbhcaa.Q13Ev Go.Proofs.Ytpaakpbbahbhcaa.Q13List Go.Proofs.Ytpaakpbbahbhcaa.Q13One Go.Proofs.Ytpaakpbbahbhcaa.QUp Go.Proofs.Ytpaakpbbahbhcaa.QLoop Go.Proofs.Ytpaakpbbahbhcaa.PSighting

/-- all traits of these, one behind the other -/
def flatT (xs : List Sighting) : List Int := xs.flatMap Sighting.traits
def traitsL (xs : List Sighting) : List Int := compI (sortI (flatT xs))
theorem flatT_len {xs : List Sighting} (h : ∀ x ∈ xs, x.traits.length ≤ 8) : (flatT xs).length ≤ 8 * xs.length := by
  induction xs with
  | nil => simp [flatT]
  | cons x xs ih =>
    have h1 := h x (by simp)
    have h2 := ih (fun y hy => h y (List.mem_cons_of_mem _ hy))
    unfold flatT at h2 ⊢
    rw [List.flatMap_cons, List.length_append, List.length_cons]; omega
theorem withS_ok {l : List Sighting} {L id : Int} : ∀ x ∈ withS l L id, x.traits.length ≤ 8 := by
  intro x hx
  unfold withS at hx
  cases h : okW l L id with
  | false => rw [h] at hx; simp at hx
  | true =>
    rw [h, if_pos rfl] at hx
    unfold okW at h
    simp only [Bool.and_eq_true] at h
    unfold covS at hx
    obtain ⟨j, hj, rfl⟩ := List.mem_map.1 hx
    exact (okSi_of (okSis_at h.1.1 (List.mem_of_getElem? (sAt_at (covN_mem.1 hj).1)))).2.2.2.1
def traitsRes (l : List Sighting) (L id : Int) : List Int × Bool := (traitsL (withS l L id), okW l L id)
theorem traits_impl (l : List Sighting) (L id : Int) : GiTraitsSeen.P l L id = some (traitsRes l L id) := by
  have hlen := withS_len l L id
  have hok := withS_ok (l := l) (L := L) (id := id)
  simp only [GiTraitsSeen.P, with_eq, Option.bind_some]
  refine cnt_is _ (fun k (s : List Int) => s = flatT ((withS l L id).take k)) ?_ ?_ _ rfl
  · rintro k s nx hkl rfl hn'
    obtain ⟨x, hx, hxi⟩ := at_lt (l := withS l L id) (k := k) hkl
    have h1 := hok x (List.mem_of_getElem? hx)
    have h2 := flatT_len (xs := (withS l L id).take k) (fun y hy => hok y (List.mem_of_mem_take hy))
    rw [List.length_take] at h2
    simp only [GiTraitsSeen.l0, hxi, Option.bind_some, unSighting, letK, appK]
    rw [guardK_pos (by omega)]
    refine hn' _ ?_
    rw [take_next hx]; simp [flatT]
  · rintro s rfl
    rw [List.take_of_length_le (Nat.le_refl _)]
    have h2 := flatT_len hok
    have hd : decide ((0 : Int) < ((withS l L id).length : Int)) = okW l L id := by
      cases h : okW l L id with
      | true => have := withS_some h; simp; omega
      | false =>
        have : withS l L id = [] := by unfold withS; rw [if_neg (by simp [h])]
        rw [this]; rfl
    simp only [GiTraitsSeen.e0, letK, sort_eq _ (by omega : (flatT (withS l L id)).length ≤ 1000000), comp_eq, Option.bind_some, hd]
    rfl
theorem traits_spec (l : List Sighting) (L id : Int) (hf : ∀ s ∈ l, sz13 s) (hl : l.length ≤ 9223372036854775807) (fuel : Nat) (hfu : 2000 ≤ fuel) : GsTraitsSeen.P fuel l L id = some (traitsRes l L id) := by
  simp only [GsTraitsSeen.P, l13Find_eq, l13Good_eq l hf hl, l13Limit_eq, Option.bind_some, letK, joinK, appK, iteK_if]
  have hempty : okW l L id = false → traitsRes l L id = ([], false) := by
    intro h
    have : withS l L id = [] := by unfold withS; rw [if_neg (by simp [h])]
    unfold traitsRes
    rw [this, h]
    have : traitsL [] = [] := by
      have h1 : (traitsL []).length ≤ 0 := by
        unfold traitsL
        have := compI_len (sortI (flatT []))
        rw [sortI_len] at this
        simpa [flatT] using this
      exact List.length_eq_zero_iff.1 (by omega)
    rw [this]
  cases hk : okSis l with
  | false => rw [hempty (by simp [okW, hk])]; simp
  | true =>
    cases hL0 : inB L (-30) 16 with
    | false => rw [hempty (by simp [okW, hk, hL0])]; simp
    | true =>
      by_cases h0 : 0 ≤ fnd l id
      · have hw : okW l L id = true := by simp [okW, hk, hL0, h0]
        have hL := inB_of hL0
        have hn := okSis_len hk
        have hok := withS_ok (l := l) (L := L) (id := id)
        obtain ⟨h1, h2⟩ := fnd_lt h0
        generalize hi : (fnd l id).toNat = i at h1 h2
        have hws : withS l L id = covS l L i := by unfold withS; rw [if_pos hw, hi]
        rw [hws] at hok
        have hcov : (covN l L i).length ≤ 10 := by have := covN_len l L i; omega
        have hcS : (covS l L i).length = (covN l L i).length := by unfold covS; rw [List.length_map]
        simp only [Bool.not_true, Bool.false_eq_true, if_false]
        rw [if_neg (by simp; omega), h2]
        simp only [cover_eq hk (by omega : L ≤ 16) h1 fuel hfu, Option.bind_some]
        have hres : traitsRes l L id = (traitsL (covS l L i), true) := by unfold traitsRes; rw [hws, hw]
        rw [hres]
        have hcl : (cov l L i).length = (covN l L i).length := by unfold cov; rw [List.length_map]
        rw [hcl]
        refine cnt_is _ (fun k (s : List Int) => List.Pairwise (fun a b => a < b) s ∧ (∀ x, x ∈ s ↔ x ∈ flatT ((covS l L i).take k)) ∧ s.length ≤ 8 * k) ?_ ?_ _ ⟨List.Pairwise.nil, by simp [flatT], by simp⟩
        · rintro k s nx hkl ⟨hu, hm, hln⟩ hn'
          obtain ⟨j, hj, _⟩ := at_lt (l := covN l L i) (k := k) hkl
          have hjl := (covN_mem.1 (List.mem_of_getElem? hj)).1
          have hci : idx (cov l L i) (k : Int) = some (j : Int) := by rw [idx_nat]; unfold cov; rw [List.getElem?_map, hj]; rfl
          have hyi : idx l (j : Int) = some (sAt l j) := by rw [idx_nat]; exact sAt_at hjl
          have hx : (covS l L i)[k]? = some (sAt l j) := by unfold covS; rw [List.getElem?_map, hj]; rfl
          have h8 := hok _ (List.mem_of_getElem? hx)
          simp only [GsTraitsSeen.l0, hci, hyi, Option.bind_some, unSighting, letK]
          refine cnt_is _ (fun q (o : List Int) => List.Pairwise (fun a b => a < b) o ∧ (∀ x, x ∈ o ↔ x ∈ flatT ((covS l L i).take k) ∨ x ∈ (sAt l j).traits.take q) ∧ o.length ≤ 8 * k + q) ?_ ?_ _ ⟨hu, by intro x; rw [hm]; simp, by omega⟩
          · rintro q o nx' hq ⟨gu, gm, gl⟩ hn''
            obtain ⟨y, hy, hyy⟩ := at_lt (l := (sAt l j).traits) (k := q) hq
            obtain ⟨m, hm2, hmu, hmm, hml⟩ := put_eq (fuel := fuel) (l := o) (by omega) gu y (by omega)
            simp only [GsTraitsSeen.l1, hyy, hm2, Option.bind_some, letK, appK]
            refine hn'' _ ⟨hmu, fun x => ?_, by omega⟩
            rw [hmm, gm, take_next hy, List.mem_append, List.mem_singleton]
            constructor
            · rintro (h | h | h)
              · exact .inr (.inr h)
              · exact .inl h
              · exact .inr (.inl h)
            · rintro (h | h | h)
              · exact .inr (.inl h)
              · exact .inr (.inr h)
              · exact .inl h
          · rintro o ⟨gu, gm, gl⟩
            simp only [GsTraitsSeen.e1, letK, appK]
            rw [List.take_of_length_le (Nat.le_refl _)] at gm
            refine hn' _ ⟨gu, fun x => ?_, by omega⟩
            rw [gm, take_next hx]; simp [flatT]
        · rintro s ⟨hu, hm, hln⟩
          rw [List.take_of_length_le (by omega)] at hm
          simp only [GsTraitsSeen.e0, letK]
          congr 1
          congr 1
          refine strict_ext hu (compI_up (sortI_up _)) fun x => ?_
          unfold traitsL
          rw [hm, compI_mem (sortI_up _), sortI_mem]
      · rw [hempty (by simp [okW, h0])]
        simp only [Bool.not_true, Bool.false_eq_true, if_false]
        rw [if_pos (by simp; omega)]
theorem traitsRes_len (l : List Sighting) (L id : Int) : (traitsRes l L id).1.length ≤ 1000 := by
  unfold traitsRes traitsL
  have h1 := compI_len (sortI (flatT (withS l L id)))
  rw [sortI_len] at h1
  have h2 := flatT_len (withS_ok (l := l) (L := L) (id := id))
  have h3 := withS_len l L id
  dsimp only
  omega
end Go.Proofs.Ytpaakpbbahbhcaa.Q13Traits

