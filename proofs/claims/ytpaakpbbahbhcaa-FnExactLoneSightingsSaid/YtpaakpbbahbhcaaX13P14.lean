/- Texts on which the proofs of several laws stand, one behind the other (14 of 20). No condition of their own. -/
import Derived.Test.YtpaakpbbahbhcaaChecked
import Derived.Test.YtpaakpbbahbhcaaX13P1
import Derived.Test.YtpaakpbbahbhcaaX13P2
import Derived.Test.YtpaakpbbahbhcaaX13P5
import Derived.Test.YtpaakpbbahbhcaaX13P6
import Derived.WalkKit
import Derived.WalkSpells
import Derived.WalkLawsBesides
import Derived.BigQuiet
import Derived.OwnWalk
import Derived.Deep.LoopGhost
import Derived.Deep.QuietTactic
import Derived.IntWalk
import Derived.Lib.QuietBelow
import Derived.Test.YtpaakpbbahbhcaaX13P8
import Derived.Test.YtpaakpbbahbhcaaX13P3
import Derived.Test.YtpaakpbbahbhcaaX13P4
import Derived.Test.YtpaakpbbahbhcaaX13P9
/- loop.example/g01062/spec.LoneSightings as a plain function, and the contract of the program's: where the plain one has an answer, the program has it. Conditions: slices read as lists. -/
namespace Go.Proofs.Ytpaakpbbahbhcaa.GsLoneSightings
set_option linter.unusedVariables false
set_option linter.unusedSimpArgs false
open Go.RowKit
open Go.Proofs.Ytpaakpbbahbhcaa.Rowed Go.Proofs.Ytpaakpbbahbhcaa.Turn Go.Proofs.Ytpaakpbbahbhcaa.Aid Go.Proofs.Ytpaakpbbahbhcaa.GoP Go.Proofs.Ytpaakpbbahbhcaa.GoM

def l0 (list : (List Go.Proofs.Ytpaakpbbahbhcaa.PSighting.Sighting)) (limit : Int) (fuel : Nat) (k0 : Nat) (s : (List Int)) (nx0 bk0 : (List Int) → Option ((List Int) × Bool)) : Option ((List Int) × Bool) :=
  letK s fun out_6l0 =>
  Option.bind (Go.Proofs.Ytpaakpbbahbhcaa.GsL13Cover.P fuel list limit (k0 : Int)) fun (t_23 : (List Int)) =>
  letK ((t_23.length : Int) == 1) fun (t_25 : Bool) =>
  iteK t_25
  (Option.bind (idx list (k0 : Int)) fun (yt_29 : Go.Proofs.Ytpaakpbbahbhcaa.PSighting.Sighting) =>
  unSighting yt_29 fun (t_29_id : Int) (t_29_year : Int) (t_29_town : ByteArray) (t_29_traits : (List Int)) =>
  guardK (out_6l0.length ≤ 1099511627776) <|
  letK (out_6l0 ++ [t_29_id]) fun (t_33 : (List Int)) =>
  appK nx0 (t_33))
  (appK nx0 (out_6l0))

def e0  (s : (List Int)) : Option ((List Int) × Bool) :=
  letK s fun out_6l0 =>
  some (out_6l0, true)

def P (fuel : Nat) (list : (List Go.Proofs.Ytpaakpbbahbhcaa.PSighting.Sighting)) (limit : Int) : Option ((List Int) × Bool) :=
  Option.bind (Go.Proofs.Ytpaakpbbahbhcaa.GsL13Good.P list) fun (t_5 : Bool) =>
  letK (!t_5) fun (t_6 : Bool) =>
  joinK (fun (t_11 : Bool) =>
  iteK t_11
  (some (([] : List Int), false))
  (cntK (l0 list limit fuel) (list.length) 0 (([] : List Int)) (e0 ))) fun jt_11 => iteK t_6 (appK jt_11 true) (Option.bind (Go.Proofs.Ytpaakpbbahbhcaa.GsL13Limit.P limit) fun (t_9 : Bool) =>
  letK (!t_9) fun (t_10 : Bool) =>
  appK jt_11 t_10)

set_option maxRecDepth 100000 in
set_option maxHeartbeats 2000000 in
theorem C (fuel : Nat) (list : (List Go.Proofs.Ytpaakpbbahbhcaa.PSighting.Sighting)) (limit : Int) (A0 : Option Addr) (c0 : Nat)  (w : World) (M0 : Hid (Go.Proofs.Ytpaakpbbahbhcaa.GoV.ReadNest w Go.Proofs.Ytpaakpbbahbhcaa.GoVSighting.lay A0 list)) (N0 : Hid (list.length ≤ 9223372036854775807))  {r0 : (List Int)} {r1 : Bool} (H : Hid (P fuel list limit = some (r0, r1))) :
    Calls Try.prog 26 #[.slice A0 list.length c0, .int .i64 limit] w (fun e w' => ∃ A_r0 c_r0, e = .returned (.tuple #[.slice A_r0 r0.length c_r0, .bool r1]) ∧ w'.ownsRow w.heap.size 3 1 (.slice A_r0 r0.length c_r0) r0.length (Go.Proofs.Ytpaakpbbahbhcaa.HelpInt.iv r0) ∧ Below w.heap.size w w') := by
  have HB := Lib.hid (Below.refl w.heap.size w)
  unfold P at H
  have N0o := N0.out
  obtain ⟨i0_3, hi_3, hz0_3, hz1_3, hz2_3⟩ := Aid.info_parts (P := Try.prog) (T := 3) (z := .int .i64 0) (s := 1) (b := 8) (by kernel_rfl)
  go_enter Try.func26, Try.ntmps26
  obtain ⟨w_t_2, hw_t_2⟩ : ∃ x, w.alloc (.cells #[] 3) = x := ⟨_, rfl⟩
  have bw_t_2 : Below w.heap.size w w_t_2 := by rw [← hw_t_2]; exact (Below.refl _ _).alloc (Nat.le_refl _) _
  have Ot_2 : Hid (w_t_2.ownsRow w.heap.size 3 1 (.slice (some ⟨w.heap.size, 0, none⟩) 0 0) 0 []) := Lib.hid (by rw [← hw_t_2]; exact own_empty HB.out.size)
  have HBw_t_2 := Lib.hid (Below.step HB.out bw_t_2)
  clear bw_t_2
  replace H := bind_hid H
  obtain ⟨t_5, qt_5, H⟩ := H
  go_wp2_with fail
  go_at_call 56
  refine (Go.Proofs.Ytpaakpbbahbhcaa.GsL13Good.C (list) A0 c0 _   (Lib.hid (Go.Proofs.Ytpaakpbbahbhcaa.GoV.read_below M0.out HBw_t_2.out)) N0 qt_5).mono ?_
  rintro e_t_5 wt_5 ⟨rfl, bt_5⟩
  have HBwt_5 := Lib.hid (Below.step HBw_t_2.out bt_5)
  replace Ot_2 := Lib.hid (own_below Ot_2.out bt_5)
  clear bt_5
  cases t_5 with
  | false =>
    replace H := let_hid H
    obtain ⟨t_6, ht_6, H⟩ := H
    obtain rfl : t_6 = true := ht_6.symm
    replace H := join_hid H
    replace H := ite_t H
    replace H := app_hid H
    replace H := ite_t H
    cases ret_hid H
    go_wp2_with fail
    go_ret2
    exact ⟨(some ⟨w.heap.size, 0, none⟩), 0, rfl, Ot_2.out, HBwt_5.out⟩
  | true =>
    replace H := let_hid H
    obtain ⟨t_6, ht_6, H⟩ := H
    obtain rfl : t_6 = false := ht_6.symm
    replace H := join_hid H
    replace H := ite_f H
    replace H := bind_hid H
    obtain ⟨t_9, qt_9, H⟩ := H
    go_wp2_with fail
    go_at_call 65
    refine (Go.Proofs.Ytpaakpbbahbhcaa.GsL13Limit.C (limit)  _    qt_9).mono ?_
    rintro e_t_9 wt_9 ⟨rfl, bt_9⟩
    have HBwt_9 := Lib.hid (Below.step HBwt_5.out bt_9)
    replace Ot_2 := Lib.hid (own_below Ot_2.out bt_9)
    clear bt_9
    cases t_9 with
    | false =>
      replace H := let_hid H
      obtain ⟨t_10, ht_10, H⟩ := H
      obtain rfl : t_10 = true := ht_10.symm
      replace H := app_hid H
      replace H := ite_t H
      cases ret_hid H
      go_wp2_with fail
      go_ret2
      exact ⟨(some ⟨w.heap.size, 0, none⟩), 0, rfl, Ot_2.out, HBwt_9.out⟩
    | true =>
      replace H := let_hid H
      obtain ⟨t_10, ht_10, H⟩ := H
      obtain rfl : t_10 = false := ht_10.symm
      replace H := app_hid H
      replace H := ite_f H
      go_wp2_with fail
      go_loopg [7, 6] (list.length) (fun m_ v7_ v6_ wr => ∃ (k0 : Nat) (out_6l0 : (List Int)) (Aout_6l0 : Option Addr) (cout_6l0 : Nat), k0 + m_ = list.length ∧ v7_ = .int .i64 (k0 : Int) ∧ v6_ = .slice Aout_6l0 out_6l0.length cout_6l0 ∧ Hid (cntK (l0 list limit fuel) m_ k0 (out_6l0) (e0 ) = some (r0, r1)) ∧ Hid (Below w.heap.size w wr) ∧ Hid (wr.ownsRow w.heap.size 3 1 (.slice Aout_6l0 out_6l0.length cout_6l0) out_6l0.length (Go.Proofs.Ytpaakpbbahbhcaa.HelpInt.iv out_6l0)))
      case atStart => exact ⟨0, _, _, _, by omega, rfl, rfl, H, HBwt_9, Ot_2⟩
      case round =>
        obtain ⟨k0, out_6l0, Aout_6l0, cout_6l0, hkm0, rfl, rfl, H, HBwr0, Oout_6l0⟩ := hrel
        rename World => wr0
        cases gk with
        | zero =>
          obtain rfl : k0 = list.length := by omega
          have hc0 : decide (((list.length : Nat) : Int) < ((list.length : Nat) : Int)) = false := by simp
          replace H := cnt_zero H
          unfold e0 at H
          replace H := let_hid H
          obtain ⟨_, rfl, H⟩ := H
          cases ret_hid H
          go_wp2_with fail
          go_ret2
          exact ⟨Aout_6l0, cout_6l0, rfl, Oout_6l0.out, HBwr0.out⟩
        | succ m0 =>
          have hlt0 : k0 < list.length := by omega
          have hc0 : decide ((k0 : Int) < ((list.length : Nat) : Int)) = true := by simp; omega
          replace H := cnt_succ H
          unfold l0 at H
          replace H := let_hid H
          obtain ⟨_, rfl, H⟩ := H
          replace H := bind_hid H
          obtain ⟨t_23, qt_23, H⟩ := H
          go_wp2_with fail
          go_at_call 58
          refine (Go.Proofs.Ytpaakpbbahbhcaa.GsL13Cover.C fuel (list) (limit) ((k0 : Int)) A0 c0 _   (Lib.hid (Go.Proofs.Ytpaakpbbahbhcaa.GoV.read_below M0.out HBwr0.out)) N0 qt_23).mono ?_
          rintro e_t_23 wt_23 ⟨At_23, ct_23, rfl, ot_23, bt_23⟩
          have Dt_23_out_6l0 := Lib.hid (apart_call ot_23 Oout_6l0.out)
          have Ot_23 := Lib.hid (own_lower ot_23 HBwr0.out.size)
          clear ot_23
          have HBwt_23 := Lib.hid (Below.step HBwr0.out bt_23)
          replace Oout_6l0 := Lib.hid (own_below Oout_6l0.out bt_23)
          clear bt_23
          replace H := let_hid H
          obtain ⟨t_25, ht_25, H⟩ := H
          cases t_25 with
          | false =>
            have nht_25 : ¬ (t_23.length = 1) := by have := ne_of_beq_false ht_25; omega
            replace H := ite_f H
            replace H := app_hid H
            go_wp2_with fail
            go_roundg m0
            case measure => omega
            case rel => exact ⟨k0 + 1, _, _, _, by omega, by go_num, rfl, H, HBwt_23, Oout_6l0⟩
          | true =>
            have Hht_25 : Hid (t_23.length = 1) := Lib.hid (by have := eq_of_beq ht_25; omega)
            have nht_25 : (t_23.length == 1) = true := beq_iff_eq.2 Hht_25.out
            replace H := ite_t H
            replace H := idx_hid H
            obtain ⟨nt_29, yt_29, et_29, lt_29, gt_29, H⟩ := H
            obtain rfl : k0 = nt_29 := by omega
            clear et_29
            obtain ⟨t_29_id, t_29_year, t_29_town, t_29_traits⟩ := yt_29
            replace H := unSighting_hid H
            obtain ⟨bbt_29, oot_29, zt_29, Art_29, crt_29, eAt_29, zzt_29, hKt_29, hrt_29, hqt_29, hnt_29⟩ := Go.Proofs.Ytpaakpbbahbhcaa.GoV.nest_at M0.out (k := k0) lt_29
            obtain rfl := Option.some.inj (gt_29.out.symm.trans zzt_29)
            clear zzt_29
            subst eAt_29
            have hct_29_0 : w.cell? ⟨bbt_29, oot_29 + k0 * 4, none⟩ = some (.int .i64 t_29_id) := hKt_29 0 _ rfl
            have hct_29_1 : w.cell? ⟨bbt_29, oot_29 + k0 * 4 + 1, none⟩ = some (.int .i64 t_29_year) := hKt_29 1 _ rfl
            have hct_29_2 : w.cell? ⟨bbt_29, oot_29 + k0 * 4 + 2, none⟩ = some (.string t_29_town) := hKt_29 2 _ rfl
            have hct_29_3 : w.cell? ⟨bbt_29, oot_29 + k0 * 4 + 3, none⟩ = some (.slice Art_29 t_29_traits.length crt_29) := hKt_29 3 _ rfl
            clear hKt_29
            have ltt_29 := cell_lt hct_29_0
            replace hct_29_0 := cell_below HBwt_23.out hct_29_0
            replace hct_29_1 := cell_below HBwt_23.out hct_29_1
            replace hct_29_2 := cell_below HBwt_23.out hct_29_2
            replace hct_29_3 := cell_below HBwt_23.out hct_29_3
            have Mrt_29 := Lib.hid hrt_29
            have Qrt_29 := Lib.hid hqt_29
            have Nrt_29 := Lib.hid hnt_29
            clear hrt_29 hqt_29 hnt_29
            have b0t_29 : (0 : Int) ≤ (k0 : Int) := by omega
            have b1t_29 : (k0 : Int) < ((list.length : Nat) : Int) := by omega
            have b2t_29 : ((k0 : Int)).toNat = k0 := by omega
            obtain ⟨w_t_32, hw_t_32⟩ : ∃ x, wt_23.alloc (.cells #[.int .i64 t_29_id] 3) = x := ⟨_, rfl⟩
            have bw_t_32 : Below wt_23.heap.size wt_23 w_t_32 := by rw [← hw_t_32]; exact (Below.refl _ _).alloc (Nat.le_refl _) _
            have HBw_t_32 := Lib.hid (Below.step HBwt_23.out bw_t_32)
            have hct_29_0__257 := cell_below bw_t_32 hct_29_0
            have hct_29_1__258 := cell_below bw_t_32 hct_29_1
            have hct_29_2__259 := cell_below bw_t_32 hct_29_2
            have hct_29_3__260 := cell_below bw_t_32 hct_29_3
            replace Oout_6l0 := Lib.hid (own_below Oout_6l0.out bw_t_32)
            replace Ot_23 := Lib.hid (own_below Ot_23.out bw_t_32)
            clear bw_t_32
            replace H := guard_hid H
            obtain ⟨hlt_33, H⟩ := H
            replace H := let_hid H
            obtain ⟨t_33, ht_33, H⟩ := H
            have hht_33 := Lib.hid ht_33
            clear ht_33
            have hst_33 := HBw_t_32.out.size
            go_wp2_with (at_builtin; refine wpList_append_own_at _ rfl _ _ 32 rfl w.heap.size 3 i0_3 (.int .i64 0) 1 8 Try.underlying32 hi_3 hz0_3 hz1_3 hz2_3 rfl (by decide) _ _ _ rfl Oout_6l0.out ⟨wt_23.heap.size, 0, none⟩ 1 1 [.int .i64 t_29_id] rfl rfl (news_new hw_t_32) (one_cells rfl) (by unfold maxLen; omega) (by omega) hst_33 ?_; intro vt_33 wt_33 ot_33 gt_33 zt_33 yt_33; clear zt_33; obtain ⟨qt_33, ct_33, rfl, pt_33⟩ := own_push hht_33.out (Go.Proofs.Ytpaakpbbahbhcaa.HelpInt.iv_snoc _ _) rfl ot_33; have Pt_33 := Lib.hid pt_33; have Yt_33 := Lib.hid yt_33; have Gt_33 := Lib.hid gt_33; clear ot_33 gt_33 pt_33 yt_33; refine stop_in ?_)
            refine stop_out ?_
            have HBwt_33 := Lib.hid (HBw_t_32.out.grown Gt_33.out hst_33 (fun q hq => (Oout_6l0.out.lt q hq).1))
            clear hst_33
            have Dt_33_t_23 : Hid (Apart (some ⟨qt_33, 0, none⟩) _) := Lib.hid (apart_app (Apart.symm Dt_23_out_6l0.out) (fun a_ ha_ => (own_lt Ot_23.out a_ ha_).2) Yt_33.out)
            replace hct_29_0__257 := cell_other hct_29_0__257 Gt_33.out (apart_old Oout_6l0.out ltt_29)
            replace hct_29_1__258 := cell_other hct_29_1__258 Gt_33.out (apart_old Oout_6l0.out ltt_29)
            replace hct_29_2__259 := cell_other hct_29_2__259 Gt_33.out (apart_old Oout_6l0.out ltt_29)
            replace hct_29_3__260 := cell_other hct_29_3__260 Gt_33.out (apart_old Oout_6l0.out ltt_29)
            replace Ot_23 := Lib.hid (own_other Ot_23.out Gt_33.out (Apart.symm Dt_23_out_6l0.out))
            clear hct_29_0 hct_29_1 hct_29_2 hct_29_3
            clear Oout_6l0 Yt_33 Gt_33
            replace H := app_hid H
            go_wp2_with fail
            go_roundg m0
            case measure => omega
            case rel => exact ⟨k0 + 1, _, _, _, by omega, by go_num, rfl, H, HBwt_33, Pt_33⟩
end Go.Proofs.Ytpaakpbbahbhcaa.GsLoneSightings

/- loop.example/g01062/impl.LoneSightings as a plain function, and the contract of the program's: where the plain one has an answer, the program has it. Conditions: slices read as lists. -/
namespace Go.Proofs.Ytpaakpbbahbhcaa.GiLoneSightings
set_option linter.unusedVariables false
set_option linter.unusedSimpArgs false
open Go.RowKit
open Go.Proofs.Ytpaakpbbahbhcaa.Rowed Go.Proofs.Ytpaakpbbahbhcaa.Turn Go.Proofs.Ytpaakpbbahbhcaa.Aid Go.Proofs.Ytpaakpbbahbhcaa.GoP Go.Proofs.Ytpaakpbbahbhcaa.GoM

def l0 (t_4a : (List (List Int))) (k0 : Nat) (s : (List Int)) (nx0 bk0 : (List Int) → Option ((List Int) × Bool)) : Option ((List Int) × Bool) :=
  letK s fun lone_8l0 =>
  Option.bind (idx t_4a (k0 : Int)) fun (yt_16 : (List Int)) =>
  letK ((yt_16.length : Int) == 1) fun (t_21 : Bool) =>
  iteK t_21
  (Option.bind (idx yt_16 0) fun (yt_24 : Int) =>
  guardK (lone_8l0.length ≤ 1099511627776) <|
  letK (lone_8l0 ++ [yt_24]) fun (t_27 : (List Int)) =>
  appK nx0 (t_27))
  (appK nx0 (lone_8l0))

def e0 (t_4b : Bool) (s : (List Int)) : Option ((List Int) × Bool) :=
  letK s fun lone_8l0 =>
  some (lone_8l0, t_4b)

def P (list : (List Go.Proofs.Ytpaakpbbahbhcaa.PSighting.Sighting)) (limit : Int) : Option ((List Int) × Bool) :=
  bind2 (Go.Proofs.Ytpaakpbbahbhcaa.GiCoversSeen.P list limit) fun (t_4a : (List (List Int))) (t_4b : Bool) =>
  cntK (l0 t_4a) (t_4a.length) 0 (([] : List Int)) (e0 t_4b)

set_option maxRecDepth 100000 in
set_option maxHeartbeats 2000000 in
theorem C (list : (List Go.Proofs.Ytpaakpbbahbhcaa.PSighting.Sighting)) (limit : Int) (A0 : Option Addr) (c0 : Nat)  (w : World) (M0 : Hid (Go.Proofs.Ytpaakpbbahbhcaa.GoV.ReadNest w Go.Proofs.Ytpaakpbbahbhcaa.GoVSighting.lay A0 list)) (N0 : Hid (list.length ≤ 9223372036854775807)) (Q0 : Hid (Room A0 list.length c0))  {r0 : (List Int)} {r1 : Bool} (H : Hid (P list limit = some (r0, r1))) :
    Calls Try.prog 25 #[.slice A0 list.length c0, .int .i64 limit] w (fun e w' => ∃ A_r0 c_r0, e = .returned (.tuple #[.slice A_r0 r0.length c_r0, .bool r1]) ∧ w'.ownsRow w.heap.size 3 1 (.slice A_r0 r0.length c_r0) r0.length (Go.Proofs.Ytpaakpbbahbhcaa.HelpInt.iv r0) ∧ Below w.heap.size w w') := by
  have HB := Lib.hid (Below.refl w.heap.size w)
  unfold P at H
  have N0o := N0.out
  obtain ⟨i0_3, hi_3, hz0_3, hz1_3, hz2_3⟩ := Aid.info_parts (P := Try.prog) (T := 3) (z := .int .i64 0) (s := 1) (b := 8) (by kernel_rfl)
  go_enter Try.func25, Try.ntmps25
  replace H := bind2_hid H
  obtain ⟨t_4a, t_4b, qt_4, H⟩ := H
  go_wp2_with fail
  go_at_call 20
  refine (Go.Proofs.Ytpaakpbbahbhcaa.GiCoversSeen.C (list) (limit) A0 c0 _   (Lib.hid (Go.Proofs.Ytpaakpbbahbhcaa.GoV.read_below M0.out HB.out)) N0 Q0 qt_4).mono ?_
  rintro e_t_4 wt_4 ⟨At_4a, ct_4a, rfl, ⟨Bt_4a, ot_4a⟩, bt_4⟩
  have Ot_4a := Lib.hid (Go.Proofs.Ytpaakpbbahbhcaa.GoN.nest_lower ot_4a HB.out.size)
  clear ot_4a
  have HBwt_4 := Lib.hid (Below.step HB.out bt_4)
  clear bt_4
  obtain ⟨w_t_10, hw_t_10⟩ : ∃ x, wt_4.alloc (.cells #[] 3) = x := ⟨_, rfl⟩
  have bw_t_10 : Below wt_4.heap.size wt_4 w_t_10 := by rw [← hw_t_10]; exact (Below.refl _ _).alloc (Nat.le_refl _) _
  have Ot_10 : Hid (w_t_10.ownsRow w.heap.size 3 1 (.slice (some ⟨wt_4.heap.size, 0, none⟩) 0 0) 0 []) := Lib.hid (by rw [← hw_t_10]; exact own_empty HBwt_4.out.size)
  have Dt_10_t_4a := Lib.hid (Go.Proofs.Ytpaakpbbahbhcaa.GoN.nest_fresh Ot_4a.out)
  have HBw_t_10 := Lib.hid (Below.step HBwt_4.out bw_t_10)
  replace Ot_4a := Lib.hid (Go.Proofs.Ytpaakpbbahbhcaa.GoN.nest_below Ot_4a.out bw_t_10)
  clear bw_t_10
  have hb_0 : t_4a.length ≤ 9223372036854775807 := Go.Proofs.Ytpaakpbbahbhcaa.GoN.nest_max Ot_4a.out
  go_wp2_with fail
  go_loopg [20, 8] (t_4a.length) (fun m_ v20_ v8_ wr => ∃ (k0 : Nat) (lone_8l0 : (List Int)) (Alone_8l0 : Option Addr) (clone_8l0 : Nat), k0 + m_ = t_4a.length ∧ v20_ = .int .i64 (k0 : Int) ∧ v8_ = .slice Alone_8l0 lone_8l0.length clone_8l0 ∧ Hid (cntK (l0 t_4a) m_ k0 (lone_8l0) (e0 t_4b) = some (r0, r1)) ∧ Hid (Below w.heap.size w wr) ∧ Hid (wr.ownsRow w.heap.size 3 1 (.slice Alone_8l0 lone_8l0.length clone_8l0) lone_8l0.length (Go.Proofs.Ytpaakpbbahbhcaa.HelpInt.iv lone_8l0)) ∧ Hid (Go.Proofs.Ytpaakpbbahbhcaa.GoN.OwnNest wr (w.heap.size) 32 3 1 Go.Proofs.Ytpaakpbbahbhcaa.HelpInt.iv At_4a ct_4a t_4a Bt_4a) ∧ Hid (∀ y_ ∈ Bt_4a, Apart Alone_8l0 y_))
  case atStart => exact ⟨0, _, _, _, by omega, rfl, rfl, H, HBw_t_10, Ot_10, Ot_4a, Lib.hid Dt_10_t_4a.out⟩
  case round =>
    obtain ⟨k0, lone_8l0, Alone_8l0, clone_8l0, hkm0, rfl, rfl, H, HBwr0, Olone_8l0, Ot_4a, Dlone_8l0_t_4a⟩ := hrel
    rename World => wr0
    cases gk with
    | zero =>
      obtain rfl : k0 = t_4a.length := by omega
      have hc0 : decide (((t_4a.length : Nat) : Int) < ((t_4a.length : Nat) : Int)) = false := by simp
      replace H := cnt_zero H
      unfold e0 at H
      replace H := let_hid H
      obtain ⟨_, rfl, H⟩ := H
      cases ret_hid H
      go_wp2_with fail
      go_ret2
      exact ⟨Alone_8l0, clone_8l0, rfl, Olone_8l0.out, HBwr0.out⟩
    | succ m0 =>
      have hlt0 : k0 < t_4a.length := by omega
      have hc0 : decide ((k0 : Int) < ((t_4a.length : Nat) : Int)) = true := by simp; omega
      replace H := cnt_succ H
      unfold l0 at H
      replace H := let_hid H
      obtain ⟨_, rfl, H⟩ := H
      replace H := idx_hid H
      obtain ⟨nt_16, yt_16, et_16, lt_16, gt_16, H⟩ := H
      obtain rfl : k0 = nt_16 := by omega
      clear et_16
      obtain ⟨gt_16_, zt_16, Art_16, crt_16, eAt_16, zzt_16, hct_16, hot_16, hmt_16, hat_16⟩ := Go.Proofs.Ytpaakpbbahbhcaa.GoN.nest_own Ot_4a.out (k := k0) lt_16
      obtain rfl := Option.some.inj (gt_16.out.symm.trans zzt_16)
      clear zzt_16
      subst eAt_16
      have Ort_16 := Lib.hid hot_16
      have mrt_16 := Lib.hid hmt_16
      clear hot_16 hmt_16 hat_16
      have b0t_16 : (0 : Int) ≤ (k0 : Int) := by omega
      have b1t_16 : (k0 : Int) < ((t_4a.length : Nat) : Int) := by omega
      have b2t_16 : ((k0 : Int)).toNat = k0 := by omega
      replace H := let_hid H
      obtain ⟨t_21, ht_21, H⟩ := H
      cases t_21 with
      | false =>
        have nht_21 : ¬ (yt_16.length = 1) := by have := ne_of_beq_false ht_21; omega
        replace H := ite_f H
        replace H := app_hid H
        go_wp2_with fail
        go_roundg m0
        case measure => omega
        case rel => exact ⟨k0 + 1, _, _, _, by omega, by go_num, rfl, H, HBwr0, Olone_8l0, Ot_4a, Lib.hid Dlone_8l0_t_4a.out⟩
      | true =>
        have Hht_21 : Hid (yt_16.length = 1) := Lib.hid (by have := eq_of_beq ht_21; omega)
        have nht_21 : (yt_16.length == 1) = true := beq_iff_eq.2 Hht_21.out
        replace H := ite_t H
        replace H := idx_hid H
        obtain ⟨nt_24, yt_24, et_24, lt_24, gt_24, H⟩ := H
        obtain rfl : 0 = nt_24 := by omega
        clear et_24
        obtain ⟨qt_24, Qt_24⟩ := own_some Ort_16.out (by omega)
        subst Qt_24
        obtain ⟨ab_t_24, ao_t_24, zt_24, At_24, z_t_24, ct_24_0⟩ := Go.Proofs.Ytpaakpbbahbhcaa.HelpInt.Ints.at_ (own_cells Ort_16.out) (k := 0) (by omega)
        obtain rfl := Option.some.inj (gt_24.out.symm.trans z_t_24)
        simp only [Option.some.injEq, Addr.mk.injEq] at At_24
        obtain ⟨rfl, rfl, _⟩ := At_24
        clear z_t_24
        have b1t_24 : (0 : Int) < ((yt_16.length : Nat) : Int) := by omega
        have b3t_24 : 0 < yt_16.length := by omega
        try simp only [Nat.zero_mul, Nat.add_zero, Nat.zero_add, Nat.reduceMul] at ct_24_0
        obtain ⟨w_t_26, hw_t_26⟩ : ∃ x, wr0.alloc (.cells #[.int .i64 yt_24] 3) = x := ⟨_, rfl⟩
        have bw_t_26 : Below wr0.heap.size wr0 w_t_26 := by rw [← hw_t_26]; exact (Below.refl _ _).alloc (Nat.le_refl _) _
        have HBw_t_26 := Lib.hid (Below.step HBwr0.out bw_t_26)
        have hct_16__261 := cell_below bw_t_26 hct_16
        have ct_24_0__262 := cell_below bw_t_26 ct_24_0
        replace Ot_4a := Lib.hid (Go.Proofs.Ytpaakpbbahbhcaa.GoN.nest_below Ot_4a.out bw_t_26)
        replace Olone_8l0 := Lib.hid (own_below Olone_8l0.out bw_t_26)
        replace Ort_16 := Lib.hid (own_below Ort_16.out bw_t_26)
        clear bw_t_26
        replace H := guard_hid H
        obtain ⟨hlt_27, H⟩ := H
        replace H := let_hid H
        obtain ⟨t_27, ht_27, H⟩ := H
        have hht_27 := Lib.hid ht_27
        clear ht_27
        have hst_27 := HBw_t_26.out.size
        go_wp2_with (at_builtin; refine wpList_append_own_at _ rfl _ _ 32 rfl w.heap.size 3 i0_3 (.int .i64 0) 1 8 Try.underlying32 hi_3 hz0_3 hz1_3 hz2_3 rfl (by decide) _ _ _ rfl Olone_8l0.out ⟨wr0.heap.size, 0, none⟩ 1 1 [.int .i64 yt_24] rfl rfl (news_new hw_t_26) (one_cells rfl) (by unfold maxLen; omega) (by omega) hst_27 ?_; intro vt_27 wt_27 ot_27 gt_27 zt_27 yt_27; clear zt_27; obtain ⟨qt_27, ct_27, rfl, pt_27⟩ := own_push hht_27.out (Go.Proofs.Ytpaakpbbahbhcaa.HelpInt.iv_snoc _ _) rfl ot_27; have Pt_27 := Lib.hid pt_27; have Yt_27 := Lib.hid yt_27; have Gt_27 := Lib.hid gt_27; clear ot_27 gt_27 pt_27 yt_27; refine stop_in ?_)
        refine stop_out ?_
        have HBwt_27 := Lib.hid (HBw_t_26.out.grown Gt_27.out hst_27 (fun q hq => (Olone_8l0.out.lt q hq).1))
        clear hst_27
        have Dt_27_t_4a : Hid (∀ y_ ∈ Bt_4a, Apart (some ⟨qt_27, 0, none⟩) y_) := Lib.hid (fun y_ hy_ => (apart_app (Dlone_8l0_t_4a.out y_ hy_) (fun a_ ha_ => (Go.Proofs.Ytpaakpbbahbhcaa.GoN.nest_lt Ot_4a.out y_ hy_ a_ ha_).2) Yt_27.out))
        replace hct_16__261 := cell_other hct_16__261 Gt_27.out (Dlone_8l0_t_4a.out _ (Go.Proofs.Ytpaakpbbahbhcaa.GoN.nest_head Ot_4a.out))
        replace ct_24_0__262 := cell_other ct_24_0__262 Gt_27.out (Dlone_8l0_t_4a.out _ mrt_16.out)
        replace Ot_4a := Lib.hid (Go.Proofs.Ytpaakpbbahbhcaa.GoN.nest_other Ot_4a.out Gt_27.out Dlone_8l0_t_4a.out)
        replace Ort_16 := Lib.hid (own_other Ort_16.out Gt_27.out (Dlone_8l0_t_4a.out _ mrt_16.out))
        clear hct_16 ct_24_0
        clear Olone_8l0 Yt_27 Gt_27
        replace H := app_hid H
        go_wp2_with fail
        go_roundg m0
        case measure => omega
        case rel => exact ⟨k0 + 1, _, _, _, by omega, by go_num, rfl, H, HBwt_27, Pt_27, Ot_4a, Lib.hid Dt_27_t_4a.out⟩
end Go.Proofs.Ytpaakpbbahbhcaa.GiLoneSightings

/- loop.example/g01062/laws.FnExactLoneSightings as a plain function, and the contract of the program's: where the plain one has an answer, the program has it. Conditions: slices read as lists. -/
namespace Go.Proofs.Ytpaakpbbahbhcaa.GlFnExactLoneSightings
set_option linter.unusedVariables false
set_option linter.unusedSimpArgs false
open Go.RowKit
open Go.Proofs.Ytpaakpbbahbhcaa.Rowed Go.Proofs.Ytpaakpbbahbhcaa.Turn Go.Proofs.Ytpaakpbbahbhcaa.Aid Go.Proofs.Ytpaakpbbahbhcaa.GoP Go.Proofs.Ytpaakpbbahbhcaa.GoM

def P (fuel : Nat) (aList : (List Go.Proofs.Ytpaakpbbahbhcaa.PSighting.Sighting)) (aLimit : Int) : Option (Bool) :=
  Option.bind (Go.Proofs.Ytpaakpbbahbhcaa.GlSzSightingS.P aList 1048576) fun (t_4 : Int) =>
  letK (decide (t_4 < 0)) fun (t_7 : Bool) =>
  iteK t_7
  (some true)
  (Option.bind (Go.Proofs.Ytpaakpbbahbhcaa.GlToSightingS.P aList) fun (t_10 : (List Go.Proofs.Ytpaakpbbahbhcaa.PSighting.Sighting)) =>
  bind2 (Go.Proofs.Ytpaakpbbahbhcaa.GsLoneSightings.P fuel t_10 aLimit) fun (t_12a : (List Int)) (t_12b : Bool) =>
  Option.bind (Go.Proofs.Ytpaakpbbahbhcaa.GlToSightingS.P aList) fun (t_19 : (List Go.Proofs.Ytpaakpbbahbhcaa.PSighting.Sighting)) =>
  bind2 (Go.Proofs.Ytpaakpbbahbhcaa.GiLoneSightings.P t_19 aLimit) fun (t_23a : (List Int)) (t_23b : Bool) =>
  Option.bind (Go.Proofs.Ytpaakpbbahbhcaa.GlEqIntS.P t_23a t_12a) fun (t_31 : Bool) =>
  letK (!t_31) fun (t_32 : Bool) =>
  joinK (fun (t_37 : Bool) =>
  iteK t_37
  (some false)
  (Option.bind (Go.Proofs.Ytpaakpbbahbhcaa.GlToSightingS.P aList) fun (t_41 : (List Go.Proofs.Ytpaakpbbahbhcaa.PSighting.Sighting)) =>
  Option.bind (Go.Proofs.Ytpaakpbbahbhcaa.GlEqSightingS.P t_19 t_41) fun (t_42 : Bool) =>
  letK (!t_42) fun (t_43 : Bool) =>
  iteK t_43
  (some false)
  (bind2 (Go.Proofs.Ytpaakpbbahbhcaa.GlMarkSightingS.P t_19 1) fun (t_48 : Int) (lt_48 : (List Go.Proofs.Ytpaakpbbahbhcaa.PSighting.Sighting)) =>
  letK (decide (t_48 < 0)) fun (t_51 : Bool) =>
  joinK (fun (t_57 : Bool) =>
  joinK (fun (t_62 : Bool) =>
  iteK t_62
  (some false)
  (bind2 (Go.Proofs.Ytpaakpbbahbhcaa.GlMarkIntS.P t_23a 1) fun (t_67 : Int) (lt_67 : (List Int)) =>
  Option.bind (Go.Proofs.Ytpaakpbbahbhcaa.GlHeldIntS.P lt_67 1) fun (t_72 : Int) =>
  letK (decide (t_72 < 0)) fun (t_75 : Bool) =>
  iteK t_75
  (some false)
  (letK (t_72 != t_67) fun (t_79 : Bool) =>
  iteK t_79
  (some false)
  (Option.bind (Go.Proofs.Ytpaakpbbahbhcaa.GlToSightingS.P aList) fun (t_82 : (List Go.Proofs.Ytpaakpbbahbhcaa.PSighting.Sighting)) =>
  bind2 (Go.Proofs.Ytpaakpbbahbhcaa.GiLoneSightings.P t_82 aLimit) fun (t_84a : (List Int)) (t_84b : Bool) =>
  Option.bind (Go.Proofs.Ytpaakpbbahbhcaa.GlEqIntS.P t_84a t_12a) fun (t_92 : Bool) =>
  letK (!t_92) fun (t_93 : Bool) =>
  joinK (fun (t_98 : Bool) =>
  iteK t_98
  (some false)
  (Option.bind (Go.Proofs.Ytpaakpbbahbhcaa.GlHeldIntS.P lt_67 1) fun (t_103 : Int) =>
  letK (decide (t_103 < 0)) fun (t_106 : Bool) =>
  iteK t_106
  (some false)
  (letK (t_103 != t_67) fun (t_110 : Bool) =>
  iteK t_110
  (some false)
  (some true)))) fun jt_98 => iteK t_93 (appK jt_98 true) (letK (!(t_84b == t_12b)) fun (t_97 : Bool) =>
  appK jt_98 t_97))))) fun jt_62 => iteK t_57 (appK jt_62 true) (letK (!(t_23b == t_12b)) fun (t_61 : Bool) =>
  appK jt_62 t_61)) fun jt_57 => iteK t_51 (appK jt_57 true) (Option.bind (Go.Proofs.Ytpaakpbbahbhcaa.GlEqIntS.P t_23a t_12a) fun (t_55 : Bool) =>
  letK (!t_55) fun (t_56 : Bool) =>
  appK jt_57 t_56)))) fun jt_37 => iteK t_32 (appK jt_37 true) (letK (!(t_23b == t_12b)) fun (t_36 : Bool) =>
  appK jt_37 t_36))

set_option maxRecDepth 100000 in
set_option maxHeartbeats 2000000 in
theorem C (fuel : Nat) (aList : (List Go.Proofs.Ytpaakpbbahbhcaa.PSighting.Sighting)) (aLimit : Int) (A0 : Option Addr) (c0 : Nat)  (w : World) (M0 : Hid (Go.Proofs.Ytpaakpbbahbhcaa.GoV.ReadNest w Go.Proofs.Ytpaakpbbahbhcaa.GoVSighting.lay A0 aList)) (N0 : Hid (aList.length ≤ 9223372036854775807))  {r : Bool} (H : Hid (P fuel aList aLimit = some r)) :
    Calls Try.prog 7 #[.slice A0 aList.length c0, .int .i64 aLimit] w (Gives (.bool r) w) := by
  have HB := Lib.hid (Below.refl w.heap.size w)
  unfold P at H
  have N0o := N0.out
  go_enter Try.func7, Try.ntmps7
  replace H := bind_hid H
  obtain ⟨t_4, qt_4, H⟩ := H
  go_wp2_with fail
  go_at_call 30
  refine (Go.Proofs.Ytpaakpbbahbhcaa.GlSzSightingS.C (aList) (1048576) A0 c0 _   (Lib.hid (Go.Proofs.Ytpaakpbbahbhcaa.GoV.read_below M0.out HB.out)) N0 qt_4).mono ?_
  rintro e_t_4 wt_4 ⟨rfl, bt_4⟩
  have HBwt_4 := Lib.hid (Below.step HB.out bt_4)
  clear bt_4
  replace H := let_hid H
  obtain ⟨t_7, ht_7, H⟩ := H
  cases t_7 with
  | false =>
    replace H := ite_f H
    replace H := bind_hid H
    obtain ⟨t_10, qt_10, H⟩ := H
    go_wp2_with fail
    go_at_call 31
    refine (Go.Proofs.Ytpaakpbbahbhcaa.GlToSightingS.C (aList) A0 c0 _   (Lib.hid (Go.Proofs.Ytpaakpbbahbhcaa.GoV.read_below M0.out HBwt_4.out)) N0 qt_10).mono ?_
    rintro e_t_10 wt_10 ⟨At_10, ct_10, rfl, ⟨Bt_10, ot_10⟩, bt_10⟩
    have Ot_10 := Lib.hid (Go.Proofs.Ytpaakpbbahbhcaa.GoV.nest_lower ot_10 HBwt_4.out.size)
    clear ot_10
    have HBwt_10 := Lib.hid (Below.step HBwt_4.out bt_10)
    clear bt_10
    replace H := bind2_hid H
    obtain ⟨t_12a, t_12b, qt_12, H⟩ := H
    go_wp2_with fail
    go_at_call 26
    refine (Go.Proofs.Ytpaakpbbahbhcaa.GsLoneSightings.C fuel (t_10) (aLimit) At_10 ct_10 _   (Lib.hid (Go.Proofs.Ytpaakpbbahbhcaa.GoV.nest_read Ot_10.out)) (Lib.hid (Go.Proofs.Ytpaakpbbahbhcaa.GoV.nest_max Ot_10.out)) qt_12).mono ?_
    rintro e_t_12 wt_12 ⟨At_12a, ct_12a, rfl, ot_12a, bt_12⟩
    have Dt_12a_t_10 := Lib.hid (Go.Proofs.Ytpaakpbbahbhcaa.GoV.nest_call ot_12a Ot_10.out)
    have Ot_12a := Lib.hid (own_lower ot_12a HBwt_10.out.size)
    clear ot_12a
    have HBwt_12 := Lib.hid (Below.step HBwt_10.out bt_12)
    replace Ot_10 := Lib.hid (Go.Proofs.Ytpaakpbbahbhcaa.GoV.nest_below Ot_10.out bt_12)
    clear bt_12
    replace H := bind_hid H
    obtain ⟨t_19, qt_19, H⟩ := H
    go_wp2_with fail
    go_at_call 31
    refine (Go.Proofs.Ytpaakpbbahbhcaa.GlToSightingS.C (aList) A0 c0 _   (Lib.hid (Go.Proofs.Ytpaakpbbahbhcaa.GoV.read_below M0.out HBwt_12.out)) N0 qt_19).mono ?_
    rintro e_t_19 wt_19 ⟨At_19, ct_19, rfl, ⟨Bt_19, ot_19⟩, bt_19⟩
    have Dt_19_t_10 := Lib.hid (Go.Proofs.Ytpaakpbbahbhcaa.GoV.lts_apart (Go.Proofs.Ytpaakpbbahbhcaa.GoV.nest_lt ot_19) (Go.Proofs.Ytpaakpbbahbhcaa.GoV.nest_lt Ot_10.out))
    have Dt_19_t_12a := Lib.hid (Go.Proofs.Ytpaakpbbahbhcaa.GoV.nest_callrow ot_19 Ot_12a.out)
    have Ot_19 := Lib.hid (Go.Proofs.Ytpaakpbbahbhcaa.GoV.nest_lower ot_19 HBwt_12.out.size)
    clear ot_19
    have HBwt_19 := Lib.hid (Below.step HBwt_12.out bt_19)
    replace Ot_10 := Lib.hid (Go.Proofs.Ytpaakpbbahbhcaa.GoV.nest_below Ot_10.out bt_19)
    replace Ot_12a := Lib.hid (own_below Ot_12a.out bt_19)
    clear bt_19
    replace H := bind2_hid H
    obtain ⟨t_23a, t_23b, qt_23, H⟩ := H
    go_wp2_with fail
    go_at_call 25
    refine (Go.Proofs.Ytpaakpbbahbhcaa.GiLoneSightings.C (t_19) (aLimit) At_19 ct_19 _   (Lib.hid (Go.Proofs.Ytpaakpbbahbhcaa.GoV.nest_read Ot_19.out)) (Lib.hid (Go.Proofs.Ytpaakpbbahbhcaa.GoV.nest_max Ot_19.out)) (Lib.hid (Go.Proofs.Ytpaakpbbahbhcaa.GoV.nest_room Ot_19.out)) qt_23).mono ?_
    rintro e_t_23 wt_23 ⟨At_23a, ct_23a, rfl, ot_23a, bt_23⟩
    have Dt_23a_t_10 := Lib.hid (Go.Proofs.Ytpaakpbbahbhcaa.GoV.nest_call ot_23a Ot_10.out)
    have Dt_23a_t_12a := Lib.hid (apart_call ot_23a Ot_12a.out)
    have Dt_23a_t_19 := Lib.hid (Go.Proofs.Ytpaakpbbahbhcaa.GoV.nest_call ot_23a Ot_19.out)
    have Ot_23a := Lib.hid (own_lower ot_23a HBwt_19.out.size)
    clear ot_23a
    have HBwt_23 := Lib.hid (Below.step HBwt_19.out bt_23)
    replace Ot_10 := Lib.hid (Go.Proofs.Ytpaakpbbahbhcaa.GoV.nest_below Ot_10.out bt_23)
    replace Ot_12a := Lib.hid (own_below Ot_12a.out bt_23)
    replace Ot_19 := Lib.hid (Go.Proofs.Ytpaakpbbahbhcaa.GoV.nest_below Ot_19.out bt_23)
    clear bt_23
    replace H := bind_hid H
    obtain ⟨t_31, qt_31, H⟩ := H
    go_wp2_with fail
    go_at_call 37
    refine (Go.Proofs.Ytpaakpbbahbhcaa.GlEqIntS.C (t_23a) (t_12a) At_23a ct_23a At_12a ct_12a _   (Lib.hid (own_cells Ot_23a.out)) (Lib.hid (own_max Ot_23a.out)) (Lib.hid (own_cells Ot_12a.out)) (Lib.hid (own_max Ot_12a.out)) qt_31).mono ?_
    rintro e_t_31 wt_31 ⟨rfl, bt_31⟩
    have HBwt_31 := Lib.hid (Below.step HBwt_23.out bt_31)
    replace Ot_10 := Lib.hid (Go.Proofs.Ytpaakpbbahbhcaa.GoV.nest_below Ot_10.out bt_31)
    replace Ot_12a := Lib.hid (own_below Ot_12a.out bt_31)
    replace Ot_19 := Lib.hid (Go.Proofs.Ytpaakpbbahbhcaa.GoV.nest_below Ot_19.out bt_31)
    replace Ot_23a := Lib.hid (own_below Ot_23a.out bt_31)
    clear bt_31
    cases t_31 with
    | false =>
      replace H := let_hid H
      obtain ⟨t_32, ht_32, H⟩ := H
      obtain rfl : t_32 = true := ht_32.symm
      replace H := join_hid H
      replace H := ite_t H
      replace H := app_hid H
      replace H := ite_t H
      obtain rfl := ret_hid H
      go_wp2_with fail
      go_ret
      exact ⟨rfl, HBwt_31.out⟩
    | true =>
      replace H := let_hid H
      obtain ⟨t_32, ht_32, H⟩ := H
      obtain rfl : t_32 = false := ht_32.symm
      replace H := join_hid H
      replace H := ite_f H
      replace H := let_hid H
      obtain ⟨t_36, ht_36, H⟩ := H
      replace H := app_hid H
      cases t_36 with
      | false =>
        replace H := ite_f H
        replace H := bind_hid H
        obtain ⟨t_41, qt_41, H⟩ := H
        go_wp2_with fail
        go_at_call 31
        refine (Go.Proofs.Ytpaakpbbahbhcaa.GlToSightingS.C (aList) A0 c0 _   (Lib.hid (Go.Proofs.Ytpaakpbbahbhcaa.GoV.read_below M0.out HBwt_31.out)) N0 qt_41).mono ?_
        rintro e_t_41 wt_41 ⟨At_41, ct_41, rfl, ⟨Bt_41, ot_41⟩, bt_41⟩
        have Dt_41_t_10 := Lib.hid (Go.Proofs.Ytpaakpbbahbhcaa.GoV.lts_apart (Go.Proofs.Ytpaakpbbahbhcaa.GoV.nest_lt ot_41) (Go.Proofs.Ytpaakpbbahbhcaa.GoV.nest_lt Ot_10.out))
        have Dt_41_t_12a := Lib.hid (Go.Proofs.Ytpaakpbbahbhcaa.GoV.nest_callrow ot_41 Ot_12a.out)
        have Dt_41_t_19 := Lib.hid (Go.Proofs.Ytpaakpbbahbhcaa.GoV.lts_apart (Go.Proofs.Ytpaakpbbahbhcaa.GoV.nest_lt ot_41) (Go.Proofs.Ytpaakpbbahbhcaa.GoV.nest_lt Ot_19.out))
        have Dt_41_t_23a := Lib.hid (Go.Proofs.Ytpaakpbbahbhcaa.GoV.nest_callrow ot_41 Ot_23a.out)
        have Ot_41 := Lib.hid (Go.Proofs.Ytpaakpbbahbhcaa.GoV.nest_lower ot_41 HBwt_31.out.size)
        clear ot_41
        have HBwt_41 := Lib.hid (Below.step HBwt_31.out bt_41)
        replace Ot_10 := Lib.hid (Go.Proofs.Ytpaakpbbahbhcaa.GoV.nest_below Ot_10.out bt_41)
        replace Ot_12a := Lib.hid (own_below Ot_12a.out bt_41)
        replace Ot_19 := Lib.hid (Go.Proofs.Ytpaakpbbahbhcaa.GoV.nest_below Ot_19.out bt_41)
        replace Ot_23a := Lib.hid (own_below Ot_23a.out bt_41)
        clear bt_41
        replace H := bind_hid H
        obtain ⟨t_42, qt_42, H⟩ := H
        go_wp2_with fail
        go_at_call 32
        refine (Go.Proofs.Ytpaakpbbahbhcaa.GlEqSightingS.C (t_19) (t_41) At_19 ct_19 At_41 ct_41 _   (Lib.hid (Go.Proofs.Ytpaakpbbahbhcaa.GoV.nest_read Ot_19.out)) (Lib.hid (Go.Proofs.Ytpaakpbbahbhcaa.GoV.nest_max Ot_19.out)) (Lib.hid (Go.Proofs.Ytpaakpbbahbhcaa.GoV.nest_read Ot_41.out)) (Lib.hid (Go.Proofs.Ytpaakpbbahbhcaa.GoV.nest_max Ot_41.out)) qt_42).mono ?_
        rintro e_t_42 wt_42 ⟨rfl, bt_42⟩
        have HBwt_42 := Lib.hid (Below.step HBwt_41.out bt_42)
        replace Ot_10 := Lib.hid (Go.Proofs.Ytpaakpbbahbhcaa.GoV.nest_below Ot_10.out bt_42)
        replace Ot_12a := Lib.hid (own_below Ot_12a.out bt_42)
        replace Ot_19 := Lib.hid (Go.Proofs.Ytpaakpbbahbhcaa.GoV.nest_below Ot_19.out bt_42)
        replace Ot_23a := Lib.hid (own_below Ot_23a.out bt_42)
        replace Ot_41 := Lib.hid (Go.Proofs.Ytpaakpbbahbhcaa.GoV.nest_below Ot_41.out bt_42)
        clear bt_42
        cases t_42 with
        | false =>
          replace H := let_hid H
          obtain ⟨t_43, ht_43, H⟩ := H
          obtain rfl : t_43 = true := ht_43.symm
          replace H := ite_t H
          obtain rfl := ret_hid H
          go_wp2_with fail
          go_ret
          exact ⟨rfl, HBwt_42.out⟩
        | true =>
          replace H := let_hid H
          obtain ⟨t_43, ht_43, H⟩ := H
          obtain rfl : t_43 = false := ht_43.symm
          replace H := ite_f H
          replace H := bind2_hid H
          obtain ⟨t_48, lt_48, qt_48, H⟩ := H
          go_wp2_with fail
          go_at_call 34
          refine (Go.Proofs.Ytpaakpbbahbhcaa.GlMarkSightingS.C (t_19) (1) At_19 ct_19 w.heap.size Bt_19 _   Ot_19 (Lib.hid (Go.Proofs.Ytpaakpbbahbhcaa.GoV.nest_max Ot_19.out))   qt_48).mono ?_
          rintro e_t_48 wt_48 ⟨rfl, ot_48, nt_48, gt_48⟩
          have Pt_48 := Lib.hid ot_48
          have Gt_48 := Lib.hid gt_48
          replace nt_48 := Lib.hid nt_48
          clear ot_48 gt_48
          have HBwt_48 := Lib.hid (Go.Proofs.Ytpaakpbbahbhcaa.GoN.below_nest HBwt_42.out Gt_48.out HBwt_42.out.size (Go.Proofs.Ytpaakpbbahbhcaa.GoV.nest_lt Ot_19.out))
          replace Ot_10 := Lib.hid (Go.Proofs.Ytpaakpbbahbhcaa.GoV.nest_otherN Ot_10.out Gt_48.out (Go.Proofs.Ytpaakpbbahbhcaa.GoN.nest_flip Dt_19_t_10.out))
          replace Ot_12a := Lib.hid (Go.Proofs.Ytpaakpbbahbhcaa.GoN.own_otherN Ot_12a.out Gt_48.out Dt_19_t_12a.out)
          replace Ot_23a := Lib.hid (Go.Proofs.Ytpaakpbbahbhcaa.GoN.own_otherN Ot_23a.out Gt_48.out Dt_23a_t_19.out)
          replace Ot_41 := Lib.hid (Go.Proofs.Ytpaakpbbahbhcaa.GoV.nest_otherN Ot_41.out Gt_48.out Dt_41_t_19.out)
          clear Ot_19 Gt_48
          replace H := let_hid H
          obtain ⟨t_51, ht_51, H⟩ := H
          replace H := join_hid H
          cases t_51 with
          | false =>
            replace H := ite_f H
            replace H := bind_hid H
            obtain ⟨t_55, qt_55, H⟩ := H
            go_wp2_with fail
            go_at_call 37
            refine (Go.Proofs.Ytpaakpbbahbhcaa.GlEqIntS.C (t_23a) (t_12a) At_23a ct_23a At_12a ct_12a _   (Lib.hid (own_cells Ot_23a.out)) (Lib.hid (own_max Ot_23a.out)) (Lib.hid (own_cells Ot_12a.out)) (Lib.hid (own_max Ot_12a.out)) qt_55).mono ?_
            rintro e_t_55 wt_55 ⟨rfl, bt_55⟩
            have HBwt_55 := Lib.hid (Below.step HBwt_48.out bt_55)
            replace Ot_10 := Lib.hid (Go.Proofs.Ytpaakpbbahbhcaa.GoV.nest_below Ot_10.out bt_55)
            replace Ot_12a := Lib.hid (own_below Ot_12a.out bt_55)
            replace Pt_48 := Lib.hid (Go.Proofs.Ytpaakpbbahbhcaa.GoV.nest_below Pt_48.out bt_55)
            replace Ot_23a := Lib.hid (own_below Ot_23a.out bt_55)
            replace Ot_41 := Lib.hid (Go.Proofs.Ytpaakpbbahbhcaa.GoV.nest_below Ot_41.out bt_55)
            clear bt_55
            cases t_55 with
            | false =>
              replace H := let_hid H
              obtain ⟨t_56, ht_56, H⟩ := H
              obtain rfl : t_56 = true := ht_56.symm
              replace H := app_hid H
              replace H := join_hid H
              replace H := ite_t H
              replace H := app_hid H
              replace H := ite_t H
              obtain rfl := ret_hid H
              go_wp2_with fail
              go_ret
              exact ⟨rfl, HBwt_55.out⟩
            | true =>
              replace H := let_hid H
              obtain ⟨t_56, ht_56, H⟩ := H
              obtain rfl : t_56 = false := ht_56.symm
              replace H := app_hid H
              replace H := join_hid H
              replace H := ite_f H
              replace H := let_hid H
              obtain ⟨t_61, ht_61, H⟩ := H
              obtain rfl := ht_36.symm.trans ht_61
              replace H := app_hid H
              replace H := ite_f H
              replace H := bind2_hid H
              obtain ⟨t_67, lt_67, qt_67, H⟩ := H
              go_wp2_with fail
              go_at_call 38
              refine (Go.Proofs.Ytpaakpbbahbhcaa.GlMarkIntS.C (t_23a) (1) At_23a ct_23a w.heap.size _   Ot_23a (Lib.hid (own_max Ot_23a.out))   qt_67).mono ?_
              rintro e_t_67 wt_67 ⟨rfl, ot_67, nt_67, gt_67⟩
              have Pt_67 := Lib.hid ot_67
              have Gt_67 := Lib.hid gt_67
              replace nt_67 := Lib.hid nt_67
              clear ot_67 gt_67
              have HBwt_67 := Lib.hid (HBwt_55.out.grown Gt_67.out HBwt_55.out.size (fun q hq => (Ot_23a.out.lt q hq).1))
              replace Ot_10 := Lib.hid (Go.Proofs.Ytpaakpbbahbhcaa.GoV.nest_other Ot_10.out Gt_67.out Dt_23a_t_10.out)
              replace Ot_12a := Lib.hid (own_other Ot_12a.out Gt_67.out Dt_23a_t_12a.out)
              replace Pt_48 := Lib.hid (Go.Proofs.Ytpaakpbbahbhcaa.GoV.nest_other Pt_48.out Gt_67.out Dt_23a_t_19.out)
              replace Ot_41 := Lib.hid (Go.Proofs.Ytpaakpbbahbhcaa.GoV.nest_other Ot_41.out Gt_67.out Dt_41_t_23a.out)
              clear Ot_23a Gt_67
              replace H := bind_hid H
              obtain ⟨t_72, qt_72, H⟩ := H
              go_wp2_with fail
              have hc_ := nt_67.out
              have hv_ : (Value.slice At_23a t_23a.length ct_23a : Value) = Value.slice At_23a lt_67.length ct_23a := by rw [hc_]
              try rw [hv_]
              replace Pt_67 := Lib.hid (own_len hc_ Pt_67.out)
              clear hc_ hv_
              go_wp2_with fail
              go_at_call 39
              refine (Go.Proofs.Ytpaakpbbahbhcaa.GlHeldIntS.C (lt_67) (1) At_23a ct_23a _   (Lib.hid (own_cells Pt_67.out)) (Lib.hid (own_max Pt_67.out)) qt_72).mono ?_
              rintro e_t_72 wt_72 ⟨rfl, bt_72⟩
              have HBwt_72 := Lib.hid (Below.step HBwt_67.out bt_72)
              replace Ot_10 := Lib.hid (Go.Proofs.Ytpaakpbbahbhcaa.GoV.nest_below Ot_10.out bt_72)
              replace Ot_12a := Lib.hid (own_below Ot_12a.out bt_72)
              replace Pt_48 := Lib.hid (Go.Proofs.Ytpaakpbbahbhcaa.GoV.nest_below Pt_48.out bt_72)
              replace Pt_67 := Lib.hid (own_below Pt_67.out bt_72)
              replace Ot_41 := Lib.hid (Go.Proofs.Ytpaakpbbahbhcaa.GoV.nest_below Ot_41.out bt_72)
              clear bt_72
              replace H := let_hid H
              obtain ⟨t_75, ht_75, H⟩ := H
              cases t_75 with
              | false =>
                replace H := ite_f H
                replace H := let_hid H
                obtain ⟨t_79, ht_79, H⟩ := H
                cases t_79 with
                | false =>
                  replace H := ite_f H
                  replace H := bind_hid H
                  obtain ⟨t_82, qt_82, H⟩ := H
                  go_wp2_with fail
                  go_at_call 31
                  refine (Go.Proofs.Ytpaakpbbahbhcaa.GlToSightingS.C (aList) A0 c0 _   (Lib.hid (Go.Proofs.Ytpaakpbbahbhcaa.GoV.read_below M0.out HBwt_72.out)) N0 qt_82).mono ?_
                  rintro e_t_82 wt_82 ⟨At_82, ct_82, rfl, ⟨Bt_82, ot_82⟩, bt_82⟩
                  have Dt_82_t_10 := Lib.hid (Go.Proofs.Ytpaakpbbahbhcaa.GoV.lts_apart (Go.Proofs.Ytpaakpbbahbhcaa.GoV.nest_lt ot_82) (Go.Proofs.Ytpaakpbbahbhcaa.GoV.nest_lt Ot_10.out))
                  have Dt_82_t_12a := Lib.hid (Go.Proofs.Ytpaakpbbahbhcaa.GoV.nest_callrow ot_82 Ot_12a.out)
                  have Dt_82_t_19 := Lib.hid (Go.Proofs.Ytpaakpbbahbhcaa.GoV.lts_apart (Go.Proofs.Ytpaakpbbahbhcaa.GoV.nest_lt ot_82) (Go.Proofs.Ytpaakpbbahbhcaa.GoV.nest_lt Pt_48.out))
                  have Dt_82_t_23a := Lib.hid (Go.Proofs.Ytpaakpbbahbhcaa.GoV.nest_callrow ot_82 Pt_67.out)
                  have Dt_82_t_41 := Lib.hid (Go.Proofs.Ytpaakpbbahbhcaa.GoV.lts_apart (Go.Proofs.Ytpaakpbbahbhcaa.GoV.nest_lt ot_82) (Go.Proofs.Ytpaakpbbahbhcaa.GoV.nest_lt Ot_41.out))
                  have Ot_82 := Lib.hid (Go.Proofs.Ytpaakpbbahbhcaa.GoV.nest_lower ot_82 HBwt_72.out.size)
                  clear ot_82
                  have HBwt_82 := Lib.hid (Below.step HBwt_72.out bt_82)
                  replace Ot_10 := Lib.hid (Go.Proofs.Ytpaakpbbahbhcaa.GoV.nest_below Ot_10.out bt_82)
                  replace Ot_12a := Lib.hid (own_below Ot_12a.out bt_82)
                  replace Pt_48 := Lib.hid (Go.Proofs.Ytpaakpbbahbhcaa.GoV.nest_below Pt_48.out bt_82)
                  replace Pt_67 := Lib.hid (own_below Pt_67.out bt_82)
                  replace Ot_41 := Lib.hid (Go.Proofs.Ytpaakpbbahbhcaa.GoV.nest_below Ot_41.out bt_82)
                  clear bt_82
                  replace H := bind2_hid H
                  obtain ⟨t_84a, t_84b, qt_84, H⟩ := H
                  go_wp2_with fail
                  go_at_call 25
                  refine (Go.Proofs.Ytpaakpbbahbhcaa.GiLoneSightings.C (t_82) (aLimit) At_82 ct_82 _   (Lib.hid (Go.Proofs.Ytpaakpbbahbhcaa.GoV.nest_read Ot_82.out)) (Lib.hid (Go.Proofs.Ytpaakpbbahbhcaa.GoV.nest_max Ot_82.out)) (Lib.hid (Go.Proofs.Ytpaakpbbahbhcaa.GoV.nest_room Ot_82.out)) qt_84).mono ?_
                  rintro e_t_84 wt_84 ⟨At_84a, ct_84a, rfl, ot_84a, bt_84⟩
                  have Dt_84a_t_10 := Lib.hid (Go.Proofs.Ytpaakpbbahbhcaa.GoV.nest_call ot_84a Ot_10.out)
                  have Dt_84a_t_12a := Lib.hid (apart_call ot_84a Ot_12a.out)
                  have Dt_84a_t_19 := Lib.hid (Go.Proofs.Ytpaakpbbahbhcaa.GoV.nest_call ot_84a Pt_48.out)
                  have Dt_84a_t_23a := Lib.hid (apart_call ot_84a Pt_67.out)
                  have Dt_84a_t_41 := Lib.hid (Go.Proofs.Ytpaakpbbahbhcaa.GoV.nest_call ot_84a Ot_41.out)
                  have Dt_84a_t_82 := Lib.hid (Go.Proofs.Ytpaakpbbahbhcaa.GoV.nest_call ot_84a Ot_82.out)
                  have Ot_84a := Lib.hid (own_lower ot_84a HBwt_82.out.size)
                  clear ot_84a
                  have HBwt_84 := Lib.hid (Below.step HBwt_82.out bt_84)
                  replace Ot_10 := Lib.hid (Go.Proofs.Ytpaakpbbahbhcaa.GoV.nest_below Ot_10.out bt_84)
                  replace Ot_12a := Lib.hid (own_below Ot_12a.out bt_84)
                  replace Pt_48 := Lib.hid (Go.Proofs.Ytpaakpbbahbhcaa.GoV.nest_below Pt_48.out bt_84)
                  replace Pt_67 := Lib.hid (own_below Pt_67.out bt_84)
                  replace Ot_41 := Lib.hid (Go.Proofs.Ytpaakpbbahbhcaa.GoV.nest_below Ot_41.out bt_84)
                  replace Ot_82 := Lib.hid (Go.Proofs.Ytpaakpbbahbhcaa.GoV.nest_below Ot_82.out bt_84)
                  clear bt_84
                  replace H := bind_hid H
                  obtain ⟨t_92, qt_92, H⟩ := H
                  go_wp2_with fail
                  go_at_call 37
                  refine (Go.Proofs.Ytpaakpbbahbhcaa.GlEqIntS.C (t_84a) (t_12a) At_84a ct_84a At_12a ct_12a _   (Lib.hid (own_cells Ot_84a.out)) (Lib.hid (own_max Ot_84a.out)) (Lib.hid (own_cells Ot_12a.out)) (Lib.hid (own_max Ot_12a.out)) qt_92).mono ?_
                  rintro e_t_92 wt_92 ⟨rfl, bt_92⟩
                  have HBwt_92 := Lib.hid (Below.step HBwt_84.out bt_92)
                  replace Ot_10 := Lib.hid (Go.Proofs.Ytpaakpbbahbhcaa.GoV.nest_below Ot_10.out bt_92)
                  replace Ot_12a := Lib.hid (own_below Ot_12a.out bt_92)
                  replace Pt_48 := Lib.hid (Go.Proofs.Ytpaakpbbahbhcaa.GoV.nest_below Pt_48.out bt_92)
                  replace Pt_67 := Lib.hid (own_below Pt_67.out bt_92)
                  replace Ot_41 := Lib.hid (Go.Proofs.Ytpaakpbbahbhcaa.GoV.nest_below Ot_41.out bt_92)
                  replace Ot_82 := Lib.hid (Go.Proofs.Ytpaakpbbahbhcaa.GoV.nest_below Ot_82.out bt_92)
                  replace Ot_84a := Lib.hid (own_below Ot_84a.out bt_92)
                  clear bt_92
                  cases t_92 with
                  | false =>
                    replace H := let_hid H
                    obtain ⟨t_93, ht_93, H⟩ := H
                    obtain rfl : t_93 = true := ht_93.symm
                    replace H := join_hid H
                    replace H := ite_t H
                    replace H := app_hid H
                    replace H := ite_t H
                    obtain rfl := ret_hid H
                    go_wp2_with fail
                    go_ret
                    exact ⟨rfl, HBwt_92.out⟩
                  | true =>
                    replace H := let_hid H
                    obtain ⟨t_93, ht_93, H⟩ := H
                    obtain rfl : t_93 = false := ht_93.symm
                    replace H := join_hid H
                    replace H := ite_f H
                    replace H := let_hid H
                    obtain ⟨t_97, ht_97, H⟩ := H
                    replace H := app_hid H
                    cases t_97 with
                    | false =>
                      replace H := ite_f H
                      replace H := bind_hid H
                      obtain ⟨t_103, qt_103, H⟩ := H
                      go_wp2_with fail
                      go_at_call 39
                      refine (Go.Proofs.Ytpaakpbbahbhcaa.GlHeldIntS.C (lt_67) (1) At_23a ct_23a _   (Lib.hid (own_cells Pt_67.out)) (Lib.hid (own_max Pt_67.out)) qt_103).mono ?_
                      rintro e_t_103 wt_103 ⟨rfl, bt_103⟩
                      have HBwt_103 := Lib.hid (Below.step HBwt_92.out bt_103)
                      replace Ot_10 := Lib.hid (Go.Proofs.Ytpaakpbbahbhcaa.GoV.nest_below Ot_10.out bt_103)
                      replace Ot_12a := Lib.hid (own_below Ot_12a.out bt_103)
                      replace Pt_48 := Lib.hid (Go.Proofs.Ytpaakpbbahbhcaa.GoV.nest_below Pt_48.out bt_103)
                      replace Pt_67 := Lib.hid (own_below Pt_67.out bt_103)
                      replace Ot_41 := Lib.hid (Go.Proofs.Ytpaakpbbahbhcaa.GoV.nest_below Ot_41.out bt_103)
                      replace Ot_82 := Lib.hid (Go.Proofs.Ytpaakpbbahbhcaa.GoV.nest_below Ot_82.out bt_103)
                      replace Ot_84a := Lib.hid (own_below Ot_84a.out bt_103)
                      clear bt_103
                      replace H := let_hid H
                      obtain ⟨t_106, ht_106, H⟩ := H
                      cases t_106 with
                      | false =>
                        replace H := ite_f H
                        replace H := let_hid H
                        obtain ⟨t_110, ht_110, H⟩ := H
                        cases t_110 with
                        | false =>
                          replace H := ite_f H
                          obtain rfl := ret_hid H
                          go_wp2_with fail
                          go_ret
                          exact ⟨rfl, HBwt_103.out⟩
                        | true =>
                          replace H := ite_t H
                          obtain rfl := ret_hid H
                          go_wp2_with fail
                          go_ret
                          exact ⟨rfl, HBwt_103.out⟩
                      | true =>
                        replace H := ite_t H
                        obtain rfl := ret_hid H
                        go_wp2_with fail
                        go_ret
                        exact ⟨rfl, HBwt_103.out⟩
                    | true =>
                      replace H := ite_t H
                      obtain rfl := ret_hid H
                      go_wp2_with fail
                      go_ret
                      exact ⟨rfl, HBwt_92.out⟩
                | true =>
                  replace H := ite_t H
                  obtain rfl := ret_hid H
                  go_wp2_with fail
                  go_ret
                  exact ⟨rfl, HBwt_72.out⟩
              | true =>
                replace H := ite_t H
                obtain rfl := ret_hid H
                go_wp2_with fail
                go_ret
                exact ⟨rfl, HBwt_72.out⟩
          | true =>
            replace H := ite_t H
            replace H := app_hid H
            replace H := join_hid H
            replace H := ite_t H
            replace H := app_hid H
            replace H := ite_t H
            obtain rfl := ret_hid H
            go_wp2_with fail
            go_ret
            exact ⟨rfl, HBwt_48.out⟩
      | true =>
        replace H := ite_t H
        obtain rfl := ret_hid H
        go_wp2_with fail
        go_ret
        exact ⟨rfl, HBwt_31.out⟩
  | true =>
    replace H := ite_t H
    obtain rfl := ret_hid H
    go_wp2_with fail
    go_ret
    exact ⟨rfl, HBwt_4.out⟩
end Go.Proofs.Ytpaakpbbahbhcaa.GlFnExactLoneSightings

/- Chapter 13: censuses: the plain functions of the program and of the reference agree, and the laws answer true. (Q13Lone) No condition but those of each theorem. -/
namespace Go.Proofs.Ytpaakpbbahbhcaa.Q13Lone
set_option linter.unusedVariables false
set_option linter.unusedSimpArgs false
open Go.RowKit
open Go.Proofs.Ytpaakpbbahbhcaa.GoP Go.Proofs.Ytpaakpbbahbhcaa.PlainStamp Go.Proofs.Ytpaakpbbahbhcaa.QBase Go.Proofs.Ytpaakpbbahbhcaa.Q13Covers Go.Proofs.Ytpaakpbbahbhcaa.Q13Tools Go.Proofs.Ytpaakpbbahbhcaa.Q13Cover Go.Proofs.Ytpaakpbbahbhcaa.Q13Bonds Go.Proofs.Ytpaakpbbahbhcaa.Q13Ev Go.Proofs.Ytpaakpbbahbhcaa.Q13List Go.Proofs.Ytpaakpbbahbhcaa.Q13One Go.Proofs.Ytpaakpbbahbhcaa.QUp Go.Proofs.Ytpaakpbbahbhcaa.QInt Go.Proofs.Ytpaakpbbahbhcaa.QLoop Go.Proofs.Ytpaakpbbahbhcaa.PSighting

def isL (l : List Sighting) (L : Int) (i : Nat) : Bool := (covN l L i).length == 1
def loneL (l : List Sighting) (L : Int) : List Int := ((List.range l.length).filter (isL l L)).map fun i : Nat => (sAt l i).id
def loneRes (l : List Sighting) (L : Int) : List Int × Bool := if (okSis l && inB L (-30) 16) = true then (loneL l L, true) else ([], false)
def hd0 (r : List Int) : Int := r.getD 0 0
theorem lone_of {l : List Sighting} {L : Int} (hL : L ≤ 16) : ((coversL l L).filter fun r => r.length == 1).map hd0 = loneL l L := by
  unfold coversL loneL
  rw [List.filter_map, List.map_map, List.filter_filter]
  have key : ∀ m, m ≤ l.length → ((List.range m).filter fun a => ((fun r : List Int => r.length == 1) ∘ idsOf l L) a && isF l L a).map (hd0 ∘ idsOf l L) = ((List.range m).filter (isL l L)).map fun i : Nat => (sAt l i).id := by
    intro m
    induction m with
    | zero => intro _; rfl
    | succ m ih =>
      intro hm
      rw [List.range_succ, List.filter_append, List.filter_append, List.map_append, List.map_append, ih (by omega)]
      congr 1
      obtain ⟨h, t, he, _, _⟩ := covN_cons (l := l) (L := L) hL (show m < l.length by omega)
      have h1 : (idsOf l L m).length = (covN l L m).length := by unfold idsOf; rw [List.length_map]
      have h2 : ((idsOf l L m).length == 1) = isL l L m := by unfold isL; rw [h1]
      cases hb : isL l L m with
      | false =>
        rw [hb] at h2
        have h4 : ¬ (idsOf l L m).length = 1 := by simpa using h2
        simp [hb, h4]
      | true =>
        have hone := hb
        unfold isL at hone
        rw [he] at hone
        have ht : t = [] := by simpa using hone
        subst ht
        have hself := covN_self (l := l) (L := L) hL (show m < l.length by omega)
        rw [he] at hself
        obtain rfl : m = h := by simpa using hself
        have hf : isF l L m = true := by rw [isF_cons he]; simp
        rw [hb] at h2
        have h4 : (idsOf l L m).length = 1 := by simpa using h2
        have hx : hd0 (idsOf l L m) = (sAt l m).id := by unfold idsOf; rw [he]; rfl
        simp [hb, h4, hf, hx]
  exact key l.length (Nat.le_refl _)
theorem lone_impl (l : List Sighting) (L : Int) : GiLoneSightings.P l L = some (loneRes l L) := by
  simp only [GiLoneSightings.P, covers_impl, bind2, Option.bind_some]
  have hlen := (coversRes_small l L).2
  have e : cntK (GiLoneSightings.l0 (coversRes l L).1) (coversRes l L).1.length 0 ([] : List Int) (GiLoneSightings.e0 (coversRes l L).2) = GiLoneSightings.e0 (coversRes l L).2 (((coversRes l L).1.filter fun r => r.length == 1).map hd0) := by
    refine gather (l := (coversRes l L).1) (p := fun r => r.length == 1) (g := hd0) (by omega) (fun k nx x s hx hs => ?_)
    have hi : idx (coversRes l L).1 (k : Int) = some x := by rw [idx_nat, hx]
    have hb : ((x.length : Int) == 1) = (x.length == 1) := by rw [Bool.eq_iff_iff, beq_iff_eq, beq_iff_eq]; omega
    simp only [GiLoneSightings.l0, hi, Option.bind_some, letK, appK, iteK_if, hb]
    cases h1 : (x.length == 1) with
    | false => simp
    | true =>
      have h2 : idx x 0 = some (hd0 x) := by
        cases x with
        | nil => simp at h1
        | cons a x => rfl
      simp only [if_true, h2, Option.bind_some]
      rw [guardK_pos hs]
  rw [e]
  simp only [GiLoneSightings.e0, letK]
  unfold coversRes loneRes
  cases hok : (okSis l && inB L (-30) 16) with
  | false => simp
  | true =>
    simp only [Bool.and_eq_true] at hok
    have hL := inB_of hok.2
    simp only [if_true]
    rw [lone_of (by omega)]
theorem lone_spec (l : List Sighting) (L : Int) (hf : ∀ s ∈ l, sz13 s) (hl : l.length ≤ 9223372036854775807) (fuel : Nat) (hfu : 2000 ≤ fuel) : GsLoneSightings.P fuel l L = some (loneRes l L) := by
  simp only [GsLoneSightings.P, l13Good_eq l hf hl, l13Limit_eq, Option.bind_some, letK, joinK, appK, iteK_if]
  unfold loneRes
  cases hk : okSis l with
  | false => simp
  | true =>
    cases hL0 : inB L (-30) 16 with
    | false => simp
    | true =>
      have hL := inB_of hL0
      have hn := okSis_len hk
      simp only [Bool.not_true, Bool.false_eq_true, if_false, Bool.and_self, if_true]
      refine cnt_is _ (fun k (s : List Int) => s = ((List.range k).filter (isL l L)).map fun i : Nat => (sAt l i).id) ?_ ?_ _ rfl
      · intro k s nx hkl hI hn'
        have hsl : s.length ≤ k := by
          rw [hI, List.length_map]
          have := List.length_filter_le (isL l L) (List.range k)
          simpa using this
        have hxi : idx l (k : Int) = some (sAt l k) := by rw [idx_nat]; exact sAt_at hkl
        have hc : (((cov l L k).length : Int) == 1) = isL l L k := by unfold cov isL; rw [List.length_map, Bool.eq_iff_iff, beq_iff_eq, beq_iff_eq]; omega
        have hnx : ((List.range (k + 1)).filter (isL l L)).map (fun i : Nat => (sAt l i).id) = if isL l L k = true then s ++ [(sAt l k).id] else s := by
          rw [List.range_succ, List.filter_append, List.map_append, ← hI]
          cases hb : isL l L k <;> simp [hb]
        simp only [GsLoneSightings.l0, cover_eq hk (by omega : L ≤ 16) hkl fuel hfu, hxi, Option.bind_some, letK, iteK_if, appK, hc, unSighting]
        cases hb : isL l L k with
        | true =>
          rw [if_pos rfl, guardK_pos (by omega)]
          refine hn' _ ?_
          rw [hnx, hb, if_pos rfl]
        | false =>
          rw [if_neg (by simp)]
          refine hn' _ ?_
          rw [hnx, hb, if_neg (by simp)]
      · intro s hI
        simp only [GsLoneSightings.e0, letK]
        rw [hI]; rfl
theorem loneRes_len (l : List Sighting) (L : Int) : (loneRes l L).1.length ≤ 1000 := by
  unfold loneRes
  cases hok : (okSis l && inB L (-30) 16) with
  | false => simp
  | true =>
    simp only [Bool.and_eq_true] at hok
    have hn := okSis_len hok.1
    simp only [if_true]
    unfold loneL
    rw [List.length_map]
    have := List.length_filter_le (isL l L) (List.range l.length)
    simp at this; omega
end Go.Proofs.Ytpaakpbbahbhcaa.Q13Lone

/- Chapter 13: censuses: the plain functions of the program and of the reference agree, and the laws answer true. (QL13Lone) No condition but those of each theorem. -/
namespace Go.Proofs.Ytpaakpbbahbhcaa.QL13Lone
set_option linter.unusedVariables false
set_option linter.unusedSimpArgs false
open Go.RowKit
open Go.Proofs.Ytpaakpbbahbhcaa.GoP Go.Proofs.Ytpaakpbbahbhcaa.PlainStamp Go.Proofs.Ytpaakpbbahbhcaa.QBase Go.Proofs.Ytpaakpbbahbhcaa.Q13Lone Go.Proofs.Ytpaakpbbahbhcaa.Q13One Go.Proofs.Ytpaakpbbahbhcaa.QF13 Go.Proofs.Ytpaakpbbahbhcaa.QInt Go.Proofs.Ytpaakpbbahbhcaa.QLoop Go.Proofs.Ytpaakpbbahbhcaa.PSighting Go.Proofs.Ytpaakpbbahbhcaa.QHVSightingE Go.Proofs.Ytpaakpbbahbhcaa.QHVSighting

theorem law_loneSightings (fuel : Nat) (hfu : 2000 ≤ fuel) (l : List Sighting) (L : Int) (hF : ∀ s ∈ l, Go.Proofs.Ytpaakpbbahbhcaa.OVSighting.Fits s) (hl : l.length ≤ 9223372036854775807) : GlFnExactLoneSightings.P fuel l L = some true := by
  have hf : ∀ s ∈ l, sz13 s := fun s hs => fits_sz (hF s hs)
  obtain ⟨v, hv, hn⟩ := szS l hf hl
  simp only [GlFnExactLoneSightings.P, hv, Option.bind_some, letK, iteK_if]
  by_cases hb : v < 0
  · rw [if_pos (by simpa using hb)]
  · rw [if_neg (by simpa using hb)]
    have hsm := hn (by omega)
    have hs := loneRes_len l L
    obtain ⟨⟨p, q⟩, hr⟩ : ∃ x, x = loneRes l L := ⟨_, rfl⟩
    rw [← hr] at hs
    dsimp only at hs
    obtain ⟨v', l', hm, hv2⟩ := markS l hsm
    have hv3 : ¬ v' < 0 := by omega
    have hM := markI p (by omega)
    have hH := heldI p.length (by omega)
    have e1 : ¬ ((p.length : Int) + 1 < 0) := by omega
    simp [toS l hsm, lone_spec l L hf hl fuel hfu, lone_impl, ← hr, eqI, eqS, hm, hv3, hM, hH, e1, bind2, joinK, appK, iteK_if]
end Go.Proofs.Ytpaakpbbahbhcaa.QL13Lone

