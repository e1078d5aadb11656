/- Texts on which the proofs of several laws stand, one behind the other (8 of 20). No condition of their own. -/
import Derived.Test.YtpaakpbbahbhcaaChecked
import Derived.Test.YtpaakpbbahbhcaaX13P1
import Derived.Test.YtpaakpbbahbhcaaX13P6
import Derived.Test.YtpaakpbbahbhcaaX13P2
import Derived.Test.YtpaakpbbahbhcaaX13P7
import Derived.WalkKit
import Derived.WalkSpells
import Derived.WalkLawsBesides
import Derived.BigQuiet
import Derived.OwnWalk
import Derived.Deep.LoopGhost
import Derived.Deep.QuietTactic
import Derived.IntWalk
import Derived.Lib.QuietBelow
import Derived.Test.YtpaakpbbahbhcaaX13P3
import Derived.Lib.Hide
import Derived.Outline
import Derived.Lib.ItoaLen
import Derived.Lib.ItoaMem
import Derived.Laws.IdiomStrings
import Derived.Deep.RegionHeld3
import Derived.Test.YtpaakpbbahbhcaaX13P4
import Derived.Test.YtpaakpbbahbhcaaX13P5
/- loop.example/g01062/impl.CoversSeen as a plain function, and the contract of the program's: where the plain one has an answer, the program has it. Conditions: slices read as lists. -/
namespace Go.Proofs.Ytpaakpbbahbhcaa.GiCoversSeen
set_option linter.unusedVariables false
set_option linter.unusedSimpArgs false
open Go.RowKit
open Go.Proofs.Ytpaakpbbahbhcaa.Rowed Go.Proofs.Ytpaakpbbahbhcaa.Turn Go.Proofs.Ytpaakpbbahbhcaa.Aid Go.Proofs.Ytpaakpbbahbhcaa.GoP Go.Proofs.Ytpaakpbbahbhcaa.GoM

def l1 (t_32 : (List Go.Proofs.Ytpaakpbbahbhcaa.PSighting.Sighting)) (k1 : Nat) (s : (List Int)) (nx1 bk1 : (List Int) → Option ((List (List Int)) × Bool)) : Option ((List (List Int)) × Bool) :=
  letK s fun ids_10l1 =>
  Option.bind (idx t_32 (k1 : Int)) fun (yt_36 : Go.Proofs.Ytpaakpbbahbhcaa.PSighting.Sighting) =>
  unSighting yt_36 fun (t_36_id : Int) (t_36_year : Int) (t_36_town : ByteArray) (t_36_traits : (List Int)) =>
  guardK (ids_10l1.length ≤ 1099511627776) <|
  letK (ids_10l1 ++ [t_36_id]) fun (t_44 : (List Int)) =>
  appK nx1 (t_44)

def e1 (nx0 : ((List (List Int))) → Option ((List (List Int)) × Bool)) (covers_7l0 : (List (List Int))) (t_20_id : Int) (s : (List Int)) : Option ((List (List Int)) × Bool) :=
  letK s fun ids_10l1 =>
  Option.bind (idx ids_10l1 0) fun (yt_49 : Int) =>
  letK (yt_49 == t_20_id) fun (t_53 : Bool) =>
  iteK t_53
  (guardK (covers_7l0.length ≤ 1099511627776) <|
  letK (covers_7l0 ++ [ids_10l1]) fun (t_57 : (List (List Int))) =>
  appK nx0 (t_57))
  (appK nx0 (covers_7l0))

def l0 (list : (List Go.Proofs.Ytpaakpbbahbhcaa.PSighting.Sighting)) (limit : Int) (vheld_11 : (List Int)) (k0 : Nat) (s : (List (List Int))) (nx0 bk0 : (List (List Int)) → Option ((List (List Int)) × Bool)) : Option ((List (List Int)) × Bool) :=
  letK s fun covers_7l0 =>
  Option.bind (idx list (k0 : Int)) fun (yt_20 : Go.Proofs.Ytpaakpbbahbhcaa.PSighting.Sighting) =>
  unSighting yt_20 fun (t_20_id : Int) (t_20_year : Int) (t_20_town : ByteArray) (t_20_traits : (List Int)) =>
  guardK ((0 : Int) ≤ (k0 : Int) ∧ ((k0 : Int) : Int) < 10) <|
  letK (Go.Proofs.Ytpaakpbbahbhcaa.GoA.nth vheld_11 (k0 * 10 + 0)) fun (t_30_0 : Int) =>
  letK (Go.Proofs.Ytpaakpbbahbhcaa.GoA.nth vheld_11 (k0 * 10 + 1)) fun (t_30_1 : Int) =>
  letK (Go.Proofs.Ytpaakpbbahbhcaa.GoA.nth vheld_11 (k0 * 10 + 2)) fun (t_30_2 : Int) =>
  letK (Go.Proofs.Ytpaakpbbahbhcaa.GoA.nth vheld_11 (k0 * 10 + 3)) fun (t_30_3 : Int) =>
  letK (Go.Proofs.Ytpaakpbbahbhcaa.GoA.nth vheld_11 (k0 * 10 + 4)) fun (t_30_4 : Int) =>
  letK (Go.Proofs.Ytpaakpbbahbhcaa.GoA.nth vheld_11 (k0 * 10 + 5)) fun (t_30_5 : Int) =>
  letK (Go.Proofs.Ytpaakpbbahbhcaa.GoA.nth vheld_11 (k0 * 10 + 6)) fun (t_30_6 : Int) =>
  letK (Go.Proofs.Ytpaakpbbahbhcaa.GoA.nth vheld_11 (k0 * 10 + 7)) fun (t_30_7 : Int) =>
  letK (Go.Proofs.Ytpaakpbbahbhcaa.GoA.nth vheld_11 (k0 * 10 + 8)) fun (t_30_8 : Int) =>
  letK (Go.Proofs.Ytpaakpbbahbhcaa.GoA.nth vheld_11 (k0 * 10 + 9)) fun (t_30_9 : Int) =>
  Option.bind (Go.Proofs.Ytpaakpbbahbhcaa.GiCoverOf.P list (Go.Proofs.Ytpaakpbbahbhcaa.PIntA10.IntA10.mk t_30_0 t_30_1 t_30_2 t_30_3 t_30_4 t_30_5 t_30_6 t_30_7 t_30_8 t_30_9) limit) fun (t_32 : (List Go.Proofs.Ytpaakpbbahbhcaa.PSighting.Sighting)) =>
  cntK (l1 t_32) (t_32.length) 0 (([] : List Int)) (e1 nx0 covers_7l0 t_20_id)

def e0  (s : (List (List Int))) : Option ((List (List Int)) × Bool) :=
  letK s fun covers_7l0 =>
  some (covers_7l0, true)

def P (list : (List Go.Proofs.Ytpaakpbbahbhcaa.PSighting.Sighting)) (limit : Int) : Option ((List (List Int)) × Bool) :=
  Option.bind (Go.Proofs.Ytpaakpbbahbhcaa.GiCanJoin.P list limit) fun (t_4 : Bool) =>
  letK (!t_4) fun (t_5 : Bool) =>
  iteK t_5
  (some (([] : List (List Int)), false))
  (Option.bind (Go.Proofs.Ytpaakpbbahbhcaa.GiBondsOf.P list) fun (t_10 : (List Int)) =>
  guardK (t_10.length = 100) <|
  letK (t_10) fun (vheld_11 : (List Int)) =>
  cntK (l0 list limit vheld_11) (list.length) 0 (([] : List (List Int))) (e0 ))

set_option maxRecDepth 100000 in
set_option maxHeartbeats 2000000 in
theorem C (list : (List Go.Proofs.Ytpaakpbbahbhcaa.PSighting.Sighting)) (limit : Int) (A0 : Option Addr) (c0 : Nat)  (w : World) (M0 : Hid (Go.Proofs.Ytpaakpbbahbhcaa.GoV.ReadNest w Go.Proofs.Ytpaakpbbahbhcaa.GoVSighting.lay A0 list)) (N0 : Hid (list.length ≤ 9223372036854775807)) (Q0 : Hid (Room A0 list.length c0))  {r0 : (List (List Int))} {r1 : Bool} (H : Hid (P list limit = some (r0, r1))) :
    Calls Try.prog 20 #[.slice A0 list.length c0, .int .i64 limit] w (fun e w' => ∃ A_r0 c_r0, e = .returned (.tuple #[.slice A_r0 r0.length c_r0, .bool r1]) ∧ (∃ B_, Go.Proofs.Ytpaakpbbahbhcaa.GoN.OwnNest w' (w.heap.size) 32 3 1 Go.Proofs.Ytpaakpbbahbhcaa.HelpInt.iv A_r0 c_r0 r0 B_) ∧ Below w.heap.size w w') := by
  have HB := Lib.hid (Below.refl w.heap.size w)
  unfold P at H
  have N0o := N0.out
  obtain ⟨i0_32, hi_32, hz0_32, hz1_32, hz2_32⟩ := Aid.info_parts (P := Try.prog) (T := 32) (z := .slice none 0 0) (s := 1) (b := 24) (by kernel_rfl)
  obtain ⟨i0_3, hi_3, hz0_3, hz1_3, hz2_3⟩ := Aid.info_parts (P := Try.prog) (T := 3) (z := .int .i64 0) (s := 1) (b := 8) (by kernel_rfl)
  go_enter Try.func20, Try.ntmps20
  replace H := bind_hid H
  obtain ⟨t_4, qt_4, H⟩ := H
  go_wp2_with fail
  go_at_call 61
  refine (Go.Proofs.Ytpaakpbbahbhcaa.GiCanJoin.C (list) (limit) A0 c0 _   (Lib.hid (Go.Proofs.Ytpaakpbbahbhcaa.GoV.read_below M0.out HB.out)) N0 qt_4).mono ?_
  rintro e_t_4 wt_4 ⟨rfl, bt_4⟩
  have HBwt_4 := Lib.hid (Below.step HB.out bt_4)
  clear bt_4
  cases t_4 with
  | false =>
    replace H := let_hid H
    obtain ⟨t_5, ht_5, H⟩ := H
    obtain rfl : t_5 = true := ht_5.symm
    replace H := ite_t H
    obtain ⟨w_t_6, hw_t_6⟩ : ∃ x, wt_4.alloc (.cells #[] 32) = x := ⟨_, rfl⟩
    have bw_t_6 : Below wt_4.heap.size wt_4 w_t_6 := by rw [← hw_t_6]; exact (Below.refl _ _).alloc (Nat.le_refl _) _
    have Ot_6 : Hid (Go.Proofs.Ytpaakpbbahbhcaa.GoN.OwnNest w_t_6 (w.heap.size) 32 3 1 Go.Proofs.Ytpaakpbbahbhcaa.HelpInt.iv (some ⟨wt_4.heap.size, 0, none⟩) 0 ([] : List (List Int)) [some ⟨wt_4.heap.size, 0, none⟩]) := Lib.hid (by rw [← hw_t_6]; exact Go.Proofs.Ytpaakpbbahbhcaa.GoN.nest_empty HBwt_4.out.size)
    have HBw_t_6 := Lib.hid (Below.step HBwt_4.out bw_t_6)
    clear bw_t_6
    cases ret_hid H
    go_wp2_with fail
    go_ret2
    exact ⟨(some ⟨wt_4.heap.size, 0, none⟩), 0, rfl, ⟨_, Ot_6.out⟩, HBw_t_6.out⟩
  | true =>
    replace H := let_hid H
    obtain ⟨t_5, ht_5, H⟩ := H
    obtain rfl : t_5 = false := ht_5.symm
    replace H := ite_f H
    replace H := bind_hid H
    obtain ⟨t_10, qt_10, H⟩ := H
    go_wp2_with fail
    go_at_call 54
    refine (Go.Proofs.Ytpaakpbbahbhcaa.GiBondsOf.C (list) A0 c0 _   (Lib.hid (Go.Proofs.Ytpaakpbbahbhcaa.GoV.read_below M0.out HBwt_4.out)) N0 qt_10).mono ?_
    rintro e_t_10 wt_10 ⟨rfl, bt_10⟩
    have HBwt_10 := Lib.hid (Below.step HBwt_4.out bt_10)
    clear bt_10
    replace H := guard_hid H
    obtain ⟨hzheld_11, H⟩ := H
    replace H := let_hid H
    obtain ⟨vheld_11, hvheld_11, H⟩ := H
    have nheld_11 : vheld_11.length = 100 := by rw [← hvheld_11]; exact hzheld_11
    clear hzheld_11
    subst hvheld_11
    have hs_held_11 := HBwt_10.out.size
    have nheld_11h := Lib.hid nheld_11
    clear nheld_11
    go_wp2_with (refine Go.Proofs.Ytpaakpbbahbhcaa.GoX.wpList_store_new rfl 62 (.tmp 6) (.tmp 19) rfl 62 _ (Go.Proofs.Ytpaakpbbahbhcaa.HelpInt.iv t_10).toArray rfl rfl (by rw [Go.Proofs.Ytpaakpbbahbhcaa.GoX.iv_size, nheld_11h.out]; kernel_rfl) (by rw [Go.Proofs.Ytpaakpbbahbhcaa.GoX.iv_size, nheld_11h.out]; kernel_rfl) (Go.Proofs.Ytpaakpbbahbhcaa.GoX.iv_one _) ?_; refine stop_in ?_)
    refine stop_out ?_
    obtain ⟨w_held_11, hw_held_11⟩ : ∃ x, wt_10.alloc (.cells (Go.Proofs.Ytpaakpbbahbhcaa.HelpInt.iv t_10).toArray 62) = x := ⟨_, rfl⟩
    have bw_held_11 : Below wt_10.heap.size wt_10 w_held_11 := by rw [← hw_held_11]; exact (Below.refl _ _).alloc (Nat.le_refl _) _
    try simp only [hw_held_11]
    have Oheld_11 : Hid (w_held_11.ownsRow w.heap.size 62 1 (.slice (some ⟨wt_10.heap.size, 0, none⟩) 100 100) 100 (Go.Proofs.Ytpaakpbbahbhcaa.HelpInt.iv t_10)) := Lib.hid (by rw [← hw_held_11]; exact own_laid (n := 100) hs_held_11 rfl (by unfold Go.Proofs.Ytpaakpbbahbhcaa.HelpInt.iv; rw [List.length_map, nheld_11h.out]) (by unfold maxLen; omega))
    clear hs_held_11
    have HBw_held_11 := Lib.hid (Below.step HBwt_10.out bw_held_11)
    clear bw_held_11
    obtain ⟨w_t_13, hw_t_13⟩ : ∃ x, w_held_11.alloc (.cells #[] 32) = x := ⟨_, rfl⟩
    have bw_t_13 : Below w_held_11.heap.size w_held_11 w_t_13 := by rw [← hw_t_13]; exact (Below.refl _ _).alloc (Nat.le_refl _) _
    have Ot_13 : Hid (Go.Proofs.Ytpaakpbbahbhcaa.GoN.OwnNest w_t_13 (w.heap.size) 32 3 1 Go.Proofs.Ytpaakpbbahbhcaa.HelpInt.iv (some ⟨w_held_11.heap.size, 0, none⟩) 0 ([] : List (List Int)) [some ⟨w_held_11.heap.size, 0, none⟩]) := Lib.hid (by rw [← hw_t_13]; exact Go.Proofs.Ytpaakpbbahbhcaa.GoN.nest_empty HBw_held_11.out.size)
    have Dt_13_held_11 := Lib.hid (Go.Proofs.Ytpaakpbbahbhcaa.GoN.nest_one (apart_fresh Oheld_11.out))
    have HBw_t_13 := Lib.hid (Below.step HBw_held_11.out bw_t_13)
    replace Oheld_11 := Lib.hid (own_below Oheld_11.out bw_t_13)
    clear bw_t_13
    go_wp2_with fail
    go_loopg [23, 7] (list.length) (fun m_ v23_ v7_ wr => ∃ (k0 : Nat) (covers_7l0 : (List (List Int))) (Acovers_7l0 : Option Addr) (ccovers_7l0 : Nat) (Bcovers_7l0 : List (Option Addr)), k0 + m_ = list.length ∧ v23_ = .int .i64 (k0 : Int) ∧ v7_ = .slice Acovers_7l0 covers_7l0.length ccovers_7l0 ∧ Hid (cntK (l0 list limit t_10) m_ k0 (covers_7l0) (e0 ) = some (r0, r1)) ∧ Hid (Below w.heap.size w wr) ∧ Hid (Go.Proofs.Ytpaakpbbahbhcaa.GoN.OwnNest wr (w.heap.size) 32 3 1 Go.Proofs.Ytpaakpbbahbhcaa.HelpInt.iv Acovers_7l0 ccovers_7l0 covers_7l0 Bcovers_7l0) ∧ Hid (wr.ownsRow w.heap.size 62 1 (.slice (some ⟨wt_10.heap.size, 0, none⟩) 100 100) 100 (Go.Proofs.Ytpaakpbbahbhcaa.HelpInt.iv t_10)) ∧ Hid (∀ y_ ∈ Bcovers_7l0, Apart (some ⟨wt_10.heap.size, 0, none⟩) y_))
    case atStart => exact ⟨0, _, _, _, _, by omega, rfl, rfl, H, HBw_t_13, Ot_13, Oheld_11, Lib.hid Dt_13_held_11.out⟩
    case round =>
      obtain ⟨k0, covers_7l0, Acovers_7l0, ccovers_7l0, Bcovers_7l0, hkm0, rfl, rfl, H, HBwr0, Ocovers_7l0, Oheld_11, Dheld_11_covers_7l0⟩ := hrel
      rename World => wr0
      cases gk with
      | zero =>
        obtain rfl : k0 = list.length := by omega
        have hc0 : decide (((list.length : Nat) : Int) < ((list.length : Nat) : Int)) = false := by simp
        replace H := cnt_zero H
        unfold e0 at H
        replace H := let_hid H
        obtain ⟨_, rfl, H⟩ := H
        cases ret_hid H
        go_wp2_with fail
        go_ret2
        exact ⟨Acovers_7l0, ccovers_7l0, rfl, ⟨_, Ocovers_7l0.out⟩, HBwr0.out⟩
      | succ m0 =>
        have hlt0 : k0 < list.length := by omega
        have hc0 : decide ((k0 : Int) < ((list.length : Nat) : Int)) = true := by simp; omega
        replace H := cnt_succ H
        unfold l0 at H
        replace H := let_hid H
        obtain ⟨_, rfl, H⟩ := H
        replace H := idx_hid H
        obtain ⟨nt_20, yt_20, et_20, lt_20, gt_20, H⟩ := H
        obtain rfl : k0 = nt_20 := by omega
        clear et_20
        obtain ⟨t_20_id, t_20_year, t_20_town, t_20_traits⟩ := yt_20
        replace H := unSighting_hid H
        obtain ⟨bbt_20, oot_20, zt_20, Art_20, crt_20, eAt_20, zzt_20, hKt_20, hrt_20, hqt_20, hnt_20⟩ := Go.Proofs.Ytpaakpbbahbhcaa.GoV.nest_at M0.out (k := k0) lt_20
        obtain rfl := Option.some.inj (gt_20.out.symm.trans zzt_20)
        clear zzt_20
        subst eAt_20
        have hct_20_0 : w.cell? ⟨bbt_20, oot_20 + k0 * 4, none⟩ = some (.int .i64 t_20_id) := hKt_20 0 _ rfl
        have hct_20_1 : w.cell? ⟨bbt_20, oot_20 + k0 * 4 + 1, none⟩ = some (.int .i64 t_20_year) := hKt_20 1 _ rfl
        have hct_20_2 : w.cell? ⟨bbt_20, oot_20 + k0 * 4 + 2, none⟩ = some (.string t_20_town) := hKt_20 2 _ rfl
        have hct_20_3 : w.cell? ⟨bbt_20, oot_20 + k0 * 4 + 3, none⟩ = some (.slice Art_20 t_20_traits.length crt_20) := hKt_20 3 _ rfl
        clear hKt_20
        have ltt_20 := cell_lt hct_20_0
        replace hct_20_0 := cell_below HBwr0.out hct_20_0
        replace hct_20_1 := cell_below HBwr0.out hct_20_1
        replace hct_20_2 := cell_below HBwr0.out hct_20_2
        replace hct_20_3 := cell_below HBwr0.out hct_20_3
        have Mrt_20 := Lib.hid hrt_20
        have Qrt_20 := Lib.hid hqt_20
        have Nrt_20 := Lib.hid hnt_20
        clear hrt_20 hqt_20 hnt_20
        have b0t_20 : (0 : Int) ≤ (k0 : Int) := by omega
        have b1t_20 : (k0 : Int) < ((list.length : Nat) : Int) := by omega
        have b2t_20 : ((k0 : Int)).toNat = k0 := by omega
        obtain ⟨w_s_22, hw_s_22⟩ : ∃ x, wr0.alloc (.cells #[.int .i64 t_20_id, .int .i64 t_20_year, .string t_20_town, .slice Art_20 t_20_traits.length crt_20] 67) = x := ⟨_, rfl⟩
        have bw_s_22 : Below wr0.heap.size wr0 w_s_22 := by rw [← hw_s_22]; exact (Below.refl _ _).alloc (Nat.le_refl _) _
        have Ds_22_held_11 := Lib.hid (apart_fresh Oheld_11.out)
        have Ds_22_covers_7l0 := Lib.hid (Go.Proofs.Ytpaakpbbahbhcaa.GoN.nest_fresh Ocovers_7l0.out)
        have HBw_s_22 := Lib.hid (Below.step HBwr0.out bw_s_22)
        have hct_20_0__220 := cell_below bw_s_22 hct_20_0
        have hct_20_1__221 := cell_below bw_s_22 hct_20_1
        have hct_20_2__222 := cell_below bw_s_22 hct_20_2
        have hct_20_3__223 := cell_below bw_s_22 hct_20_3
        replace Oheld_11 := Lib.hid (own_below Oheld_11.out bw_s_22)
        replace Ocovers_7l0 := Lib.hid (Go.Proofs.Ytpaakpbbahbhcaa.GoN.nest_below Ocovers_7l0.out bw_s_22)
        clear bw_s_22
        have ks_22_0 : w_s_22.cell? ⟨wr0.heap.size, 0, none⟩ = some (.int .i64 t_20_id) := by rw [← hw_s_22]; exact box_new _ _ _ 0 _ rfl
        have ks_22_1 : w_s_22.cell? ⟨wr0.heap.size, 1, none⟩ = some (.int .i64 t_20_year) := by rw [← hw_s_22]; exact box_new _ _ _ 1 _ rfl
        have ks_22_2 : w_s_22.cell? ⟨wr0.heap.size, 2, none⟩ = some (.string t_20_town) := by rw [← hw_s_22]; exact box_new _ _ _ 2 _ rfl
        have ks_22_3 : w_s_22.cell? ⟨wr0.heap.size, 3, none⟩ = some (.slice Art_20 t_20_traits.length crt_20) := by rw [← hw_s_22]; exact box_new _ _ _ 3 _ rfl
        obtain ⟨w_t_25, hw_t_25⟩ : ∃ x, w_s_22.alloc (.cells #[] 3) = x := ⟨_, rfl⟩
        have bw_t_25 : Below w_s_22.heap.size w_s_22 w_t_25 := by rw [← hw_t_25]; exact (Below.refl _ _).alloc (Nat.le_refl _) _
        have Ot_25 : Hid (w_t_25.ownsRow w.heap.size 3 1 (.slice (some ⟨w_s_22.heap.size, 0, none⟩) 0 0) 0 []) := Lib.hid (by rw [← hw_t_25]; exact own_empty HBw_s_22.out.size)
        have Dt_25_held_11 := Lib.hid (apart_fresh Oheld_11.out)
        have Dt_25_covers_7l0 := Lib.hid (Go.Proofs.Ytpaakpbbahbhcaa.GoN.nest_fresh Ocovers_7l0.out)
        have Dt_25_s_22 := Lib.hid (apart_box ks_22_0)
        have HBw_t_25 := Lib.hid (Below.step HBw_s_22.out bw_t_25)
        have hct_20_0__224 := cell_below bw_t_25 hct_20_0__220
        have hct_20_1__225 := cell_below bw_t_25 hct_20_1__221
        have hct_20_2__226 := cell_below bw_t_25 hct_20_2__222
        have hct_20_3__227 := cell_below bw_t_25 hct_20_3__223
        have ks_22_0__228 := cell_below bw_t_25 ks_22_0
        have ks_22_1__229 := cell_below bw_t_25 ks_22_1
        have ks_22_2__230 := cell_below bw_t_25 ks_22_2
        have ks_22_3__231 := cell_below bw_t_25 ks_22_3
        replace Oheld_11 := Lib.hid (own_below Oheld_11.out bw_t_25)
        replace Ocovers_7l0 := Lib.hid (Go.Proofs.Ytpaakpbbahbhcaa.GoN.nest_below Ocovers_7l0.out bw_t_25)
        clear bw_t_25
        replace H := guard_hid H
        obtain ⟨hgt_29, H⟩ := H
        have b0t_29 : (0 : Int) ≤ (k0 : Int) := by omega
        have b1t_29 : (k0 : Int) < ((10 : Nat) : Int) := by omega
        have b4t_29 : (k0 : Int) < (10 : Int) := by omega
        have b2t_29 : ((k0 : Int)).toNat = k0 := by omega
        have b3t_29 : k0 < 10 := by omega
        replace H := let_hid H
        obtain ⟨t_30_0, ht_30_0, H⟩ := H
        try simp only [Int.toNat_natCast] at ht_30_0
        replace ht_30_0 := Lib.hid ht_30_0
        replace H := let_hid H
        obtain ⟨t_30_1, ht_30_1, H⟩ := H
        try simp only [Int.toNat_natCast] at ht_30_1
        replace ht_30_1 := Lib.hid ht_30_1
        replace H := let_hid H
        obtain ⟨t_30_2, ht_30_2, H⟩ := H
        try simp only [Int.toNat_natCast] at ht_30_2
        replace ht_30_2 := Lib.hid ht_30_2
        replace H := let_hid H
        obtain ⟨t_30_3, ht_30_3, H⟩ := H
        try simp only [Int.toNat_natCast] at ht_30_3
        replace ht_30_3 := Lib.hid ht_30_3
        replace H := let_hid H
        obtain ⟨t_30_4, ht_30_4, H⟩ := H
        try simp only [Int.toNat_natCast] at ht_30_4
        replace ht_30_4 := Lib.hid ht_30_4
        replace H := let_hid H
        obtain ⟨t_30_5, ht_30_5, H⟩ := H
        try simp only [Int.toNat_natCast] at ht_30_5
        replace ht_30_5 := Lib.hid ht_30_5
        replace H := let_hid H
        obtain ⟨t_30_6, ht_30_6, H⟩ := H
        try simp only [Int.toNat_natCast] at ht_30_6
        replace ht_30_6 := Lib.hid ht_30_6
        replace H := let_hid H
        obtain ⟨t_30_7, ht_30_7, H⟩ := H
        try simp only [Int.toNat_natCast] at ht_30_7
        replace ht_30_7 := Lib.hid ht_30_7
        replace H := let_hid H
        obtain ⟨t_30_8, ht_30_8, H⟩ := H
        try simp only [Int.toNat_natCast] at ht_30_8
        replace ht_30_8 := Lib.hid ht_30_8
        replace H := let_hid H
        obtain ⟨t_30_9, ht_30_9, H⟩ := H
        try simp only [Int.toNat_natCast] at ht_30_9
        replace ht_30_9 := Lib.hid ht_30_9
        have kct_30_0 : w_t_25.cell? ⟨wt_10.heap.size, k0 * 10, none⟩ = some (.int .i64 t_30_0) := by rw [← ht_30_0.out]; exact Go.Proofs.Ytpaakpbbahbhcaa.GoA.row_at Oheld_11.out nheld_11h.out (k0 * 10 + 0) (by omega)
        have kct_30_1 : w_t_25.cell? ⟨wt_10.heap.size, k0 * 10 + 1, none⟩ = some (.int .i64 t_30_1) := by rw [← ht_30_1.out]; exact Go.Proofs.Ytpaakpbbahbhcaa.GoA.row_at Oheld_11.out nheld_11h.out (k0 * 10 + 1) (by omega)
        have kct_30_2 : w_t_25.cell? ⟨wt_10.heap.size, k0 * 10 + 2, none⟩ = some (.int .i64 t_30_2) := by rw [← ht_30_2.out]; exact Go.Proofs.Ytpaakpbbahbhcaa.GoA.row_at Oheld_11.out nheld_11h.out (k0 * 10 + 2) (by omega)
        have kct_30_3 : w_t_25.cell? ⟨wt_10.heap.size, k0 * 10 + 3, none⟩ = some (.int .i64 t_30_3) := by rw [← ht_30_3.out]; exact Go.Proofs.Ytpaakpbbahbhcaa.GoA.row_at Oheld_11.out nheld_11h.out (k0 * 10 + 3) (by omega)
        have kct_30_4 : w_t_25.cell? ⟨wt_10.heap.size, k0 * 10 + 4, none⟩ = some (.int .i64 t_30_4) := by rw [← ht_30_4.out]; exact Go.Proofs.Ytpaakpbbahbhcaa.GoA.row_at Oheld_11.out nheld_11h.out (k0 * 10 + 4) (by omega)
        have kct_30_5 : w_t_25.cell? ⟨wt_10.heap.size, k0 * 10 + 5, none⟩ = some (.int .i64 t_30_5) := by rw [← ht_30_5.out]; exact Go.Proofs.Ytpaakpbbahbhcaa.GoA.row_at Oheld_11.out nheld_11h.out (k0 * 10 + 5) (by omega)
        have kct_30_6 : w_t_25.cell? ⟨wt_10.heap.size, k0 * 10 + 6, none⟩ = some (.int .i64 t_30_6) := by rw [← ht_30_6.out]; exact Go.Proofs.Ytpaakpbbahbhcaa.GoA.row_at Oheld_11.out nheld_11h.out (k0 * 10 + 6) (by omega)
        have kct_30_7 : w_t_25.cell? ⟨wt_10.heap.size, k0 * 10 + 7, none⟩ = some (.int .i64 t_30_7) := by rw [← ht_30_7.out]; exact Go.Proofs.Ytpaakpbbahbhcaa.GoA.row_at Oheld_11.out nheld_11h.out (k0 * 10 + 7) (by omega)
        have kct_30_8 : w_t_25.cell? ⟨wt_10.heap.size, k0 * 10 + 8, none⟩ = some (.int .i64 t_30_8) := by rw [← ht_30_8.out]; exact Go.Proofs.Ytpaakpbbahbhcaa.GoA.row_at Oheld_11.out nheld_11h.out (k0 * 10 + 8) (by omega)
        have kct_30_9 : w_t_25.cell? ⟨wt_10.heap.size, k0 * 10 + 9, none⟩ = some (.int .i64 t_30_9) := by rw [← ht_30_9.out]; exact Go.Proofs.Ytpaakpbbahbhcaa.GoA.row_at Oheld_11.out nheld_11h.out (k0 * 10 + 9) (by omega)
        replace H := bind_hid H
        obtain ⟨t_32, qt_32, H⟩ := H
        go_wp2_with fail
        clear hct_20_0 hct_20_1 hct_20_2 hct_20_3 hct_20_0__220 hct_20_1__221 hct_20_2__222 hct_20_3__223 ks_22_0 ks_22_1 ks_22_2 ks_22_3
        go_at_call 62
        refine (Go.Proofs.Ytpaakpbbahbhcaa.GiCoverOf.C (list) ((Go.Proofs.Ytpaakpbbahbhcaa.PIntA10.IntA10.mk t_30_0 t_30_1 t_30_2 t_30_3 t_30_4 t_30_5 t_30_6 t_30_7 t_30_8 t_30_9)) (limit) (some ⟨bbt_20, oot_20, none⟩) c0 w _ (Lib.hid HBw_t_25.out)   M0 N0 Q0 qt_32).mono ?_
        rintro e_t_32 wt_32 ⟨At_32, ct_32, rfl, ⟨Bt_32, ot_32⟩, bt_32⟩
        have Dt_32_held_11 := Lib.hid (Go.Proofs.Ytpaakpbbahbhcaa.GoV.part_callrow ot_32 Oheld_11.out)
        have Dt_32_covers_7l0 := Lib.hid (Go.Proofs.Ytpaakpbbahbhcaa.GoV.lts_apart (Go.Proofs.Ytpaakpbbahbhcaa.GoV.part_lt ot_32) (Go.Proofs.Ytpaakpbbahbhcaa.GoN.nest_lt Ocovers_7l0.out))
        have Dt_32_t_25 := Lib.hid (Go.Proofs.Ytpaakpbbahbhcaa.GoV.part_callrow ot_32 Ot_25.out)
        have Dt_32_s_22 := Lib.hid (Go.Proofs.Ytpaakpbbahbhcaa.GoV.part_callbox ot_32 ks_22_0__228)
        have Ot_32 := Lib.hid (Go.Proofs.Ytpaakpbbahbhcaa.GoV.part_lower ot_32 HBw_t_25.out.size)
        clear ot_32
        have HBwt_32 := Lib.hid (Below.step HBw_t_25.out bt_32)
        replace hct_20_0__224 := cell_below bt_32 hct_20_0__224
        replace hct_20_1__225 := cell_below bt_32 hct_20_1__225
        replace hct_20_2__226 := cell_below bt_32 hct_20_2__226
        replace hct_20_3__227 := cell_below bt_32 hct_20_3__227
        replace ks_22_0__228 := cell_below bt_32 ks_22_0__228
        replace ks_22_1__229 := cell_below bt_32 ks_22_1__229
        replace ks_22_2__230 := cell_below bt_32 ks_22_2__230
        replace ks_22_3__231 := cell_below bt_32 ks_22_3__231
        replace kct_30_0 := cell_below bt_32 kct_30_0
        replace kct_30_1 := cell_below bt_32 kct_30_1
        replace kct_30_2 := cell_below bt_32 kct_30_2
        replace kct_30_3 := cell_below bt_32 kct_30_3
        replace kct_30_4 := cell_below bt_32 kct_30_4
        replace kct_30_5 := cell_below bt_32 kct_30_5
        replace kct_30_6 := cell_below bt_32 kct_30_6
        replace kct_30_7 := cell_below bt_32 kct_30_7
        replace kct_30_8 := cell_below bt_32 kct_30_8
        replace kct_30_9 := cell_below bt_32 kct_30_9
        replace Oheld_11 := Lib.hid (own_below Oheld_11.out bt_32)
        replace Ocovers_7l0 := Lib.hid (Go.Proofs.Ytpaakpbbahbhcaa.GoN.nest_below Ocovers_7l0.out bt_32)
        replace Ot_25 := Lib.hid (own_below Ot_25.out bt_32)
        clear bt_32
        have hb_1 : t_32.length ≤ 9223372036854775807 := Go.Proofs.Ytpaakpbbahbhcaa.GoV.part_max Ot_32.out
        go_wp2_with fail
        go_loopg [36, 10] (t_32.length) (fun m_ v36_ v10_ wr => ∃ (k1 : Nat) (ids_10l1 : (List Int)) (Aids_10l1 : Option Addr) (cids_10l1 : Nat), k1 + m_ = t_32.length ∧ v36_ = .int .i64 (k1 : Int) ∧ v10_ = .slice Aids_10l1 ids_10l1.length cids_10l1 ∧ Hid (cntK (l1 t_32) m_ k1 (ids_10l1) (e1 (fun s' => cntK (l0 list limit t_10) m0 (k0 + 1) s' (e0 )) covers_7l0 t_20_id) = some (r0, r1)) ∧ Hid (Below w.heap.size w wr) ∧ wr.cell? ⟨wr0.heap.size, 0, none⟩ = some (.int .i64 t_20_id) ∧ wr.cell? ⟨wr0.heap.size, 1, none⟩ = some (.int .i64 t_20_year) ∧ wr.cell? ⟨wr0.heap.size, 2, none⟩ = some (.string t_20_town) ∧ wr.cell? ⟨wr0.heap.size, 3, none⟩ = some (.slice Art_20 t_20_traits.length crt_20) ∧ Hid (wr.ownsRow w.heap.size 3 1 (.slice Aids_10l1 ids_10l1.length cids_10l1) ids_10l1.length (Go.Proofs.Ytpaakpbbahbhcaa.HelpInt.iv ids_10l1)) ∧ Hid (wr.ownsRow w.heap.size 62 1 (.slice (some ⟨wt_10.heap.size, 0, none⟩) 100 100) 100 (Go.Proofs.Ytpaakpbbahbhcaa.HelpInt.iv t_10)) ∧ Hid (Go.Proofs.Ytpaakpbbahbhcaa.GoN.OwnNest wr (w.heap.size) 32 3 1 Go.Proofs.Ytpaakpbbahbhcaa.HelpInt.iv Acovers_7l0 ccovers_7l0 covers_7l0 Bcovers_7l0) ∧ Hid (Go.Proofs.Ytpaakpbbahbhcaa.GoV.PartNest wr w (w.heap.size) 67 3 Go.Proofs.Ytpaakpbbahbhcaa.GoVSighting.lay (fun _ => false) At_32 ct_32 t_32 Bt_32) ∧ Hid (Apart Aids_10l1 (some ⟨wt_10.heap.size, 0, none⟩)) ∧ Hid (∀ y_ ∈ Bcovers_7l0, Apart Aids_10l1 y_) ∧ Hid (∀ y_ ∈ Bt_32, Apart Aids_10l1 y_) ∧ Hid (Apart Aids_10l1 (some ⟨wr0.heap.size, 0, none⟩)))
        case atStart => exact ⟨0, _, _, _, by omega, rfl, rfl, H, HBwt_32, ks_22_0__228, ks_22_1__229, ks_22_2__230, ks_22_3__231, Ot_25, Oheld_11, Ocovers_7l0, Ot_32, Lib.hid Dt_25_held_11.out, Lib.hid Dt_25_covers_7l0.out, Lib.hid Dt_32_t_25.out, Lib.hid Dt_25_s_22.out⟩
        case round =>
          obtain ⟨k1, ids_10l1, Aids_10l1, cids_10l1, hkm1, rfl, rfl, H, HBwr1, ks_22_0__228, ks_22_1__229, ks_22_2__230, ks_22_3__231, Oids_10l1, Oheld_11, Ocovers_7l0, Ot_32, Dids_10l1_held_11, Dids_10l1_covers_7l0, Dids_10l1_t_32, Dids_10l1_s_22⟩ := hrel
          rename World => wr1
          cases gk with
          | zero =>
            obtain rfl : k1 = t_32.length := by omega
            have hc1 : decide (((t_32.length : Nat) : Int) < ((t_32.length : Nat) : Int)) = false := by simp
            replace H := cnt_zero H
            unfold e1 at H
            replace H := let_hid H
            obtain ⟨_, rfl, H⟩ := H
            go_wp2_with fail
            have Hks_22_0__228 := Lib.hid ks_22_0__228
            replace ks_22_0__228 := cell_regrown ks_22_0__228
            have Hks_22_1__229 := Lib.hid ks_22_1__229
            replace ks_22_1__229 := cell_regrown ks_22_1__229
            have Hks_22_2__230 := Lib.hid ks_22_2__230
            replace ks_22_2__230 := cell_regrown ks_22_2__230
            have Hks_22_3__231 := Lib.hid ks_22_3__231
            replace ks_22_3__231 := cell_regrown ks_22_3__231
            replace H := idx_hid H
            obtain ⟨nt_49, yt_49, et_49, lt_49, gt_49, H⟩ := H
            obtain rfl : 0 = nt_49 := by omega
            clear et_49
            obtain ⟨qt_49, Qt_49⟩ := own_some Oids_10l1.out (by omega)
            subst Qt_49
            obtain ⟨ab_t_49, ao_t_49, zt_49, At_49, z_t_49, ct_49_0⟩ := Go.Proofs.Ytpaakpbbahbhcaa.HelpInt.Ints.at_ (own_cells Oids_10l1.out) (k := 0) (by omega)
            obtain rfl := Option.some.inj (gt_49.out.symm.trans z_t_49)
            simp only [Option.some.injEq, Addr.mk.injEq] at At_49
            obtain ⟨rfl, rfl, _⟩ := At_49
            clear z_t_49
            have b1t_49 : (0 : Int) < ((ids_10l1.length : Nat) : Int) := by omega
            have b3t_49 : 0 < ids_10l1.length := by omega
            try simp only [Nat.zero_mul, Nat.add_zero, Nat.zero_add, Nat.reduceMul] at ct_49_0
            have Hct_49_0 := Lib.hid ct_49_0
            replace ct_49_0 := cell_regrown ct_49_0
            replace H := let_hid H
            obtain ⟨t_53, ht_53, H⟩ := H
            refine wp_region_quiet_below (by kernel_rfl) (by kernel_rfl) ?_
            repeat (go_big_quiet_step (fail))
            refine wpQuiet_nil ?_
            intro Y14 hY14
            replace hY14 := below_class hY14
            replace ks_22_0__228 := Hks_22_0__228.out
            clear Hks_22_0__228
            replace ks_22_1__229 := Hks_22_1__229.out
            clear Hks_22_1__229
            replace ks_22_2__230 := Hks_22_2__230.out
            clear Hks_22_2__230
            replace ks_22_3__231 := Hks_22_3__231.out
            clear Hks_22_3__231
            replace ct_49_0 := Hct_49_0.out
            clear Hct_49_0
            have HBY14 := Lib.hid (Below.step HBwr1.out hY14)
            replace ks_22_0__228 := cell_below hY14 ks_22_0__228
            replace ks_22_1__229 := cell_below hY14 ks_22_1__229
            replace ks_22_2__230 := cell_below hY14 ks_22_2__230
            replace ks_22_3__231 := cell_below hY14 ks_22_3__231
            replace ct_49_0 := cell_below hY14 ct_49_0
            replace Oheld_11 := Lib.hid (own_below Oheld_11.out hY14)
            replace Ocovers_7l0 := Lib.hid (Go.Proofs.Ytpaakpbbahbhcaa.GoN.nest_below Ocovers_7l0.out hY14)
            replace Ot_32 := Lib.hid (Go.Proofs.Ytpaakpbbahbhcaa.GoV.part_below Ot_32.out hY14)
            replace Oids_10l1 := Lib.hid (own_below Oids_10l1.out hY14)
            clear hY14
            cases t_53 with
            | false =>
              replace H := ite_f H
              replace H := app_hid H
              go_wp2_with fail
              go_roundg m0
              case measure => omega
              case rel => exact ⟨k0 + 1, _, _, _, _, by omega, by go_num, rfl, H, HBY14, Ocovers_7l0, Oheld_11, Lib.hid Dheld_11_covers_7l0.out⟩
            | true =>
              replace H := ite_t H
              obtain ⟨w_t_56, hw_t_56⟩ : ∃ x, Y14.alloc (.cells #[.slice (some ⟨qt_49, 0, none⟩) ids_10l1.length cids_10l1] 32) = x := ⟨_, rfl⟩
              have bw_t_56 : Below Y14.heap.size Y14 w_t_56 := by rw [← hw_t_56]; exact (Below.refl _ _).alloc (Nat.le_refl _) _
              have HBw_t_56 := Lib.hid (Below.step HBY14.out bw_t_56)
              have ks_22_0__232 := cell_below bw_t_56 ks_22_0__228
              have ks_22_1__233 := cell_below bw_t_56 ks_22_1__229
              have ks_22_2__234 := cell_below bw_t_56 ks_22_2__230
              have ks_22_3__235 := cell_below bw_t_56 ks_22_3__231
              have ct_49_0__236 := cell_below bw_t_56 ct_49_0
              replace Oheld_11 := Lib.hid (own_below Oheld_11.out bw_t_56)
              replace Ocovers_7l0 := Lib.hid (Go.Proofs.Ytpaakpbbahbhcaa.GoN.nest_below Ocovers_7l0.out bw_t_56)
              replace Ot_32 := Lib.hid (Go.Proofs.Ytpaakpbbahbhcaa.GoV.part_below Ot_32.out bw_t_56)
              replace Oids_10l1 := Lib.hid (own_below Oids_10l1.out bw_t_56)
              clear bw_t_56
              replace H := guard_hid H
              obtain ⟨hlt_57, H⟩ := H
              replace H := let_hid H
              obtain ⟨t_57, ht_57, H⟩ := H
              have hht_57 := Lib.hid ht_57
              clear ht_57
              have hst_57 := HBw_t_56.out.size
              obtain ⟨zt_57, h1t_57, h2t_57, h3t_57, h4t_57, h5t_57⟩ := Ocovers_7l0.out
              have h1t_57i := Lib.hid h1t_57
              have h3t_57i := Lib.hid h3t_57
              have h4t_57i := Lib.hid h4t_57
              have h5t_57i := Lib.hid h5t_57
              clear h1t_57 h3t_57 h4t_57 h5t_57
              have h2t_57i := Lib.hid h2t_57
              clear h2t_57
              go_wp2_with (at_builtin; refine wpList_append_own_at _ rfl _ _ 29 rfl w.heap.size 32 i0_32 (.slice none 0 0) 1 24 Try.underlying29 hi_32 hz0_32 hz1_32 hz2_32 rfl (by decide) _ _ _ rfl h2t_57i.out ⟨Y14.heap.size, 0, none⟩ 1 1 [.slice (some ⟨qt_49, 0, none⟩) ids_10l1.length cids_10l1] rfl rfl (news_new hw_t_56) (one_cells rfl) (by unfold maxLen; omega) (by omega) hst_57 ?_; intro vt_57 wt_57 ot_57 gt_57 ut_57 yt_57; clear ut_57; obtain ⟨qt_57, ct_57, Bt_57, rfl, pt_57, dt_57, rt_57⟩ := Go.Proofs.Ytpaakpbbahbhcaa.GoN.nest_app hht_57.out h1t_57i.out h4t_57i.out h3t_57i.out h5t_57i.out Oids_10l1.out Dids_10l1_covers_7l0.out gt_57 ot_57 yt_57; have Pt_57 := Lib.hid pt_57; have Ut_57 := Lib.hid dt_57; have Rt_57 := Lib.hid rt_57; have Gt_57 := Lib.hid gt_57; clear ot_57 gt_57 pt_57 yt_57 dt_57 rt_57; refine stop_in ?_)
              refine stop_out ?_
              have HBwt_57 := Lib.hid (HBw_t_56.out.grown Gt_57.out hst_57 (fun q hq => (h2t_57i.out.lt q hq).1))
              clear hst_57
              have Dt_57_held_11 : Hid (∀ y_ ∈ Bt_57, Apart (some ⟨wt_10.heap.size, 0, none⟩) y_) := Lib.hid (Go.Proofs.Ytpaakpbbahbhcaa.GoN.apart_push Dheld_11_covers_7l0.out (Apart.symm Dids_10l1_held_11.out) (fun a_ ha_ => (own_lt Oheld_11.out a_ ha_).2) Ut_57.out)
              have Dt_57_s_22 : Hid (∀ y_ ∈ Bt_57, Apart (some ⟨wr0.heap.size, 0, none⟩) y_) := Lib.hid (Go.Proofs.Ytpaakpbbahbhcaa.GoN.apart_push Ds_22_covers_7l0.out (Apart.symm Dids_10l1_s_22.out) (fun a_ ha_ => by cases ha_; exact cell_lt ks_22_0__232) Ut_57.out)
              have Dt_57_t_32 := Lib.hid (Go.Proofs.Ytpaakpbbahbhcaa.GoN.apart_pushN Dt_32_covers_7l0.out Dids_10l1_t_32.out (fun r_ hr_ a_ ha_ => (Go.Proofs.Ytpaakpbbahbhcaa.GoV.part_lt Ot_32.out r_ hr_ a_ ha_).2) Ut_57.out)
              replace ks_22_0__232 := cell_other ks_22_0__232 Gt_57.out (Apart.symm (Ds_22_covers_7l0.out _ (Go.Proofs.Ytpaakpbbahbhcaa.GoN.nest_head Ocovers_7l0.out)))
              replace ks_22_1__233 := cell_other ks_22_1__233 Gt_57.out (Apart.symm (Ds_22_covers_7l0.out _ (Go.Proofs.Ytpaakpbbahbhcaa.GoN.nest_head Ocovers_7l0.out)))
              replace ks_22_2__234 := cell_other ks_22_2__234 Gt_57.out (Apart.symm (Ds_22_covers_7l0.out _ (Go.Proofs.Ytpaakpbbahbhcaa.GoN.nest_head Ocovers_7l0.out)))
              replace ks_22_3__235 := cell_other ks_22_3__235 Gt_57.out (Apart.symm (Ds_22_covers_7l0.out _ (Go.Proofs.Ytpaakpbbahbhcaa.GoN.nest_head Ocovers_7l0.out)))
              replace ct_49_0__236 := cell_other ct_49_0__236 Gt_57.out (Apart.symm (Dids_10l1_covers_7l0.out _ (Go.Proofs.Ytpaakpbbahbhcaa.GoN.nest_head Ocovers_7l0.out)))
              replace Oheld_11 := Lib.hid (own_other Oheld_11.out Gt_57.out (Apart.symm (Dheld_11_covers_7l0.out _ (Go.Proofs.Ytpaakpbbahbhcaa.GoN.nest_head Ocovers_7l0.out))))
              replace Ot_32 := Lib.hid (Go.Proofs.Ytpaakpbbahbhcaa.GoV.part_other Ot_32.out Gt_57.out ((Go.Proofs.Ytpaakpbbahbhcaa.GoN.nest_flip Dt_32_covers_7l0.out) _ (Go.Proofs.Ytpaakpbbahbhcaa.GoN.nest_head Ocovers_7l0.out)))
              replace Oids_10l1 := Lib.hid (own_other Oids_10l1.out Gt_57.out (Apart.symm (Dids_10l1_covers_7l0.out _ (Go.Proofs.Ytpaakpbbahbhcaa.GoN.nest_head Ocovers_7l0.out))))
              clear ks_22_0__228 ks_22_1__229 ks_22_2__230 ks_22_3__231 ct_49_0
              clear Ocovers_7l0 Gt_57 h1t_57i h2t_57i h3t_57i h4t_57i h5t_57i
              clear Oids_10l1
              have mmt_57 := Lib.hid Ut_57.out.2.1
              clear Ut_57
              replace H := app_hid H
              go_wp2_with fail
              go_roundg m0
              case measure => omega
              case rel => exact ⟨k0 + 1, _, _, _, _, by omega, by go_num, rfl, H, HBwt_57, Pt_57, Oheld_11, Lib.hid Dt_57_held_11.out⟩
          | succ m1 =>
            have hlt1 : k1 < t_32.length := by omega
            have hc1 : decide ((k1 : Int) < ((t_32.length : Nat) : Int)) = true := by simp; omega
            replace H := cnt_succ H
            unfold l1 at H
            replace H := let_hid H
            obtain ⟨_, rfl, H⟩ := H
            replace H := idx_hid H
            obtain ⟨nt_36, yt_36, et_36, lt_36, gt_36, H⟩ := H
            obtain rfl : k1 = nt_36 := by omega
            clear et_36
            obtain ⟨t_36_id, t_36_year, t_36_town, t_36_traits⟩ := yt_36
            replace H := unSighting_hid H
            obtain ⟨gt_36_, zt_36, Art_36, crt_36, eAt_36, zzt_36, hKt_36, hrt_36, hqt_36, hnt_36⟩ := Go.Proofs.Ytpaakpbbahbhcaa.GoV.part_held Ot_32.out (k := k1) lt_36
            obtain rfl := Option.some.inj (gt_36.out.symm.trans zzt_36)
            clear zzt_36
            subst eAt_36
            have hct_36_0 : wr1.cell? ⟨gt_36_, k1 * 4, none⟩ = some (.int .i64 t_36_id) := hKt_36 0 _ rfl
            have hct_36_1 : wr1.cell? ⟨gt_36_, k1 * 4 + 1, none⟩ = some (.int .i64 t_36_year) := hKt_36 1 _ rfl
            have hct_36_2 : wr1.cell? ⟨gt_36_, k1 * 4 + 2, none⟩ = some (.string t_36_town) := hKt_36 2 _ rfl
            have hct_36_3 : wr1.cell? ⟨gt_36_, k1 * 4 + 3, none⟩ = some (.slice Art_36 t_36_traits.length crt_36) := hKt_36 3 _ rfl
            clear hKt_36
            have ltt_36 := cell_lt hct_36_0
            have Mrt_36 := Lib.hid hrt_36
            have Qrt_36 := Lib.hid hqt_36
            have Nrt_36 := Lib.hid hnt_36
            clear hrt_36 hqt_36 hnt_36
            have b0t_36 : (0 : Int) ≤ (k1 : Int) := by omega
            have b1t_36 : (k1 : Int) < ((t_32.length : Nat) : Int) := by omega
            have b2t_36 : ((k1 : Int)).toNat = k1 := by omega
            obtain ⟨w_t_38, hw_t_38⟩ : ∃ x, wr1.alloc (.cells #[.int .i64 t_36_id, .int .i64 t_36_year, .string t_36_town, .slice Art_36 t_36_traits.length crt_36] 67) = x := ⟨_, rfl⟩
            have bw_t_38 : Below wr1.heap.size wr1 w_t_38 := by rw [← hw_t_38]; exact (Below.refl _ _).alloc (Nat.le_refl _) _
            have Dt_38_held_11 := Lib.hid (apart_fresh Oheld_11.out)
            have Dt_38_covers_7l0 := Lib.hid (Go.Proofs.Ytpaakpbbahbhcaa.GoN.nest_fresh Ocovers_7l0.out)
            have Dt_38_t_32 := Lib.hid (Go.Proofs.Ytpaakpbbahbhcaa.GoV.part_fresh Ot_32.out)
            have Dt_38_ids_10l1 := Lib.hid (apart_fresh Oids_10l1.out)
            have HBw_t_38 := Lib.hid (Below.step HBwr1.out bw_t_38)
            have ks_22_0__237 := cell_below bw_t_38 ks_22_0__228
            have ks_22_1__238 := cell_below bw_t_38 ks_22_1__229
            have ks_22_2__239 := cell_below bw_t_38 ks_22_2__230
            have ks_22_3__240 := cell_below bw_t_38 ks_22_3__231
            have hct_36_0__241 := cell_below bw_t_38 hct_36_0
            have hct_36_1__242 := cell_below bw_t_38 hct_36_1
            have hct_36_2__243 := cell_below bw_t_38 hct_36_2
            have hct_36_3__244 := cell_below bw_t_38 hct_36_3
            replace Oheld_11 := Lib.hid (own_below Oheld_11.out bw_t_38)
            replace Ocovers_7l0 := Lib.hid (Go.Proofs.Ytpaakpbbahbhcaa.GoN.nest_below Ocovers_7l0.out bw_t_38)
            replace Ot_32 := Lib.hid (Go.Proofs.Ytpaakpbbahbhcaa.GoV.part_below Ot_32.out bw_t_38)
            replace Oids_10l1 := Lib.hid (own_below Oids_10l1.out bw_t_38)
            clear bw_t_38
            have kt_38_0 : w_t_38.cell? ⟨wr1.heap.size, 0, none⟩ = some (.int .i64 t_36_id) := by rw [← hw_t_38]; exact box_new _ _ _ 0 _ rfl
            have kt_38_1 : w_t_38.cell? ⟨wr1.heap.size, 1, none⟩ = some (.int .i64 t_36_year) := by rw [← hw_t_38]; exact box_new _ _ _ 1 _ rfl
            have kt_38_2 : w_t_38.cell? ⟨wr1.heap.size, 2, none⟩ = some (.string t_36_town) := by rw [← hw_t_38]; exact box_new _ _ _ 2 _ rfl
            have kt_38_3 : w_t_38.cell? ⟨wr1.heap.size, 3, none⟩ = some (.slice Art_36 t_36_traits.length crt_36) := by rw [← hw_t_38]; exact box_new _ _ _ 3 _ rfl
            obtain ⟨w_t_43, hw_t_43⟩ : ∃ x, w_t_38.alloc (.cells #[.int .i64 t_36_id] 3) = x := ⟨_, rfl⟩
            have bw_t_43 : Below w_t_38.heap.size w_t_38 w_t_43 := by rw [← hw_t_43]; exact (Below.refl _ _).alloc (Nat.le_refl _) _
            have HBw_t_43 := Lib.hid (Below.step HBw_t_38.out bw_t_43)
            have ks_22_0__245 := cell_below bw_t_43 ks_22_0__237
            have ks_22_1__246 := cell_below bw_t_43 ks_22_1__238
            have ks_22_2__247 := cell_below bw_t_43 ks_22_2__239
            have ks_22_3__248 := cell_below bw_t_43 ks_22_3__240
            have hct_36_0__249 := cell_below bw_t_43 hct_36_0__241
            have hct_36_1__250 := cell_below bw_t_43 hct_36_1__242
            have hct_36_2__251 := cell_below bw_t_43 hct_36_2__243
            have hct_36_3__252 := cell_below bw_t_43 hct_36_3__244
            have kt_38_0__253 := cell_below bw_t_43 kt_38_0
            have kt_38_1__254 := cell_below bw_t_43 kt_38_1
            have kt_38_2__255 := cell_below bw_t_43 kt_38_2
            have kt_38_3__256 := cell_below bw_t_43 kt_38_3
            replace Oheld_11 := Lib.hid (own_below Oheld_11.out bw_t_43)
            replace Ocovers_7l0 := Lib.hid (Go.Proofs.Ytpaakpbbahbhcaa.GoN.nest_below Ocovers_7l0.out bw_t_43)
            replace Ot_32 := Lib.hid (Go.Proofs.Ytpaakpbbahbhcaa.GoV.part_below Ot_32.out bw_t_43)
            replace Oids_10l1 := Lib.hid (own_below Oids_10l1.out bw_t_43)
            clear bw_t_43
            replace H := guard_hid H
            obtain ⟨hlt_44, H⟩ := H
            replace H := let_hid H
            obtain ⟨t_44, ht_44, H⟩ := H
            have hht_44 := Lib.hid ht_44
            clear ht_44
            have hst_44 := HBw_t_43.out.size
            go_wp2_with (at_builtin; refine wpList_append_own_at _ rfl _ _ 32 rfl w.heap.size 3 i0_3 (.int .i64 0) 1 8 Try.underlying32 hi_3 hz0_3 hz1_3 hz2_3 rfl (by decide) _ _ _ rfl Oids_10l1.out ⟨w_t_38.heap.size, 0, none⟩ 1 1 [.int .i64 t_36_id] rfl rfl (news_new hw_t_43) (one_cells rfl) (by unfold maxLen; omega) (by omega) hst_44 ?_; intro vt_44 wt_44 ot_44 gt_44 zt_44 yt_44; clear zt_44; obtain ⟨qt_44, ct_44, rfl, pt_44⟩ := own_push hht_44.out (Go.Proofs.Ytpaakpbbahbhcaa.HelpInt.iv_snoc _ _) rfl ot_44; have Pt_44 := Lib.hid pt_44; have Yt_44 := Lib.hid yt_44; have Gt_44 := Lib.hid gt_44; clear ot_44 gt_44 pt_44 yt_44; refine stop_in ?_)
            refine stop_out ?_
            have HBwt_44 := Lib.hid (HBw_t_43.out.grown Gt_44.out hst_44 (fun q hq => (Oids_10l1.out.lt q hq).1))
            clear hst_44
            have Dt_44_held_11 : Hid (Apart (some ⟨qt_44, 0, none⟩) _) := Lib.hid (apart_app Dids_10l1_held_11.out (fun a_ ha_ => (own_lt Oheld_11.out a_ ha_).2) Yt_44.out)
            have Dt_44_covers_7l0 : Hid (∀ y_ ∈ Bcovers_7l0, Apart (some ⟨qt_44, 0, none⟩) y_) := Lib.hid (fun y_ hy_ => (apart_app (Dids_10l1_covers_7l0.out y_ hy_) (fun a_ ha_ => (Go.Proofs.Ytpaakpbbahbhcaa.GoN.nest_lt Ocovers_7l0.out y_ hy_ a_ ha_).2) Yt_44.out))
            have Dt_44_t_32 : Hid (∀ y_ ∈ Bt_32, Apart (some ⟨qt_44, 0, none⟩) y_) := Lib.hid (fun y_ hy_ => (apart_app (Dids_10l1_t_32.out y_ hy_) (fun a_ ha_ => (Go.Proofs.Ytpaakpbbahbhcaa.GoV.part_lt Ot_32.out y_ hy_ a_ ha_).2) Yt_44.out))
            have Dt_44_s_22 : Hid (Apart (some ⟨qt_44, 0, none⟩) _) := Lib.hid (apart_app Dids_10l1_s_22.out (fun a_ ha_ => by cases ha_; exact cell_lt ks_22_0__245) Yt_44.out)
            have Dt_44_t_38 : Hid (Apart (some ⟨qt_44, 0, none⟩) _) := Lib.hid (apart_app (Apart.symm Dt_38_ids_10l1.out) (fun a_ ha_ => by cases ha_; exact cell_lt kt_38_0__253) Yt_44.out)
            replace ks_22_0__245 := cell_other ks_22_0__245 Gt_44.out Dids_10l1_s_22.out
            replace ks_22_1__246 := cell_other ks_22_1__246 Gt_44.out Dids_10l1_s_22.out
            replace ks_22_2__247 := cell_other ks_22_2__247 Gt_44.out Dids_10l1_s_22.out
            replace ks_22_3__248 := cell_other ks_22_3__248 Gt_44.out Dids_10l1_s_22.out
            replace hct_36_0__249 := cell_other hct_36_0__249 Gt_44.out (Dids_10l1_t_32.out _ (Go.Proofs.Ytpaakpbbahbhcaa.GoV.part_head Ot_32.out))
            replace hct_36_1__250 := cell_other hct_36_1__250 Gt_44.out (Dids_10l1_t_32.out _ (Go.Proofs.Ytpaakpbbahbhcaa.GoV.part_head Ot_32.out))
            replace hct_36_2__251 := cell_other hct_36_2__251 Gt_44.out (Dids_10l1_t_32.out _ (Go.Proofs.Ytpaakpbbahbhcaa.GoV.part_head Ot_32.out))
            replace hct_36_3__252 := cell_other hct_36_3__252 Gt_44.out (Dids_10l1_t_32.out _ (Go.Proofs.Ytpaakpbbahbhcaa.GoV.part_head Ot_32.out))
            replace kt_38_0__253 := cell_other kt_38_0__253 Gt_44.out (Apart.symm Dt_38_ids_10l1.out)
            replace kt_38_1__254 := cell_other kt_38_1__254 Gt_44.out (Apart.symm Dt_38_ids_10l1.out)
            replace kt_38_2__255 := cell_other kt_38_2__255 Gt_44.out (Apart.symm Dt_38_ids_10l1.out)
            replace kt_38_3__256 := cell_other kt_38_3__256 Gt_44.out (Apart.symm Dt_38_ids_10l1.out)
            replace Oheld_11 := Lib.hid (own_other Oheld_11.out Gt_44.out Dids_10l1_held_11.out)
            replace Ocovers_7l0 := Lib.hid (Go.Proofs.Ytpaakpbbahbhcaa.GoN.nest_other Ocovers_7l0.out Gt_44.out Dids_10l1_covers_7l0.out)
            replace Ot_32 := Lib.hid (Go.Proofs.Ytpaakpbbahbhcaa.GoV.part_other Ot_32.out Gt_44.out Dids_10l1_t_32.out)
            clear ks_22_0__228 ks_22_1__229 ks_22_2__230 ks_22_3__231 hct_36_0 hct_36_1 hct_36_2 hct_36_3 ks_22_0__237 ks_22_1__238 ks_22_2__239 ks_22_3__240 hct_36_0__241 hct_36_1__242 hct_36_2__243 hct_36_3__244 kt_38_0 kt_38_1 kt_38_2 kt_38_3
            clear Oids_10l1 Yt_44 Gt_44
            replace H := app_hid H
            go_wp2_with fail
            go_roundg m1
            case measure => omega
            case rel => exact ⟨k1 + 1, _, _, _, by omega, by go_num, rfl, H, HBwt_44, ks_22_0__245, ks_22_1__246, ks_22_2__247, ks_22_3__248, Pt_44, Oheld_11, Ocovers_7l0, Ot_32, Lib.hid Dt_44_held_11.out, Lib.hid Dt_44_covers_7l0.out, Lib.hid Dt_44_t_32.out, Lib.hid Dt_44_s_22.out⟩
end Go.Proofs.Ytpaakpbbahbhcaa.GiCoversSeen

/- loop.example/g01062/laws.eqIntSS as a plain function, and the contract of the program's: where the plain one has an answer, the program has it. Conditions: slices read as lists. -/
namespace Go.Proofs.Ytpaakpbbahbhcaa.GlEqIntSS
set_option linter.unusedVariables false
set_option linter.unusedSimpArgs false
open Go.RowKit
open Go.Proofs.Ytpaakpbbahbhcaa.Rowed Go.Proofs.Ytpaakpbbahbhcaa.Turn Go.Proofs.Ytpaakpbbahbhcaa.Aid Go.Proofs.Ytpaakpbbahbhcaa.GoP Go.Proofs.Ytpaakpbbahbhcaa.GoM

def l0 (a : (List (List Int))) (b : (List (List Int))) (k0 : Nat) (s : Unit) (nx0 bk0 : Unit → Option (Bool)) : Option (Bool) :=
  
  Option.bind (idx a (k0 : Int)) fun (yt_14 : (List Int)) =>
  Option.bind (idx b (k0 : Int)) fun (yt_18 : (List Int)) =>
  Option.bind (Go.Proofs.Ytpaakpbbahbhcaa.GlEqIntS.P yt_14 yt_18) fun (t_20 : Bool) =>
  letK (!t_20) fun (t_21 : Bool) =>
  iteK t_21
  (some false)
  (appK nx0 ())

def e0  (s : Unit) : Option (Bool) :=
  
  some true

def P (a : (List (List Int))) (b : (List (List Int))) : Option (Bool) :=
  letK ((a.length : Int) != (b.length : Int)) fun (t_5 : Bool) =>
  iteK t_5
  (some false)
  (cntK (l0 a b) (a.length) 0 () (e0 ))

set_option maxRecDepth 100000 in
set_option maxHeartbeats 2000000 in
theorem C (a : (List (List Int))) (b : (List (List Int))) (A0 : Option Addr) (c0 : Nat) (A1 : Option Addr) (c1 : Nat)  (w : World) (M0 : Hid (Go.Proofs.Ytpaakpbbahbhcaa.GoN.ReadNest w 1 Go.Proofs.Ytpaakpbbahbhcaa.HelpInt.iv A0 a)) (N0 : Hid (a.length ≤ 9223372036854775807)) (M1 : Hid (Go.Proofs.Ytpaakpbbahbhcaa.GoN.ReadNest w 1 Go.Proofs.Ytpaakpbbahbhcaa.HelpInt.iv A1 b)) (N1 : Hid (b.length ≤ 9223372036854775807))  {r : Bool} (H : Hid (P a b = some r)) :
    Calls Try.prog 33 #[.slice A0 a.length c0, .slice A1 b.length c1] w (Gives (.bool r) w) := by
  have HB := Lib.hid (Below.refl w.heap.size w)
  unfold P at H
  have N0o := N0.out
  have N1o := N1.out
  go_enter Try.func33, Try.ntmps33
  replace H := let_hid H
  obtain ⟨t_5, ht_5, H⟩ := H
  cases t_5 with
  | false =>
    have Hht_5 : Hid (a.length = b.length) := Lib.hid (by have := bne_eq_false_iff_eq.1 ht_5; omega)
    have nht_5 : (a.length == b.length) = true := beq_iff_eq.2 Hht_5.out
    replace H := ite_f H
    go_wp2_with fail
    go_loopg [5] (a.length) (fun m_ v5_ wr => ∃ (k0 : Nat) , k0 + m_ = a.length ∧ v5_ = .int .i64 (k0 : Int) ∧ Hid (cntK (l0 a b) m_ k0 () (e0 ) = some r) ∧ Hid (Below w.heap.size w wr))
    case atStart => exact ⟨0, by omega, rfl, H, HB⟩
    case round =>
      obtain ⟨k0, hkm0, rfl, H, HBwr0⟩ := hrel
      rename World => wr0
      cases gk with
      | zero =>
        obtain rfl : k0 = a.length := by omega
        have hc0 : decide (((a.length : Nat) : Int) < ((a.length : Nat) : Int)) = false := by simp
        replace H := cnt_zero H
        unfold e0 at H
        obtain rfl := ret_hid H
        go_wp2_with fail
        go_ret
        exact ⟨rfl, HBwr0.out⟩
      | succ m0 =>
        have hlt0 : k0 < a.length := by omega
        have hc0 : decide ((k0 : Int) < ((a.length : Nat) : Int)) = true := by simp; omega
        replace H := cnt_succ H
        unfold l0 at H
        go_wp2_with fail
        replace H := idx_hid H
        obtain ⟨nt_14, yt_14, et_14, lt_14, gt_14, H⟩ := H
        obtain rfl : k0 = nt_14 := by omega
        clear et_14
        obtain ⟨bbt_14, oot_14, zt_14, Art_14, crt_14, eAt_14, zzt_14, hct_14, hrt_14, hqt_14, hnt_14⟩ := Go.Proofs.Ytpaakpbbahbhcaa.GoN.nest_at M0.out (k := k0) lt_14
        obtain rfl := Option.some.inj (gt_14.out.symm.trans zzt_14)
        clear zzt_14
        subst eAt_14
        have ltt_14 := cell_lt hct_14
        replace hct_14 := cell_below HBwr0.out hct_14
        have Mrt_14 := Lib.hid hrt_14
        have Qrt_14 := Lib.hid hqt_14
        have Nrt_14 := Lib.hid hnt_14
        clear hrt_14 hqt_14 hnt_14
        have b0t_14 : (0 : Int) ≤ (k0 : Int) := by omega
        have b1t_14 : (k0 : Int) < ((a.length : Nat) : Int) := by omega
        have b2t_14 : ((k0 : Int)).toNat = k0 := by omega
        have Hhct_14 := Lib.hid hct_14
        replace hct_14 := cell_regrown hct_14
        replace H := idx_hid H
        obtain ⟨nt_18, yt_18, et_18, lt_18, gt_18, H⟩ := H
        obtain rfl : k0 = nt_18 := by omega
        clear et_18
        obtain ⟨bbt_18, oot_18, zt_18, Art_18, crt_18, eAt_18, zzt_18, hct_18, hrt_18, hqt_18, hnt_18⟩ := Go.Proofs.Ytpaakpbbahbhcaa.GoN.nest_at M1.out (k := k0) lt_18
        obtain rfl := Option.some.inj (gt_18.out.symm.trans zzt_18)
        clear zzt_18
        subst eAt_18
        have ltt_18 := cell_lt hct_18
        replace hct_18 := cell_below HBwr0.out hct_18
        have Mrt_18 := Lib.hid hrt_18
        have Qrt_18 := Lib.hid hqt_18
        have Nrt_18 := Lib.hid hnt_18
        clear hrt_18 hqt_18 hnt_18
        have b0t_18 : (0 : Int) ≤ (k0 : Int) := by omega
        have b1t_18 : (k0 : Int) < ((b.length : Nat) : Int) := by omega
        have b2t_18 : ((k0 : Int)).toNat = k0 := by omega
        have Hhct_18 := Lib.hid hct_18
        replace hct_18 := cell_regrown hct_18
        replace H := bind_hid H
        obtain ⟨t_20, qt_20, H⟩ := H
        have nt_20 : ∀ d os, Calls Try.prog 37 #[.slice Art_14 yt_14.length crt_14, .slice Art_18 yt_18.length crt_18] (Go.Sort.grow (redrawn wr0 d) os) fun e w'' => e = .returned (.bool t_20) ∧ ∃ p : Regrown, w'' = Go.Sort.grow (redrawn wr0 p.d) p.os := fun d os => Calls.regrown_of (Go.Proofs.Ytpaakpbbahbhcaa.GlEqIntS.C (yt_14) (yt_18) Art_14 crt_14 Art_18 crt_18 _   (Lib.hid (Cells.below (Cells.below Mrt_14.out HBwr0.out) (below_regrown _ _ _))) Nrt_14 (Lib.hid (Cells.below (Cells.below Mrt_18.out HBwr0.out) (below_regrown _ _ _))) Nrt_18 qt_20)
        cases t_20 with
        | false =>
          replace H := let_hid H
          obtain ⟨t_21, ht_21, H⟩ := H
          obtain rfl : t_21 = true := ht_21.symm
          refine wp_region_quiet_below (by kernel_rfl) (by kernel_rfl) ?_
          repeat (go_big_quiet_step (first | (go_at_call 37; exact nt_20 _ _)))
          refine wpQuiet_nil ?_
          intro Y6 hY6
          replace hY6 := below_class hY6
          clear nt_20
          replace hct_14 := Hhct_14.out
          clear Hhct_14
          replace hct_18 := Hhct_18.out
          clear Hhct_18
          have HBY6 := Lib.hid (Below.step HBwr0.out hY6)
          replace hct_14 := cell_below hY6 hct_14
          replace hct_18 := cell_below hY6 hct_18
          clear hY6
          replace H := ite_t H
          obtain rfl := ret_hid H
          go_wp2_with fail
          go_ret
          exact ⟨rfl, HBY6.out⟩
        | true =>
          replace H := let_hid H
          obtain ⟨t_21, ht_21, H⟩ := H
          obtain rfl : t_21 = false := ht_21.symm
          refine wp_region_quiet_below (by kernel_rfl) (by kernel_rfl) ?_
          repeat (go_big_quiet_step (first | (go_at_call 37; exact nt_20 _ _)))
          refine wpQuiet_nil ?_
          intro Y6 hY6
          replace hY6 := below_class hY6
          clear nt_20
          replace hct_14 := Hhct_14.out
          clear Hhct_14
          replace hct_18 := Hhct_18.out
          clear Hhct_18
          have HBY6 := Lib.hid (Below.step HBwr0.out hY6)
          replace hct_14 := cell_below hY6 hct_14
          replace hct_18 := cell_below hY6 hct_18
          clear hY6
          replace H := ite_f H
          replace H := app_hid H
          go_wp2_with fail
          go_roundg m0
          case measure => omega
          case rel => exact ⟨k0 + 1, by omega, by go_num, H, HBY6⟩
  | true =>
    have nht_5 : ¬ (a.length = b.length) := by have := bne_iff_ne.1 ht_5; omega
    replace H := ite_t H
    obtain rfl := ret_hid H
    go_wp2_with fail
    go_ret
    exact ⟨rfl, HB.out⟩
end Go.Proofs.Ytpaakpbbahbhcaa.GlEqIntSS

/- The contracts of the laws' helpers on slices of strings: szStringS, toStringS, eqStringS. Condition: the slice reads as a list of strings. -/
namespace Go.Proofs.Ytpaakpbbahbhcaa.HelpStr
set_option linter.unusedVariables false
open Go.RowKit
open Go.Proofs.Ytpaakpbbahbhcaa.Rowed

/-- how many bytes the strings hold together -/
def nbytes (l : List ByteArray) : Nat := (l.map ByteArray.size).sum
/-- szStringS: what is left of 'left' behind the strings and their number, or -1 where nothing is left -/
def SzPost (l : List ByteArray) (left : Int) (w : World) (e : Ending) (w' : World) : Prop :=
  ((0 ≤ left - (l.length : Int) - (nbytes l : Int) ∧ e = .returned (.int .i64 (left - (l.length : Int) - (nbytes l : Int)))) ∨ (left - (l.length : Int) - (nbytes l : Int) < 0 ∧ e = .returned (.int .i64 (-1)))) ∧ w = w'

/-- toStringS: a new row with the same strings -/
def ToPost (l : List ByteArray) (w : World) (e : Ending) (w' : World) : Prop :=
  ∃ g, e = .returned (.slice (some ⟨g, 0, none⟩) l.length l.length) ∧ w'.ownsRow w.heap.size 9 1 (.slice (some ⟨g, 0, none⟩) l.length l.length) l.length (l.map Value.string) ∧ Below w.heap.size w w'

def RelTo (l : List ByteArray) (ys : List Value) (w : World) (k : Nat) (wr : World) : Prop :=
  wr.ownsRow w.heap.size 9 1 (.slice (some ⟨w.heap.size, 0, none⟩) l.length l.length) l.length (fill (l.map Value.string) ys k) ∧ Below w.heap.size w wr

end Go.Proofs.Ytpaakpbbahbhcaa.HelpStr

/- The contracts of the laws' helpers that mark a slice of strings and look whether the marks are held: markText, markStringS, heldStringS. Conditions: the marks begin at 1 or more; the slice is one that the caller has made. -/
namespace Go.Proofs.Ytpaakpbbahbhcaa.MarkStr
set_option linter.unusedVariables false
open Go.RowKit
open Go.Proofs.Ytpaakpbbahbhcaa.Rowed Go.Proofs.Ytpaakpbbahbhcaa.HelpStr

/-- the mark of number k -/
def mt (k : Nat) : ByteArray := ⟨(109 :: Lib.decDigits k).toArray⟩

theorem ext_of {a b : ByteArray} (h : a.data.toList = b.data.toList) : a = b := by
  obtain ⟨⟨x⟩⟩ := a
  obtain ⟨⟨y⟩⟩ := b
  simp at h
  rw [h]
theorem add_str {P : Program} (a b c : ByteArray) (h : a.data.toList ++ b.data.toList = c.data.toList) (hl : c.data.toList.length ≤ 9223372036854775807) (W : World) :
    (Op.stringOp .add a b).run P W = .ok (.string c) W := by
  have e1 : a.data.toList.length = a.size := by simp
  have e2 : b.data.toList.length = b.size := by simp
  rw [← h, List.length_append, e1, e2] at hl
  rw [run_string_add_sum]
  · congr 2
    apply ext_of
    rw [← h]
    simp
  · exact hl
theorem dec_small (j : Nat) (h : j < 10) : Lib.decDigits j = [UInt8.ofNat (48 + j % 10)] := by
  rw [Lib.decDigits_one h, Nat.mod_eq_of_lt h]
theorem dec_step (j : Nat) (h : ¬ j < 10) : Lib.decDigits j = Lib.decDigits (j / 10) ++ [UInt8.ofNat (48 + j % 10)] := by
  rw [Lib.decDigits, dif_neg h]

/-- what is done when j is what is left: o -/
def Rel (k j : Nat) (o : List UInt8) : Prop := (if j = 0 then [] else Lib.decDigits j) ++ o = Lib.decDigits k
theorem Rel.next {k j : Nat} {o : List UInt8} (h : Rel k j o) (hj : 0 < j) : Rel k (j / 10) (UInt8.ofNat (48 + j % 10) :: o) := by
  unfold Rel at h ⊢
  rw [if_neg (by omega)] at h
  by_cases h10 : j < 10
  · rw [if_pos (by omega)]
    rw [dec_small j h10] at h
    exact h
  · rw [if_neg (by omega)]
    rw [dec_step j h10, List.append_assoc] at h
    exact h
theorem Rel.len {k j : Nat} {o : List UInt8} (h : Rel k j o) (hk : k ≤ 1000000000) : o.length ≤ 20 := by
  have h1 := congrArg List.length h
  rw [List.length_append, Lib.decDigits_length] at h1
  have := Lib.nDigits_le20 k (by omega)
  omega
theorem byte_num (j : Nat) : ((UInt8.ofNat (48 + j % 10)).toNat : Int) = 48 + (j : Int) % 10 := by
  rw [UInt8.toNat_ofNat']; omega

theorem conv_one {P : Program} (W : World) (src dst e : TypeId) (c : UInt8) (hs : P.underlying src = some (.slice e)) (he : P.underlying e = some (.int .u8)) (hd : P.underlying dst = some .string) :
    (convert src dst (.slice (some ⟨W.heap.size, 0, none⟩) 1 1)).run P (W.alloc (.cells #[.int .u8 (c.toNat : Int)] e)) = .ok (.string ⟨#[c]⟩) (W.alloc (.cells #[.int .u8 (c.toNat : Int)] e)) := by
  have := run_convert_bytes_back (P := P) (W.alloc (.cells #[.int .u8 (c.toNat : Int)] e)) src dst e ⟨W.heap.size, 0, none⟩ 1 [c] hs he hd (fun j hj => by
    have : j = 0 := by simpa using hj
    subst this
    rw [show (⟨W.heap.size, 0, none⟩ : Addr).add 0 = ⟨W.heap.size, 0, none⟩ from rfl, World.cell?_alloc_new]
    rfl)
  exact this

set_option maxHeartbeats 1000000 in
theorem markText_any (k : Nat) (w : World) (h1 : 1 ≤ k) (h2 : k ≤ 1000000000) :
    Calls Try.prog 72 #[.int .i64 (k : Int)] w fun e w' => e = .returned (.string (mt k)) ∧ Below w.heap.size w w' := by
  have hk0 : decide (k = 0) = false := by simp; omega
  go_enter Try.func72, Try.ntmps72
  go_wp2
  go_loopw [0, 3] (fun t o wr => ∃ (j : Nat) (q : ByteArray), j ≤ k ∧ t = .int .i64 j ∧ o = .string q ∧ Hid (Rel k j q.data.toList) ∧ Hid (Below w.heap.size w wr)) (fun t _ _ => (intOf t).toNat)
  case atStart => exact ⟨k, ⟨#[]⟩, Nat.le_refl _, rfl, rfl, Lib.hid (by unfold Rel; rw [if_neg (by omega)]; simp), Lib.hid (Below.refl _ _)⟩
  case round =>
    obtain ⟨j, q, hjk, rfl, rfl, HR, HB⟩ := hrel
    by_cases hj : 0 < j
    · obtain ⟨ch, hch, HN⟩ : ∃ ch : UInt8, (ch.toNat : Int) = 48 + (j : Int) % 10 ∧ Hid (Rel k (j / 10) (ch :: q.data.toList)) := ⟨_, byte_num j, HR.out.next hj⟩
      have hadd := add_str (P := Try.prog) ⟨#[ch]⟩ q ⟨(ch :: q.data.toList).toArray⟩ rfl (by have := HN.out.len h2; show (ch :: q.data.toList).length ≤ _; omega)
      have hcv := fun W => conv_one (P := Try.prog) W 22 9 5 ch Try.underlying22 Try.underlying5 Try.underlying9
      rw [hch] at hcv
      have HB3 := Lib.hid (HB.out.alloc HB.out.size (.cells #[.int .u8 (48 + (j : Int) % 10)] 5))
      clear hch
      go_wp2
      go_roundw
      case rel => exact ⟨j / 10, _, by omega, by go_num, rfl, HN, HB3⟩
      case measure => simp [intOf]; omega
    · obtain rfl : j = 0 := by omega
      have hfin : q.data.toList = Lib.decDigits k := HR.out
      have HF := Lib.hid hfin
      have hadd := add_str (P := Try.prog) ⟨#[109]⟩ q (mt k) (by unfold mt; rw [hfin]; rfl) (by have := HR.out.len h2; rw [hfin] at this; show (109 :: Lib.decDigits k).length ≤ _; rw [List.length_cons]; omega)
      clear hfin
      go_wp2
      go_ret
      exact ⟨rfl, HB.out⟩

/-- the marks k, k + 1, .. -/
def marks (k n : Nat) : List Value := (List.range n).map fun i => Value.string (mt (k + i))
theorem marks_len (k n : Nat) : (marks k n).length = n := by simp [marks]
theorem marks_at (k n i : Nat) (h : i < n) : (marks k n)[i]? = some (.string (mt (k + i))) := by
  unfold marks; rw [List.getElem?_map, List.getElem?_range h]; rfl
theorem grown_of {W W' : World} (h : Below W.heap.size W W') : W.grownBy W' none := ⟨h.os, h.tape, h.output, h.size, fun k hk _ => h.block k hk⟩
theorem grown_weak {W W' : World} (h : W.grownBy W' none) (g : Nat) : W.grownBy W' (some g) := ⟨h.os, h.tape, h.output, h.size, fun k hk _ => h.block k hk (by simp)⟩
theorem grown_tr {a b c : World} {r : Option Nat} (h : a.grownBy b r) (k : b.grownBy c r) : a.grownBy c r :=
  ⟨k.os.trans h.os, k.tape.trans h.tape, k.output.trans h.output, Nat.le_trans h.size k.size, fun i hi hr => (k.block i (Nat.lt_of_lt_of_le hi h.size) hr).trans (h.block i hi hr)⟩

def MarkRel (w : World) (base g n c k : Nat) (xs : List Value) (i : Nat) (wr : World) : Prop :=
  wr.ownsRow base 9 1 (.slice (some ⟨g, 0, none⟩) n c) n (fill (marks k n) xs i) ∧ w.grownBy wr (some g)

theorem mark_next {w wr w1 : World} {base g n c k i : Nat} {xs : List Value} (h : MarkRel w base g n c k xs i wr) (hb : Below wr.heap.size wr w1) (hxs : xs.length = n) (hi : i < n) :
    ∃ y, w1.cell? ⟨g, i, none⟩ = some y ∧ w1.frozen? ⟨g, i, none⟩ = false ∧ MarkRel w base g n c k xs (i + 1) (w1.setCell ⟨g, i, none⟩ (.string (mt (k + i)))) := by
  have hk := grown_of hb
  have h1 : w1.ownsRow base 9 1 (.slice (some ⟨g, 0, none⟩) n c) n (fill (marks k n) xs i) := h.1.kept hk (.inr (by simp [Value.ownBlock]))
  have hlen : (fill (marks k n) xs i).length = n := by rw [fill_len _ _ _ (by rw [marks_len, hxs])]; exact hxs
  have hc := h1.cellAt i (by omega)
  rw [List.getElem?_eq_getElem (by omega)] at hc
  refine ⟨_, hc, h1.frozenAt i, ?_, ?_⟩
  · have := (h1.stored i (.string (mt (k + i)))).1
    rw [fill_set _ _ _ _ (by omega) (marks_at k n i hi)] at this
    exact this
  · exact grown_tr h.2 (grown_tr (grown_weak hk g) (h1.stored i (.string (mt (k + i)))).2)

def MarkPost (w : World) (base g n c k : Nat) (e : Ending) (w' : World) : Prop :=
  e = .returned (.int .i64 ((k + n : Nat) : Int)) ∧ w'.ownsRow base 9 1 (.slice (some ⟨g, 0, none⟩) n c) n (marks k n) ∧ w.grownBy w' (some g)


def HeldPost (w : World) (k n : Nat) (e : Ending) (w' : World) : Prop := e = .returned (.int .i64 ((k + n : Nat) : Int)) ∧ Below w.heap.size w w'

end Go.Proofs.Ytpaakpbbahbhcaa.MarkStr

/- markText as a plain function, from 1 to a billion; the contract of the program's. No condition. -/
namespace Go.Proofs.Ytpaakpbbahbhcaa.GlMarkText
set_option linter.unusedVariables false
open Go.RowKit
open Go.Proofs.Ytpaakpbbahbhcaa.Turn
def P (k : Int) : Option ByteArray := if 1 ≤ k ∧ k ≤ 1000000000 then some (Go.Proofs.Ytpaakpbbahbhcaa.MarkStr.mt k.toNat) else none
theorem C (k : Int) (w : World) {r : ByteArray} (H : Hid (P k = some r)) : Calls Try.prog 72 #[.int .i64 k] w (Gives (.string r) w) := by
  have h : P k = some r := H
  unfold P at h
  by_cases hk : 1 ≤ k ∧ k ≤ 1000000000
  · rw [if_pos hk] at h
    obtain rfl := Option.some.inj h
    obtain ⟨n, rfl⟩ := Int.eq_ofNat_of_zero_le (show 0 ≤ k by omega)
    exact Go.Proofs.Ytpaakpbbahbhcaa.MarkStr.markText_any n w (by omega) (by omega)
  · rw [if_neg hk] at h; simp at h
end Go.Proofs.Ytpaakpbbahbhcaa.GlMarkText

/- loop.example/g01062/laws.markSightingS as a plain function, and the contract of the program's: where the plain one has an answer, the program has it. Conditions: slices read as lists. -/
namespace Go.Proofs.Ytpaakpbbahbhcaa.GlMarkSightingS
set_option linter.unusedVariables false
set_option linter.unusedSimpArgs false
open Go.RowKit
open Go.Proofs.Ytpaakpbbahbhcaa.Rowed Go.Proofs.Ytpaakpbbahbhcaa.Turn Go.Proofs.Ytpaakpbbahbhcaa.Aid Go.Proofs.Ytpaakpbbahbhcaa.GoP Go.Proofs.Ytpaakpbbahbhcaa.GoM

def l0  (k0 : Nat) (s : (List Go.Proofs.Ytpaakpbbahbhcaa.PSighting.Sighting) × Int) (nx0 bk0 : (List Go.Proofs.Ytpaakpbbahbhcaa.PSighting.Sighting) × Int → Option (Int × (List Go.Proofs.Ytpaakpbbahbhcaa.PSighting.Sighting))) : Option (Int × (List Go.Proofs.Ytpaakpbbahbhcaa.PSighting.Sighting)) :=
  unp2 s fun a_0l0 k_1l0 =>
  Option.bind (idx a_0l0 (k0 : Int)) fun (yt_9 : Go.Proofs.Ytpaakpbbahbhcaa.PSighting.Sighting) =>
  unSighting yt_9 fun (t_9_id : Int) (t_9_year : Int) (t_9_town : ByteArray) (t_9_traits : (List Int)) =>
  letK (a_0l0.set k0 (Go.Proofs.Ytpaakpbbahbhcaa.PSighting.Sighting.mk k_1l0 t_9_year t_9_town t_9_traits)) fun (l11_11 : (List Go.Proofs.Ytpaakpbbahbhcaa.PSighting.Sighting)) =>
  letK (IntKind.i64.wrap (k_1l0 + 1)) fun (t_13 : Int) =>
  Option.bind (idx l11_11 (k0 : Int)) fun (yt_18 : Go.Proofs.Ytpaakpbbahbhcaa.PSighting.Sighting) =>
  unSighting yt_18 fun (t_18_id : Int) (t_18_year : Int) (t_18_town : ByteArray) (t_18_traits : (List Int)) =>
  letK (l11_11.set k0 (Go.Proofs.Ytpaakpbbahbhcaa.PSighting.Sighting.mk t_18_id t_13 t_18_town t_18_traits)) fun (l20_20 : (List Go.Proofs.Ytpaakpbbahbhcaa.PSighting.Sighting)) =>
  letK (IntKind.i64.wrap (t_13 + 1)) fun (t_22 : Int) =>
  Option.bind (Go.Proofs.Ytpaakpbbahbhcaa.GlMarkText.P t_22) fun (t_27 : ByteArray) =>
  Option.bind (idx l20_20 (k0 : Int)) fun (yt_28 : Go.Proofs.Ytpaakpbbahbhcaa.PSighting.Sighting) =>
  unSighting yt_28 fun (t_28_id : Int) (t_28_year : Int) (t_28_town : ByteArray) (t_28_traits : (List Int)) =>
  letK (l20_20.set k0 (Go.Proofs.Ytpaakpbbahbhcaa.PSighting.Sighting.mk t_28_id t_28_year t_27 t_28_traits)) fun (l30_30 : (List Go.Proofs.Ytpaakpbbahbhcaa.PSighting.Sighting)) =>
  letK (IntKind.i64.wrap (t_22 + 1)) fun (t_32 : Int) =>
  Option.bind (idx l30_30 (k0 : Int)) fun (yt_36 : Go.Proofs.Ytpaakpbbahbhcaa.PSighting.Sighting) =>
  unSighting yt_36 fun (t_36_id : Int) (t_36_year : Int) (t_36_town : ByteArray) (t_36_traits : (List Int)) =>
  bind2 (Go.Proofs.Ytpaakpbbahbhcaa.GlMarkIntS.P t_36_traits t_32) fun (t_40 : Int) (lt_40 : (List Int)) =>
  letK (l30_30.set k0 (Go.Proofs.Ytpaakpbbahbhcaa.PSighting.Sighting.mk t_36_id t_36_year t_36_town lt_40)) fun (nnt_40 : (List Go.Proofs.Ytpaakpbbahbhcaa.PSighting.Sighting)) =>
  appK nx0 (nnt_40, t_40)

def e0  (s : (List Go.Proofs.Ytpaakpbbahbhcaa.PSighting.Sighting) × Int) : Option (Int × (List Go.Proofs.Ytpaakpbbahbhcaa.PSighting.Sighting)) :=
  unp2 s fun a_0l0 k_1l0 =>
  some (k_1l0, a_0l0)

def P (a : (List Go.Proofs.Ytpaakpbbahbhcaa.PSighting.Sighting)) (k_1 : Int) : Option (Int × (List Go.Proofs.Ytpaakpbbahbhcaa.PSighting.Sighting)) :=
  cntK (l0 ) (a.length) 0 (a, k_1) (e0 )

set_option maxRecDepth 100000 in
set_option maxHeartbeats 2000000 in
theorem C (a : (List Go.Proofs.Ytpaakpbbahbhcaa.PSighting.Sighting)) (k_1 : Int) (A0 : Option Addr) (c0 : Nat)  (b0 : Nat) (B0 : List (Option Addr)) (w : World) (M0 : Hid (Go.Proofs.Ytpaakpbbahbhcaa.GoV.OwnNest w (b0) 67 3 Go.Proofs.Ytpaakpbbahbhcaa.GoVSighting.lay A0 c0 a B0)) (N0 : Hid (a.length ≤ 9223372036854775807))  {r : Int} {l_ : (List Go.Proofs.Ytpaakpbbahbhcaa.PSighting.Sighting)} (H : Hid (P a k_1 = some (r, l_))) :
    Calls Try.prog 34 #[.slice A0 a.length c0, .int .i64 k_1] w (fun e w' => e = .returned (.int .i64 r) ∧ Go.Proofs.Ytpaakpbbahbhcaa.GoV.OwnNest w' (b0) 67 3 Go.Proofs.Ytpaakpbbahbhcaa.GoVSighting.lay A0 c0 l_ B0 ∧ l_.length = a.length ∧ Go.Proofs.Ytpaakpbbahbhcaa.GoN.GrownN w w' B0) := by
  have HB := Lib.hid (Go.Proofs.Ytpaakpbbahbhcaa.GoN.grownN_refl w B0)
  unfold P at H
  have N0o := N0.out
  go_enter Try.func34, Try.ntmps34
  go_wp2_with fail
  have hb_0 : a.length ≤ 9223372036854775807 := Go.Proofs.Ytpaakpbbahbhcaa.GoV.nest_max M0.out
  go_wp2_with fail
  go_loopg [5, 1] (a.length) (fun m_ v5_ v1_ wr => ∃ (k0 : Nat) (a_0l0 : (List Go.Proofs.Ytpaakpbbahbhcaa.PSighting.Sighting)) (k_1l0 : Int), k0 + m_ = a.length ∧ v5_ = .int .i64 (k0 : Int) ∧ v1_ = .int .i64 k_1l0 ∧ Hid (cntK (l0 ) m_ k0 (a_0l0, k_1l0) (e0 ) = some (r, l_)) ∧ Hid (Go.Proofs.Ytpaakpbbahbhcaa.GoN.GrownN w wr B0) ∧ Hid (Go.Proofs.Ytpaakpbbahbhcaa.GoV.OwnNest wr (b0) 67 3 Go.Proofs.Ytpaakpbbahbhcaa.GoVSighting.lay A0 c0 a_0l0 B0) ∧ Hid (a_0l0.length = a.length))
  case atStart => exact ⟨0, _, _, by omega, rfl, rfl, H, HB, M0, Lib.hid (rfl)⟩
  case round =>
    obtain ⟨k0, a_0l0, k_1l0, hkm0, rfl, rfl, H, HBwr0, Oa_0l0, hna_0l0⟩ := hrel
    rename World => wr0
    cases gk with
    | zero =>
      obtain rfl : k0 = a.length := by omega
      have hc0 : decide (((a.length : Nat) : Int) < ((a.length : Nat) : Int)) = false := by simp
      replace H := cnt_zero H
      unfold e0 at H
      replace H := unp2_hid H
      cases ret_hid H
      go_wp2_with fail
      go_ret
      exact ⟨rfl, Oa_0l0.out, hna_0l0.out, HBwr0.out⟩
    | succ m0 =>
      have hlt0 : k0 < a.length := by omega
      have hc0 : decide ((k0 : Int) < ((a.length : Nat) : Int)) = true := by simp; omega
      replace H := cnt_succ H
      unfold l0 at H
      replace H := unp2_hid H
      replace H := idx_hid H
      obtain ⟨nt_9, yt_9, et_9, lt_9, gt_9, H⟩ := H
      obtain rfl : k0 = nt_9 := by omega
      clear et_9
      obtain ⟨t_9_id, t_9_year, t_9_town, t_9_traits⟩ := yt_9
      replace H := unSighting_hid H
      obtain ⟨gt_9_, zt_9, Art_9, crt_9, eAt_9, zzt_9, hKt_9, hot_9, hmt_9, hat_9⟩ := Go.Proofs.Ytpaakpbbahbhcaa.GoV.nest_own Oa_0l0.out (k := k0) lt_9
      obtain rfl := Option.some.inj (gt_9.out.symm.trans zzt_9)
      clear zzt_9
      subst eAt_9
      have hct_9_0 : wr0.cell? ⟨gt_9_, k0 * 4, none⟩ = some (.int .i64 t_9_id) := hKt_9 0 _ rfl
      have hct_9_1 : wr0.cell? ⟨gt_9_, k0 * 4 + 1, none⟩ = some (.int .i64 t_9_year) := hKt_9 1 _ rfl
      have hct_9_2 : wr0.cell? ⟨gt_9_, k0 * 4 + 2, none⟩ = some (.string t_9_town) := hKt_9 2 _ rfl
      have hct_9_3 : wr0.cell? ⟨gt_9_, k0 * 4 + 3, none⟩ = some (.slice Art_9 t_9_traits.length crt_9) := hKt_9 3 _ rfl
      clear hKt_9
      have ltt_9 := cell_lt hct_9_0
      have Ort_9 := Lib.hid hot_9
      have mrt_9 := Lib.hid hmt_9
      clear hot_9 hmt_9 hat_9
      have b0t_9 : (0 : Int) ≤ (k0 : Int) := by omega
      have b1t_9 : (k0 : Int) < ((a_0l0.length : Nat) : Int) := by omega
      have b2t_9 : ((k0 : Int)).toNat = k0 := by omega
      have hq_t_9 := hna_0l0.out
      have b4t_9 : (k0 : Int) < ((a.length : Nat) : Int) := by omega
      clear hq_t_9
      replace H := let_hid H
      obtain ⟨l11_11, hl11_11, H⟩ := H
      try simp only [Int.toNat_natCast] at hl11_11
      obtain ⟨wl11_11, hwl11_11⟩ : ∃ x, (wr0).setCell ⟨gt_9_, k0 * 4, none⟩ (.int .i64 k_1l0) = x := ⟨_, rfl⟩
      have z0l11_11 := Go.Proofs.Ytpaakpbbahbhcaa.GoV.nest_frozen Oa_0l0.out (k0 * 4)
      have nl11_11 : Hid (l11_11.length = a.length) := Lib.hid (by rw [← hl11_11, List.length_set]; exact hna_0l0.out)
      have Sl11_11 := Lib.hid (Go.Proofs.Ytpaakpbbahbhcaa.GoV.nest_set (k := k0) (j := 0) (x := (Go.Proofs.Ytpaakpbbahbhcaa.PSighting.Sighting.mk t_9_id t_9_year t_9_town t_9_traits)) (x' := (Go.Proofs.Ytpaakpbbahbhcaa.PSighting.Sighting.mk k_1l0 t_9_year t_9_town t_9_traits)) (u := .int .i64 k_1l0) Oa_0l0.out gt_9.out rfl (by decide) (fun z_ => rfl))
      have Pl11_11 : Hid (Go.Proofs.Ytpaakpbbahbhcaa.GoV.OwnNest wl11_11 (b0) 67 3 Go.Proofs.Ytpaakpbbahbhcaa.GoVSighting.lay (some ⟨gt_9_, 0, none⟩) c0 l11_11 B0) := Lib.hid (by rw [← hl11_11, ← hwl11_11]; exact Sl11_11.out.1)
      have Gl11_11 : Hid (wr0.grownBy wl11_11 (Value.slice (some ⟨gt_9_, 0, none⟩) a.length c0).ownBlock) := Lib.hid (by rw [← hwl11_11]; exact Sl11_11.out.2)
      clear Sl11_11
      have HBwl11_11 := Lib.hid (Go.Proofs.Ytpaakpbbahbhcaa.GoN.grownN_row HBwr0.out Gl11_11.out (Go.Proofs.Ytpaakpbbahbhcaa.GoV.nest_head Oa_0l0.out))
      have hhl11_11 := Lib.hid hl11_11
      clear hl11_11
      clear Oa_0l0 Gl11_11
      replace H := let_hid H
      obtain ⟨t_13, ht_13, H⟩ := H
      replace H := idx_hid H
      obtain ⟨nt_18, yt_18, et_18, lt_18, gt_18, H⟩ := H
      obtain rfl : k0 = nt_18 := by omega
      clear et_18
      obtain ⟨t_18_id, t_18_year, t_18_town, t_18_traits⟩ := yt_18
      replace H := unSighting_hid H
      obtain ⟨gt_18_, zt_18, Art_18, crt_18, eAt_18, zzt_18, hKt_18, hot_18, hmt_18, hat_18⟩ := Go.Proofs.Ytpaakpbbahbhcaa.GoV.nest_own Pl11_11.out (k := k0) lt_18
      obtain rfl := Option.some.inj (gt_18.out.symm.trans zzt_18)
      clear zzt_18
      simp only [Option.some.injEq, Addr.mk.injEq, and_true] at eAt_18
      subst eAt_18
      have hct_18_0 : wl11_11.cell? ⟨gt_9_, k0 * 4, none⟩ = some (.int .i64 t_18_id) := hKt_18 0 _ rfl
      have hct_18_1 : wl11_11.cell? ⟨gt_9_, k0 * 4 + 1, none⟩ = some (.int .i64 t_18_year) := hKt_18 1 _ rfl
      have hct_18_2 : wl11_11.cell? ⟨gt_9_, k0 * 4 + 2, none⟩ = some (.string t_18_town) := hKt_18 2 _ rfl
      have hct_18_3 : wl11_11.cell? ⟨gt_9_, k0 * 4 + 3, none⟩ = some (.slice Art_18 t_18_traits.length crt_18) := hKt_18 3 _ rfl
      clear hKt_18
      have ltt_18 := cell_lt hct_18_0
      have Ort_18 := Lib.hid hot_18
      have mrt_18 := Lib.hid hmt_18
      clear hot_18 hmt_18 hat_18
      have b0t_18 : (0 : Int) ≤ (k0 : Int) := by omega
      have b1t_18 : (k0 : Int) < ((l11_11.length : Nat) : Int) := by omega
      have b2t_18 : ((k0 : Int)).toNat = k0 := by omega
      have hq_t_18 := nl11_11.out
      have b4t_18 : (k0 : Int) < ((a.length : Nat) : Int) := by omega
      clear hq_t_18
      replace H := let_hid H
      obtain ⟨l20_20, hl20_20, H⟩ := H
      try simp only [Int.toNat_natCast] at hl20_20
      obtain ⟨wl20_20, hwl20_20⟩ : ∃ x, (wl11_11).setCell ⟨gt_9_, k0 * 4 + 1, none⟩ (.int .i64 t_13) = x := ⟨_, rfl⟩
      have z0l20_20 := Go.Proofs.Ytpaakpbbahbhcaa.GoV.nest_frozen Pl11_11.out (k0 * 4 + 1)
      have nl20_20 : Hid (l20_20.length = a.length) := Lib.hid (by rw [← hl20_20, List.length_set]; exact nl11_11.out)
      have Sl20_20 := Lib.hid (Go.Proofs.Ytpaakpbbahbhcaa.GoV.nest_set (k := k0) (j := 1) (x := (Go.Proofs.Ytpaakpbbahbhcaa.PSighting.Sighting.mk t_18_id t_18_year t_18_town t_18_traits)) (x' := (Go.Proofs.Ytpaakpbbahbhcaa.PSighting.Sighting.mk t_18_id t_13 t_18_town t_18_traits)) (u := .int .i64 t_13) Pl11_11.out gt_18.out rfl (by decide) (fun z_ => rfl))
      have Pl20_20 : Hid (Go.Proofs.Ytpaakpbbahbhcaa.GoV.OwnNest wl20_20 (b0) 67 3 Go.Proofs.Ytpaakpbbahbhcaa.GoVSighting.lay (some ⟨gt_9_, 0, none⟩) c0 l20_20 B0) := Lib.hid (by rw [← hl20_20, ← hwl20_20]; exact Sl20_20.out.1)
      have Gl20_20 : Hid (wl11_11.grownBy wl20_20 (Value.slice (some ⟨gt_9_, 0, none⟩) a.length c0).ownBlock) := Lib.hid (by rw [← hwl20_20]; exact Sl20_20.out.2)
      clear Sl20_20
      have HBwl20_20 := Lib.hid (Go.Proofs.Ytpaakpbbahbhcaa.GoN.grownN_row HBwl11_11.out Gl20_20.out (Go.Proofs.Ytpaakpbbahbhcaa.GoV.nest_head Pl11_11.out))
      have hhl20_20 := Lib.hid hl20_20
      clear hl20_20
      clear Pl11_11 Gl20_20
      replace H := let_hid H
      obtain ⟨t_22, ht_22, H⟩ := H
      replace H := bind_hid H
      obtain ⟨t_27, qt_27, H⟩ := H
      go_wp2_with fail
      clear z0l11_11 hct_9_0 hct_9_1 hct_9_2 hct_9_3 z0l20_20 hct_18_0 hct_18_1 hct_18_2 hct_18_3
      go_at_call 72
      refine (Go.Proofs.Ytpaakpbbahbhcaa.GlMarkText.C (t_22)  _    qt_27).mono ?_
      rintro e_t_27 wt_27 ⟨rfl, bt_27⟩
      have HBwt_27 := Lib.hid (Go.Proofs.Ytpaakpbbahbhcaa.GoN.grownN_below HBwl20_20.out bt_27)
      replace Pl20_20 := Lib.hid (Go.Proofs.Ytpaakpbbahbhcaa.GoV.nest_below Pl20_20.out bt_27)
      clear bt_27
      replace H := idx_hid H
      obtain ⟨nt_28, yt_28, et_28, lt_28, gt_28, H⟩ := H
      obtain rfl : k0 = nt_28 := by omega
      clear et_28
      obtain ⟨t_28_id, t_28_year, t_28_town, t_28_traits⟩ := yt_28
      replace H := unSighting_hid H
      obtain ⟨gt_28_, zt_28, Art_28, crt_28, eAt_28, zzt_28, hKt_28, hot_28, hmt_28, hat_28⟩ := Go.Proofs.Ytpaakpbbahbhcaa.GoV.nest_own Pl20_20.out (k := k0) lt_28
      obtain rfl := Option.some.inj (gt_28.out.symm.trans zzt_28)
      clear zzt_28
      simp only [Option.some.injEq, Addr.mk.injEq, and_true] at eAt_28
      subst eAt_28
      have hct_28_0 : wt_27.cell? ⟨gt_9_, k0 * 4, none⟩ = some (.int .i64 t_28_id) := hKt_28 0 _ rfl
      have hct_28_1 : wt_27.cell? ⟨gt_9_, k0 * 4 + 1, none⟩ = some (.int .i64 t_28_year) := hKt_28 1 _ rfl
      have hct_28_2 : wt_27.cell? ⟨gt_9_, k0 * 4 + 2, none⟩ = some (.string t_28_town) := hKt_28 2 _ rfl
      have hct_28_3 : wt_27.cell? ⟨gt_9_, k0 * 4 + 3, none⟩ = some (.slice Art_28 t_28_traits.length crt_28) := hKt_28 3 _ rfl
      clear hKt_28
      have ltt_28 := cell_lt hct_28_0
      have Ort_28 := Lib.hid hot_28
      have mrt_28 := Lib.hid hmt_28
      clear hot_28 hmt_28 hat_28
      have b0t_28 : (0 : Int) ≤ (k0 : Int) := by omega
      have b1t_28 : (k0 : Int) < ((l20_20.length : Nat) : Int) := by omega
      have b2t_28 : ((k0 : Int)).toNat = k0 := by omega
      have hq_t_28 := nl20_20.out
      have b4t_28 : (k0 : Int) < ((a.length : Nat) : Int) := by omega
      clear hq_t_28
      replace H := let_hid H
      obtain ⟨l30_30, hl30_30, H⟩ := H
      try simp only [Int.toNat_natCast] at hl30_30
      obtain ⟨wl30_30, hwl30_30⟩ : ∃ x, (wt_27).setCell ⟨gt_9_, k0 * 4 + 2, none⟩ (.string t_27) = x := ⟨_, rfl⟩
      have z0l30_30 := Go.Proofs.Ytpaakpbbahbhcaa.GoV.nest_frozen Pl20_20.out (k0 * 4 + 2)
      have nl30_30 : Hid (l30_30.length = a.length) := Lib.hid (by rw [← hl30_30, List.length_set]; exact nl20_20.out)
      have Sl30_30 := Lib.hid (Go.Proofs.Ytpaakpbbahbhcaa.GoV.nest_set (k := k0) (j := 2) (x := (Go.Proofs.Ytpaakpbbahbhcaa.PSighting.Sighting.mk t_28_id t_28_year t_28_town t_28_traits)) (x' := (Go.Proofs.Ytpaakpbbahbhcaa.PSighting.Sighting.mk t_28_id t_28_year t_27 t_28_traits)) (u := .string t_27) Pl20_20.out gt_28.out rfl (by decide) (fun z_ => rfl))
      have Pl30_30 : Hid (Go.Proofs.Ytpaakpbbahbhcaa.GoV.OwnNest wl30_30 (b0) 67 3 Go.Proofs.Ytpaakpbbahbhcaa.GoVSighting.lay (some ⟨gt_9_, 0, none⟩) c0 l30_30 B0) := Lib.hid (by rw [← hl30_30, ← hwl30_30]; exact Sl30_30.out.1)
      have Gl30_30 : Hid (wt_27.grownBy wl30_30 (Value.slice (some ⟨gt_9_, 0, none⟩) a.length c0).ownBlock) := Lib.hid (by rw [← hwl30_30]; exact Sl30_30.out.2)
      clear Sl30_30
      have HBwl30_30 := Lib.hid (Go.Proofs.Ytpaakpbbahbhcaa.GoN.grownN_row HBwt_27.out Gl30_30.out (Go.Proofs.Ytpaakpbbahbhcaa.GoV.nest_head Pl20_20.out))
      have hhl30_30 := Lib.hid hl30_30
      clear hl30_30
      clear Pl20_20 Gl30_30
      replace H := let_hid H
      obtain ⟨t_32, ht_32, H⟩ := H
      replace H := idx_hid H
      obtain ⟨nt_36, yt_36, et_36, lt_36, gt_36, H⟩ := H
      obtain rfl : k0 = nt_36 := by omega
      clear et_36
      obtain ⟨t_36_id, t_36_year, t_36_town, t_36_traits⟩ := yt_36
      replace H := unSighting_hid H
      obtain ⟨gt_36_, zt_36, Art_36, crt_36, eAt_36, zzt_36, hKt_36, hot_36, hmt_36, hat_36⟩ := Go.Proofs.Ytpaakpbbahbhcaa.GoV.nest_own Pl30_30.out (k := k0) lt_36
      obtain rfl := Option.some.inj (gt_36.out.symm.trans zzt_36)
      clear zzt_36
      simp only [Option.some.injEq, Addr.mk.injEq, and_true] at eAt_36
      subst eAt_36
      have hct_36_0 : wl30_30.cell? ⟨gt_9_, k0 * 4, none⟩ = some (.int .i64 t_36_id) := hKt_36 0 _ rfl
      have hct_36_1 : wl30_30.cell? ⟨gt_9_, k0 * 4 + 1, none⟩ = some (.int .i64 t_36_year) := hKt_36 1 _ rfl
      have hct_36_2 : wl30_30.cell? ⟨gt_9_, k0 * 4 + 2, none⟩ = some (.string t_36_town) := hKt_36 2 _ rfl
      have hct_36_3 : wl30_30.cell? ⟨gt_9_, k0 * 4 + 3, none⟩ = some (.slice Art_36 t_36_traits.length crt_36) := hKt_36 3 _ rfl
      clear hKt_36
      have ltt_36 := cell_lt hct_36_0
      have Ort_36 := Lib.hid hot_36
      have mrt_36 := Lib.hid hmt_36
      clear hot_36 hmt_36 hat_36
      have b0t_36 : (0 : Int) ≤ (k0 : Int) := by omega
      have b1t_36 : (k0 : Int) < ((l30_30.length : Nat) : Int) := by omega
      have b2t_36 : ((k0 : Int)).toNat = k0 := by omega
      have hq_t_36 := nl30_30.out
      have b4t_36 : (k0 : Int) < ((a.length : Nat) : Int) := by omega
      clear hq_t_36
      replace H := bind2_hid H
      obtain ⟨t_40, lt_40, qt_40, H⟩ := H
      go_wp2_with fail
      clear z0l30_30 hct_28_0 hct_28_1 hct_28_2 hct_28_3
      go_at_call 38
      refine (Go.Proofs.Ytpaakpbbahbhcaa.GlMarkIntS.C (t_36_traits) (t_32) Art_36 crt_36 b0 _   Ort_36 (Lib.hid (own_max Ort_36.out))   qt_40).mono ?_
      rintro e_t_40 wt_40 ⟨rfl, ot_40, nt_40, gt_40⟩
      have Pt_40 := Lib.hid ot_40
      have Gt_40 := Lib.hid gt_40
      replace nt_40 := Lib.hid nt_40
      clear ot_40 gt_40
      have HBwt_40 := Lib.hid (Go.Proofs.Ytpaakpbbahbhcaa.GoN.grownN_row HBwl30_30.out Gt_40.out mrt_36.out)
      replace H := let_hid H
      obtain ⟨nnt_40, hnnt_40, H⟩ := H
      have Nt_40 : Hid (Go.Proofs.Ytpaakpbbahbhcaa.GoV.OwnNest wt_40 (b0) 67 3 Go.Proofs.Ytpaakpbbahbhcaa.GoVSighting.lay (some ⟨gt_9_, 0, none⟩) c0 nnt_40 B0) := Lib.hid (by rw [← hnnt_40]; exact Go.Proofs.Ytpaakpbbahbhcaa.GoV.nest_store (k := k0) Pl30_30.out gt_36.out hct_36_3 Pt_40.out nt_40.out rfl (fun z_ => Go.Proofs.Ytpaakpbbahbhcaa.GoVSighting.enc_row nt_40.out z_) Gt_40.out)
      have mt_40 : Hid (nnt_40.length = a.length) := Lib.hid (by rw [← hnnt_40, List.length_set]; exact nl30_30.out)
      have hhnnt_40 := Lib.hid hnnt_40
      clear hnnt_40
      clear hct_36_0 hct_36_1 hct_36_2 hct_36_3
      clear Pl30_30
      clear Ort_36 Gt_40
      replace H := app_hid H
      go_wp2_with fail
      go_roundg m0
      case measure => omega
      case rel => exact ⟨k0 + 1, _, _, by omega, by go_num, rfl, H, HBwt_40, Nt_40, Lib.hid (mt_40.out)⟩
end Go.Proofs.Ytpaakpbbahbhcaa.GlMarkSightingS

/- loop.example/g01062/laws.markIntSS as a plain function, and the contract of the program's: where the plain one has an answer, the program has it. Conditions: slices read as lists. -/
namespace Go.Proofs.Ytpaakpbbahbhcaa.GlMarkIntSS
set_option linter.unusedVariables false
set_option linter.unusedSimpArgs false
open Go.RowKit
open Go.Proofs.Ytpaakpbbahbhcaa.Rowed Go.Proofs.Ytpaakpbbahbhcaa.Turn Go.Proofs.Ytpaakpbbahbhcaa.Aid Go.Proofs.Ytpaakpbbahbhcaa.GoP Go.Proofs.Ytpaakpbbahbhcaa.GoM

def l0  (k0 : Nat) (s : (List (List Int)) × Int) (nx0 bk0 : (List (List Int)) × Int → Option (Int × (List (List Int)))) : Option (Int × (List (List Int))) :=
  unp2 s fun a_0l0 k_1l0 =>
  Option.bind (idx a_0l0 (k0 : Int)) fun (yt_8 : (List Int)) =>
  bind2 (Go.Proofs.Ytpaakpbbahbhcaa.GlMarkIntS.P yt_8 k_1l0) fun (t_11 : Int) (lt_11 : (List Int)) =>
  letK (a_0l0.set k0 lt_11) fun (nnt_11 : (List (List Int))) =>
  appK nx0 (nnt_11, t_11)

def e0  (s : (List (List Int)) × Int) : Option (Int × (List (List Int))) :=
  unp2 s fun a_0l0 k_1l0 =>
  some (k_1l0, a_0l0)

def P (a : (List (List Int))) (k_1 : Int) : Option (Int × (List (List Int))) :=
  cntK (l0 ) (a.length) 0 (a, k_1) (e0 )

set_option maxRecDepth 100000 in
set_option maxHeartbeats 2000000 in
theorem C (a : (List (List Int))) (k_1 : Int) (A0 : Option Addr) (c0 : Nat)  (b0 : Nat) (B0 : List (Option Addr)) (w : World) (M0 : Hid (Go.Proofs.Ytpaakpbbahbhcaa.GoN.OwnNest w (b0) 32 3 1 Go.Proofs.Ytpaakpbbahbhcaa.HelpInt.iv A0 c0 a B0)) (N0 : Hid (a.length ≤ 9223372036854775807))  {r : Int} {l_ : (List (List Int))} (H : Hid (P a k_1 = some (r, l_))) :
    Calls Try.prog 35 #[.slice A0 a.length c0, .int .i64 k_1] w (fun e w' => e = .returned (.int .i64 r) ∧ Go.Proofs.Ytpaakpbbahbhcaa.GoN.OwnNest w' (b0) 32 3 1 Go.Proofs.Ytpaakpbbahbhcaa.HelpInt.iv A0 c0 l_ B0 ∧ l_.length = a.length ∧ Go.Proofs.Ytpaakpbbahbhcaa.GoN.GrownN w w' B0) := by
  have HB := Lib.hid (Go.Proofs.Ytpaakpbbahbhcaa.GoN.grownN_refl w B0)
  unfold P at H
  have N0o := N0.out
  go_enter Try.func35, Try.ntmps35
  go_wp2_with fail
  have hb_0 : a.length ≤ 9223372036854775807 := Go.Proofs.Ytpaakpbbahbhcaa.GoN.nest_max M0.out
  go_wp2_with fail
  go_loopg [5, 1] (a.length) (fun m_ v5_ v1_ wr => ∃ (k0 : Nat) (a_0l0 : (List (List Int))) (k_1l0 : Int), k0 + m_ = a.length ∧ v5_ = .int .i64 (k0 : Int) ∧ v1_ = .int .i64 k_1l0 ∧ Hid (cntK (l0 ) m_ k0 (a_0l0, k_1l0) (e0 ) = some (r, l_)) ∧ Hid (Go.Proofs.Ytpaakpbbahbhcaa.GoN.GrownN w wr B0) ∧ Hid (Go.Proofs.Ytpaakpbbahbhcaa.GoN.OwnNest wr (b0) 32 3 1 Go.Proofs.Ytpaakpbbahbhcaa.HelpInt.iv A0 c0 a_0l0 B0) ∧ Hid (a_0l0.length = a.length))
  case atStart => exact ⟨0, _, _, by omega, rfl, rfl, H, HB, M0, Lib.hid (rfl)⟩
  case round =>
    obtain ⟨k0, a_0l0, k_1l0, hkm0, rfl, rfl, H, HBwr0, Oa_0l0, hna_0l0⟩ := hrel
    rename World => wr0
    cases gk with
    | zero =>
      obtain rfl : k0 = a.length := by omega
      have hc0 : decide (((a.length : Nat) : Int) < ((a.length : Nat) : Int)) = false := by simp
      replace H := cnt_zero H
      unfold e0 at H
      replace H := unp2_hid H
      cases ret_hid H
      go_wp2_with fail
      go_ret
      exact ⟨rfl, Oa_0l0.out, hna_0l0.out, HBwr0.out⟩
    | succ m0 =>
      have hlt0 : k0 < a.length := by omega
      have hc0 : decide ((k0 : Int) < ((a.length : Nat) : Int)) = true := by simp; omega
      replace H := cnt_succ H
      unfold l0 at H
      replace H := unp2_hid H
      replace H := idx_hid H
      obtain ⟨nt_8, yt_8, et_8, lt_8, gt_8, H⟩ := H
      obtain rfl : k0 = nt_8 := by omega
      clear et_8
      obtain ⟨gt_8_, zt_8, Art_8, crt_8, eAt_8, zzt_8, hct_8, hot_8, hmt_8, hat_8⟩ := Go.Proofs.Ytpaakpbbahbhcaa.GoN.nest_own Oa_0l0.out (k := k0) lt_8
      obtain rfl := Option.some.inj (gt_8.out.symm.trans zzt_8)
      clear zzt_8
      subst eAt_8
      have Ort_8 := Lib.hid hot_8
      have mrt_8 := Lib.hid hmt_8
      clear hot_8 hmt_8 hat_8
      have b0t_8 : (0 : Int) ≤ (k0 : Int) := by omega
      have b1t_8 : (k0 : Int) < ((a_0l0.length : Nat) : Int) := by omega
      have b2t_8 : ((k0 : Int)).toNat = k0 := by omega
      have hqt_8 := hna_0l0.out
      have b3t_8 : (k0 : Int) < ((a.length : Nat) : Int) := by omega
      clear hqt_8
      replace H := bind2_hid H
      obtain ⟨t_11, lt_11, qt_11, H⟩ := H
      go_wp2_with fail
      go_at_call 38
      refine (Go.Proofs.Ytpaakpbbahbhcaa.GlMarkIntS.C (yt_8) (k_1l0) Art_8 crt_8 b0 _   Ort_8 (Lib.hid (own_max Ort_8.out))   qt_11).mono ?_
      rintro e_t_11 wt_11 ⟨rfl, ot_11, nt_11, gt_11⟩
      have Pt_11 := Lib.hid ot_11
      have Gt_11 := Lib.hid gt_11
      replace nt_11 := Lib.hid nt_11
      clear ot_11 gt_11
      have HBwt_11 := Lib.hid (Go.Proofs.Ytpaakpbbahbhcaa.GoN.grownN_row HBwr0.out Gt_11.out mrt_8.out)
      replace H := let_hid H
      obtain ⟨nnt_11, hnnt_11, H⟩ := H
      have Nt_11 : Hid (Go.Proofs.Ytpaakpbbahbhcaa.GoN.OwnNest wt_11 (b0) 32 3 1 Go.Proofs.Ytpaakpbbahbhcaa.HelpInt.iv (some ⟨gt_8_, 0, none⟩) c0 nnt_11 B0) := Lib.hid (by rw [← hnnt_11]; exact Go.Proofs.Ytpaakpbbahbhcaa.GoN.nest_store (k := k0) Oa_0l0.out gt_8.out hct_8 Pt_11.out nt_11.out rfl Gt_11.out)
      have mt_11 : Hid (nnt_11.length = a.length) := Lib.hid (by rw [← hnnt_11, List.length_set]; exact hna_0l0.out)
      have hhnnt_11 := Lib.hid hnnt_11
      clear hnnt_11
      clear hct_8
      clear Oa_0l0
      clear Ort_8 Gt_11
      replace H := app_hid H
      go_wp2_with fail
      go_roundg m0
      case measure => omega
      case rel => exact ⟨k0 + 1, _, _, by omega, by go_num, rfl, H, HBwt_11, Nt_11, Lib.hid (mt_11.out)⟩
end Go.Proofs.Ytpaakpbbahbhcaa.GlMarkIntSS

/- loop.example/g01062/laws.heldIntSS as a plain function, and the contract of the program's: where the plain one has an answer, the program has it. Conditions: slices read as lists. -/
namespace Go.Proofs.Ytpaakpbbahbhcaa.GlHeldIntSS
set_option linter.unusedVariables false
set_option linter.unusedSimpArgs false
open Go.RowKit
open Go.Proofs.Ytpaakpbbahbhcaa.Rowed Go.Proofs.Ytpaakpbbahbhcaa.Turn Go.Proofs.Ytpaakpbbahbhcaa.Aid Go.Proofs.Ytpaakpbbahbhcaa.GoP Go.Proofs.Ytpaakpbbahbhcaa.GoM

def l0 (a : (List (List Int))) (k0 : Nat) (s : Int) (nx0 bk0 : Int → Option (Int)) : Option (Int) :=
  letK s fun k_1l0 =>
  Option.bind (idx a (k0 : Int)) fun (yt_8 : (List Int)) =>
  Option.bind (Go.Proofs.Ytpaakpbbahbhcaa.GlHeldIntS.P yt_8 k_1l0) fun (t_11 : Int) =>
  letK (decide (t_11 < 0)) fun (t_14 : Bool) =>
  iteK t_14
  (some (-1))
  (appK nx0 (t_11))

def e0  (s : Int) : Option (Int) :=
  letK s fun k_1l0 =>
  some k_1l0

def P (a : (List (List Int))) (k_1 : Int) : Option (Int) :=
  cntK (l0 a) (a.length) 0 (k_1) (e0 )

set_option maxRecDepth 100000 in
set_option maxHeartbeats 2000000 in
theorem C (a : (List (List Int))) (k_1 : Int) (A0 : Option Addr) (c0 : Nat)  (w : World) (M0 : Hid (Go.Proofs.Ytpaakpbbahbhcaa.GoN.ReadNest w 1 Go.Proofs.Ytpaakpbbahbhcaa.HelpInt.iv A0 a)) (N0 : Hid (a.length ≤ 9223372036854775807))  {r : Int} (H : Hid (P a k_1 = some r)) :
    Calls Try.prog 36 #[.slice A0 a.length c0, .int .i64 k_1] w (Gives (.int .i64 r) w) := by
  have HB := Lib.hid (Below.refl w.heap.size w)
  unfold P at H
  have N0o := N0.out
  go_enter Try.func36, Try.ntmps36
  go_wp2_with fail
  go_loopg [5, 1] (a.length) (fun m_ v5_ v1_ wr => ∃ (k0 : Nat) (k_1l0 : Int), k0 + m_ = a.length ∧ v5_ = .int .i64 (k0 : Int) ∧ v1_ = .int .i64 k_1l0 ∧ Hid (cntK (l0 a) m_ k0 (k_1l0) (e0 ) = some r) ∧ Hid (Below w.heap.size w wr))
  case atStart => exact ⟨0, _, by omega, rfl, rfl, H, HB⟩
  case round =>
    obtain ⟨k0, k_1l0, hkm0, rfl, rfl, H, HBwr0⟩ := hrel
    rename World => wr0
    cases gk with
    | zero =>
      obtain rfl : k0 = a.length := by omega
      have hc0 : decide (((a.length : Nat) : Int) < ((a.length : Nat) : Int)) = false := by simp
      replace H := cnt_zero H
      unfold e0 at H
      replace H := let_hid H
      obtain ⟨_, rfl, H⟩ := H
      obtain rfl := ret_hid H
      go_wp2_with fail
      go_ret
      exact ⟨rfl, HBwr0.out⟩
    | succ m0 =>
      have hlt0 : k0 < a.length := by omega
      have hc0 : decide ((k0 : Int) < ((a.length : Nat) : Int)) = true := by simp; omega
      replace H := cnt_succ H
      unfold l0 at H
      replace H := let_hid H
      obtain ⟨_, rfl, H⟩ := H
      replace H := idx_hid H
      obtain ⟨nt_8, yt_8, et_8, lt_8, gt_8, H⟩ := H
      obtain rfl : k0 = nt_8 := by omega
      clear et_8
      obtain ⟨bbt_8, oot_8, zt_8, Art_8, crt_8, eAt_8, zzt_8, hct_8, hrt_8, hqt_8, hnt_8⟩ := Go.Proofs.Ytpaakpbbahbhcaa.GoN.nest_at M0.out (k := k0) lt_8
      obtain rfl := Option.some.inj (gt_8.out.symm.trans zzt_8)
      clear zzt_8
      subst eAt_8
      have ltt_8 := cell_lt hct_8
      replace hct_8 := cell_below HBwr0.out hct_8
      have Mrt_8 := Lib.hid hrt_8
      have Qrt_8 := Lib.hid hqt_8
      have Nrt_8 := Lib.hid hnt_8
      clear hrt_8 hqt_8 hnt_8
      have b0t_8 : (0 : Int) ≤ (k0 : Int) := by omega
      have b1t_8 : (k0 : Int) < ((a.length : Nat) : Int) := by omega
      have b2t_8 : ((k0 : Int)).toNat = k0 := by omega
      replace H := bind_hid H
      obtain ⟨t_11, qt_11, H⟩ := H
      go_wp2_with fail
      go_at_call 39
      refine (Go.Proofs.Ytpaakpbbahbhcaa.GlHeldIntS.C (yt_8) (k_1l0) Art_8 crt_8 _   (Lib.hid (Cells.below Mrt_8.out HBwr0.out)) Nrt_8 qt_11).mono ?_
      rintro e_t_11 wt_11 ⟨rfl, bt_11⟩
      have HBwt_11 := Lib.hid (Below.step HBwr0.out bt_11)
      replace hct_8 := cell_below bt_11 hct_8
      clear bt_11
      replace H := let_hid H
      obtain ⟨t_14, ht_14, H⟩ := H
      cases t_14 with
      | false =>
        replace H := ite_f H
        replace H := app_hid H
        go_wp2_with fail
        go_roundg m0
        case measure => omega
        case rel => exact ⟨k0 + 1, _, by omega, by go_num, rfl, H, HBwt_11⟩
      | true =>
        replace H := ite_t H
        obtain rfl := ret_hid H
        go_wp2_with fail
        go_ret
        exact ⟨rfl, HBwt_11.out⟩
end Go.Proofs.Ytpaakpbbahbhcaa.GlHeldIntSS

/- Chapter 13: censuses: the plain functions of the program and of the reference agree, and the laws answer true. (Q13Reach) No condition but those of each theorem. -/
namespace Go.Proofs.Ytpaakpbbahbhcaa.Q13Reach
set_option linter.unusedVariables false
set_option linter.unusedSimpArgs false
open Go.RowKit
open Go.Proofs.Ytpaakpbbahbhcaa.GoP Go.Proofs.Ytpaakpbbahbhcaa.PlainStamp Go.Proofs.Ytpaakpbbahbhcaa.QBase Go.Proofs.Ytpaakpbbahbhcaa.QLoop

/-- k is reached from i by steps in e, all below n -/
inductive Rch (n : Nat) (e : Nat → Nat → Prop) (i : Nat) : Nat → Prop
  | refl : Rch n e i i
  | step {j k : Nat} : Rch n e i j → k < n → e j k → Rch n e i k
theorem Rch.trans {n : Nat} {e : Nat → Nat → Prop} {i j k : Nat} (h : Rch n e i j) (h2 : Rch n e j k) : Rch n e i k := by
  induction h2 with
  | refl => exact h
  | step _ hk he ih => exact .step ih hk he
theorem Rch.lt {n : Nat} {e : Nat → Nat → Prop} {i k : Nat} (hi : i < n) (h : Rch n e i k) : k < n := by
  cases h with
  | refl => exact hi
  | step _ hk _ => exact hk
theorem Rch.symm {n : Nat} {e : Nat → Nat → Prop} (hs : ∀ i k, e i k → e k i) {i k : Nat} (hi : i < n) (h : Rch n e i k) : Rch n e k i := by
  induction h with
  | refl => exact .refl
  | step hj hk he ih => exact Rch.trans (.step .refl (hj.lt hi) (hs _ _ he)) ih
/-- what holds of the start and goes along the steps -/
theorem Rch.closed {n : Nat} {e : Nat → Nat → Prop} {i k : Nat} (p : Nat → Prop) (hi : p i) (hp : ∀ j k, p j → k < n → e j k → p k) (h : Rch n e i k) : p k := by
  induction h with
  | refl => exact hi
  | step _ hk he ih => exact hp _ _ ih hk he
/-- one round of the table -/
def roundF (m : Nat) (h : Nat → Nat → Int) : Nat → Nat → Int := fun i j => max (h i j) (min (h i m) (h m j))
def rounds : Nat → (Nat → Nat → Int) → Nat → Nat → Int
  | 0, h => h
  | m + 1, h => roundF m (rounds m h)
theorem rounds_ge (h : Nat → Nat → Int) : ∀ m i j, h i j ≤ rounds m h i j := by
  intro m
  induction m with
  | zero => intro i j; exact Int.le_refl _
  | succ m ih => intro i j; have := ih i j; simp only [rounds, roundF]; omega
theorem rounds_closed (h : Nat → Nat → Int) (L : Int) : ∀ m k, k < m → ∀ i j, L ≤ rounds m h i k → L ≤ rounds m h k j → L ≤ rounds m h i j := by
  intro m
  induction m with
  | zero => intro k hk; omega
  | succ m ih =>
    intro k hk i j h1 h2
    simp only [rounds, roundF] at h1 h2 ⊢
    by_cases hkm : k = m
    · subst hkm; omega
    · have hlt : k < m := by omega
      have a1 := ih k hlt i j
      have a2 := ih k hlt i m
      have a3 := ih k hlt m j
      omega
theorem rounds_reach (h : Nat → Nat → Int) (n : Nat) (e : Nat → Nat → Prop) (L : Int) (h0 : ∀ i j, i < n → j < n → L ≤ h i j → Rch n e i j) : ∀ m, m ≤ n → ∀ i j, i < n → j < n → L ≤ rounds m h i j → Rch n e i j := by
  intro m
  induction m with
  | zero => intro _ i j hi hj; exact h0 i j hi hj
  | succ m ih =>
    intro hm i j hi hj hl
    simp only [rounds, roundF] at hl
    have a0 := ih (by omega) i j hi hj
    have a1 := ih (by omega) i m hi (by omega)
    have a2 := ih (by omega) m j (by omega) hj
    by_cases h1 : L ≤ rounds m h i j
    · exact a0 h1
    · exact (a1 (by omega)).trans (a2 (by omega))
/-- the table holds with which limit one is reached from the other -/
theorem rounds_iff (h : Nat → Nat → Int) (n : Nat) (e : Nat → Nat → Int) (L : Int) (hd : ∀ i, i < n → L ≤ h i i) (he : ∀ i j, i < n → j < n → i ≠ j → h i j = e i j) {i j : Nat} (hi : i < n) (hj : j < n) :
    L ≤ rounds n h i j ↔ Rch n (fun a b => L ≤ e a b) i j := by
  constructor
  · refine rounds_reach h n _ L ?_ n (Nat.le_refl _) i j hi hj
    intro a b ha hb hl
    by_cases hab : a = b
    · subst hab; exact .refl
    · rw [he a b ha hb hab] at hl; exact .step .refl hb hl
  · intro hr
    have : ∀ k, Rch n (fun a b => L ≤ e a b) i k → k < n ∧ L ≤ rounds n h i k := by
      intro k hk
      refine hk.closed (fun k => k < n ∧ L ≤ rounds n h i k) ⟨hi, Int.le_trans (hd i hi) (rounds_ge h n i i)⟩ ?_
      rintro a b ⟨ha, hla⟩ hb hlab
      refine ⟨hb, ?_⟩
      by_cases hab : a = b
      · subst hab; exact hla
      · have h1 : L ≤ rounds n h a b := Int.le_trans (by rw [he a b ha hb hab]; exact hlab) (rounds_ge h n a b)
        exact rounds_closed h L n a ha i b hla h1
    exact (this j hr).2
theorem rounds_bound (h : Nat → Nat → Int) (lo hi : Int) (n : Nat) (hb : ∀ i j, i < n → j < n → lo ≤ h i j ∧ h i j ≤ hi) : ∀ m, m ≤ n → ∀ i j, i < n → j < n → lo ≤ rounds m h i j ∧ rounds m h i j ≤ hi := by
  intro m
  induction m with
  | zero => intro _ i j h1 h2; exact hb i j h1 h2
  | succ m ih =>
    intro hm i j h1 h2
    have a0 := ih (by omega) i j h1 h2
    have a1 := ih (by omega) i m h1 (by omega)
    have a2 := ih (by omega) m j (by omega) h2
    simp only [rounds, roundF]; omega
end Go.Proofs.Ytpaakpbbahbhcaa.Q13Reach

/- Chapter 13: censuses: the plain functions of the program and of the reference agree, and the laws answer true. (Q13Bonds) No condition but those of each theorem. -/
namespace Go.Proofs.Ytpaakpbbahbhcaa.Q13Bonds
set_option linter.unusedVariables false
set_option linter.unusedSimpArgs false
open Go.RowKit
open Go.Proofs.Ytpaakpbbahbhcaa.GoP Go.Proofs.Ytpaakpbbahbhcaa.PlainStamp Go.Proofs.Ytpaakpbbahbhcaa.QBase Go.Proofs.Ytpaakpbbahbhcaa.Q13Reach Go.Proofs.Ytpaakpbbahbhcaa.Q13Ev Go.Proofs.Ytpaakpbbahbhcaa.Q13List Go.Proofs.Ytpaakpbbahbhcaa.Q13One Go.Proofs.Ytpaakpbbahbhcaa.QUp Go.Proofs.Ytpaakpbbahbhcaa.QLoop Go.Proofs.Ytpaakpbbahbhcaa.PSighting

def nth (l : List Int) (j : Nat) : Int := Go.Proofs.Ytpaakpbbahbhcaa.GoA.nth l j
theorem nth_set {T : List Int} {p q : Nat} {v : Int} (hp : p < T.length) : Go.Proofs.Ytpaakpbbahbhcaa.GoA.nth (T.set p v) q = if p = q then v else Go.Proofs.Ytpaakpbbahbhcaa.GoA.nth T q := by
  unfold Go.Proofs.Ytpaakpbbahbhcaa.GoA.nth
  rw [List.getD_eq_getElem?_getD, List.getD_eq_getElem?_getD]
  by_cases h : p = q
  · subst h; rw [List.getElem?_set_self hp, if_pos rfl]; rfl
  · rw [List.getElem?_set_ne h, if_neg h]
/-- the evidence of those at two places -/
def eAt (l : List Sighting) (i j : Nat) : Int := match l[i]?, l[j]? with | some x, some y => ev x y | _, _ => -99
theorem eAt_eq {l : List Sighting} {i j : Nat} {x y : Sighting} (hx : l[i]? = some x) (hy : l[j]? = some y) : eAt l i j = ev x y := by unfold eAt; rw [hx, hy]
def startF (l : List Sighting) (i j : Nat) : Int := if i = j then 16 else eAt l i j
/-- the greatest limit with which those at two places are of one cover -/
def tabF (l : List Sighting) : Nat → Nat → Int := rounds l.length (startF l)
def isTab (l : List Sighting) (T : List Int) (h : Nat → Nat → Int) : Prop := T.length = 100 ∧ ∀ i j, i < l.length → j < l.length → Go.Proofs.Ytpaakpbbahbhcaa.GoA.nth T (i * 10 + j) = h i j
theorem bonds_eq (l : List Sighting) (hk : okSis l = true) : ∃ T, GiBondsOf.P l = some T ∧ isTab l T (tabF l) := by
  have hn := okSis_len hk
  have htr : ∀ {i : Nat} {x : Sighting}, l[i]? = some x → x.traits.length ≤ 1000 := fun hx => by have := (okSi_of (okSis_at hk (List.mem_of_getElem? hx))).2.2.2.1; omega
  simp only [GiBondsOf.P, letK]
  refine cnt_ex (n := l.length) (Q := fun T => isTab l T (tabF l)) (fun i (T : List Int) => T.length = 100 ∧ ∀ a b, a < i → b < l.length → Go.Proofs.Ytpaakpbbahbhcaa.GoA.nth T (a * 10 + b) = startF l a b) ?_ ?_ l.length 0 _ (by omega) ⟨by simp, fun a b ha => by omega⟩
  · rintro i T nx hi ⟨hT, hI⟩ hnx
    obtain ⟨x, hx, hxi⟩ := at_lt (l := l) (k := i) hi
    simp only [GiBondsOf.l0, hxi, Option.bind_some, unSighting, letK]
    refine cnt_ex (n := l.length) (Q := fun T => isTab l T (tabF l)) (fun j (T : List Int) => T.length = 100 ∧ (∀ a b, a < i → b < l.length → Go.Proofs.Ytpaakpbbahbhcaa.GoA.nth T (a * 10 + b) = startF l a b) ∧ ∀ b, b < j → Go.Proofs.Ytpaakpbbahbhcaa.GoA.nth T (i * 10 + b) = eAt l i b) ?_ ?_ l.length 0 _ (by omega) ⟨hT, hI, fun b hb => by omega⟩
    · rintro j U nx' hj ⟨hU, h1, h2⟩ hn'
      obtain ⟨y, hy, hyi⟩ := at_lt (l := l) (k := j) hj
      simp only [GiBondsOf.l1, hyi, Option.bind_some, unSighting, evidence_eq x y (htr hx) (htr hy), letK, appK]
      rw [guardK_pos (by omega), guardK_pos (by omega)]
      refine hn' _ ⟨by rw [List.length_set]; exact hU, fun a b ha hb => ?_, fun b hb => ?_⟩
      · rw [nth_set (by omega), if_neg (by omega)]; exact h1 a b ha hb
      · rw [nth_set (by omega)]
        by_cases hbj : b = j
        · subst hbj; rw [if_pos rfl, eAt_eq hx hy]
        · rw [if_neg (by omega)]; exact h2 b (by omega)
    · rintro U ⟨hU, h1, h2⟩
      simp only [GiBondsOf.e1, letK, appK]
      rw [guardK_pos (by omega), guardK_pos (by omega)]
      refine hnx _ ⟨by rw [List.length_set]; exact hU, fun a b ha hb => ?_⟩
      rw [nth_set (by omega)]
      by_cases hai : a = i
      · subst hai
        unfold startF
        by_cases hab : a = b
        · subst hab; rw [if_pos rfl, if_pos rfl]
        · rw [if_neg (by omega), if_neg hab]; exact h2 b hb
      · rw [if_neg (by omega)]; exact h1 a b (by omega) hb
  · rintro T ⟨hT, hI⟩
    simp only [GiBondsOf.e0, letK]
    refine cnt_ex (n := l.length) (Q := fun T => isTab l T (tabF l)) (fun m (T : List Int) => isTab l T (rounds m (startF l))) ?_ ?_ l.length 0 _ (by omega) ⟨hT, fun i j hi hj => hI i j hi hj⟩
    · rintro m T nx hm ⟨hT, hI⟩ hnx
      simp only [GiBondsOf.l2, letK]
      refine cnt_ex (n := l.length) (Q := fun T => isTab l T (tabF l)) (fun i (T : List Int) => T.length = 100 ∧ (∀ a b, a < i → b < l.length → Go.Proofs.Ytpaakpbbahbhcaa.GoA.nth T (a * 10 + b) = rounds (m + 1) (startF l) a b) ∧ ∀ a b, i ≤ a → a < l.length → b < l.length → Go.Proofs.Ytpaakpbbahbhcaa.GoA.nth T (a * 10 + b) = rounds m (startF l) a b) ?_ ?_ l.length 0 _ (by omega) ⟨hT, fun a b ha => by omega, fun a b _ ha hb => hI a b ha hb⟩
      · rintro i T nx' hi ⟨hT, h1, h2⟩ hn'
        simp only [GiBondsOf.l3, letK]
        refine cnt_ex (n := l.length) (Q := fun T => isTab l T (tabF l)) (fun j (T : List Int) => T.length = 100 ∧ (∀ a b, a < i → b < l.length → Go.Proofs.Ytpaakpbbahbhcaa.GoA.nth T (a * 10 + b) = rounds (m + 1) (startF l) a b) ∧ (∀ b, b < j → Go.Proofs.Ytpaakpbbahbhcaa.GoA.nth T (i * 10 + b) = rounds (m + 1) (startF l) i b) ∧ (∀ b, j ≤ b → b < l.length → Go.Proofs.Ytpaakpbbahbhcaa.GoA.nth T (i * 10 + b) = rounds m (startF l) i b) ∧ ∀ a b, i < a → a < l.length → b < l.length → Go.Proofs.Ytpaakpbbahbhcaa.GoA.nth T (a * 10 + b) = rounds m (startF l) a b) ?_ ?_ l.length 0 _ (by omega) ⟨hT, h1, fun b hb => by omega, fun b _ hb => h2 i b (Nat.le_refl _) hi hb, fun a b ha hal hb => h2 a b (by omega) hal hb⟩
        · rintro j T nx'' hj ⟨hT, g1, g2, g3, g4⟩ hn''
          have e1 : Go.Proofs.Ytpaakpbbahbhcaa.GoA.nth T (i * 10 + m) = rounds m (startF l) i m := by
            by_cases hmj : m < j
            · rw [g2 m hmj]; simp only [rounds, roundF]; omega
            · exact g3 m (by omega) hm
          have e2 : Go.Proofs.Ytpaakpbbahbhcaa.GoA.nth T (m * 10 + j) = rounds m (startF l) m j := by
            rcases Nat.lt_trichotomy m i with h | h | h
            · rw [g1 m j h hj]; simp only [rounds, roundF]; omega
            · subst h; exact g3 j (Nat.le_refl _) hj
            · exact g4 m j h hm hj
          have e3 := g3 j (Nat.le_refl _) hj
          simp only [GiBondsOf.l4, letK, appK]
          rw [guardK_pos (by omega), guardK_pos (by omega), guardK_pos (by omega), guardK_pos (by omega), guardK_pos (by omega), guardK_pos (by omega), guardK_pos (by omega), guardK_pos (by omega), e1, e2, e3]
          refine hn'' _ ⟨by rw [List.length_set]; exact hT, fun a b ha hb => ?_, fun b hb => ?_, fun b hb hbl => ?_, fun a b ha hal hb => ?_⟩
          · rw [nth_set (by omega), if_neg (by omega)]; exact g1 a b ha hb
          · rw [nth_set (by omega)]
            by_cases hbj : b = j
            · subst hbj; rw [if_pos rfl]; rfl
            · rw [if_neg (by omega)]; exact g2 b (by omega)
          · rw [nth_set (by omega), if_neg (by omega)]; exact g3 b (by omega) hbl
          · rw [nth_set (by omega), if_neg (by omega)]; exact g4 a b ha hal hb
        · rintro T ⟨hT, g1, g2, g3, g4⟩
          simp only [GiBondsOf.e4, letK, appK]
          refine hn' _ ⟨hT, fun a b ha hb => ?_, fun a b ha hal hb => g4 a b (by omega) hal hb⟩
          by_cases hai : a = i
          · subst hai; exact g2 b hb
          · exact g1 a b (by omega) hb
      · rintro T ⟨hT, h1, _⟩
        simp only [GiBondsOf.e3, letK, appK]
        exact hnx _ ⟨hT, fun i j hi hj => h1 i j hi hj⟩
    · rintro T h
      simp only [GiBondsOf.e2, letK]
      rw [guardK_pos h.1]
      exact ⟨_, rfl, h⟩
theorem tab_iff {l : List Sighting} {L : Int} (hL : L ≤ 16) {i j : Nat} (hi : i < l.length) (hj : j < l.length) : L ≤ tabF l i j ↔ Rch l.length (fun a b => L ≤ eAt l a b) i j :=
  rounds_iff (startF l) l.length (eAt l) L (fun i _ => by unfold startF; rw [if_pos rfl]; exact hL) (fun i j _ _ hij => by unfold startF; rw [if_neg hij]) hi hj
theorem tab_bound {l : List Sighting} (hk : okSis l = true) {i j : Nat} (hi : i < l.length) (hj : j < l.length) : -26 ≤ tabF l i j ∧ tabF l i j ≤ 16 := by
  refine rounds_bound (startF l) (-26) 16 l.length (fun a b ha hb => ?_) l.length (Nat.le_refl _) i j hi hj
  unfold startF
  by_cases hab : a = b
  · rw [if_pos hab]; omega
  · rw [if_neg hab]
    obtain ⟨x, hx, _⟩ := at_lt (l := l) (k := a) ha
    obtain ⟨y, hy, _⟩ := at_lt (l := l) (k := b) hb
    rw [eAt_eq hx hy]
    have h1 := okSi_of (okSis_at hk (List.mem_of_getElem? hx))
    have h2 := okSi_of (okSis_at hk (List.mem_of_getElem? hy))
    have h3 := comm_le x.traits y.traits
    have h5 := ev_ge h1.2.2.2.1 h2.2.2.2.1
    refine ⟨h5.1, ?_⟩
    have h4 : comm x.traits y.traits ≤ y.traits.length := comm_le' h1.2.2.2.2
    have h6 := h2.2.2.2.1
    have h7 := h1.2.2.2.1
    unfold ev
    by_cases ht : x.town = y.town
    · rw [if_pos ht]; omega
    · rw [if_neg ht]; omega
end Go.Proofs.Ytpaakpbbahbhcaa.Q13Bonds

