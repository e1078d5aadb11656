/- Texts on which the proofs of several laws stand, one behind the other (5 of 20). No condition of their own. -/
import Derived.Test.YtpaakpbbahbhcaaChecked
import Derived.Test.YtpaakpbbahbhcaaX13P1
import Derived.Test.YtpaakpbbahbhcaaX13P2
import Derived.WalkKit
import Derived.WalkSpells
import Derived.WalkLawsBesides
import Derived.BigQuiet
import Derived.OwnWalk
import Derived.Deep.LoopGhost
import Derived.Deep.QuietTactic
import Derived.IntWalk
import Derived.Lib.QuietBelow
import Derived.Test.YtpaakpbbahbhcaaX13P3
import Derived.Deep.AppendLies
/- loop.example/g01062/spec.l13Find as a plain function, and the contract of the program's: where the plain one has an answer, the program has it. Conditions: slices read as lists. -/
namespace Go.Proofs.Ytpaakpbbahbhcaa.GsL13Find
set_option linter.unusedVariables false
set_option linter.unusedSimpArgs false
open Go.RowKit
open Go.Proofs.Ytpaakpbbahbhcaa.Rowed Go.Proofs.Ytpaakpbbahbhcaa.Turn Go.Proofs.Ytpaakpbbahbhcaa.Aid Go.Proofs.Ytpaakpbbahbhcaa.GoP Go.Proofs.Ytpaakpbbahbhcaa.GoM

def l0 (list : (List Go.Proofs.Ytpaakpbbahbhcaa.PSighting.Sighting)) (id : Int) (k0 : Nat) (s : Unit) (nx0 bk0 : Unit → Option (Int)) : Option (Int) :=
  
  Option.bind (idx list (k0 : Int)) fun (yt_8 : Go.Proofs.Ytpaakpbbahbhcaa.PSighting.Sighting) =>
  unSighting yt_8 fun (t_8_id : Int) (t_8_year : Int) (t_8_town : ByteArray) (t_8_traits : (List Int)) =>
  letK (t_8_id == id) fun (t_12 : Bool) =>
  iteK t_12
  (some (k0 : Int))
  (appK nx0 ())

def e0  (s : Unit) : Option (Int) :=
  
  some (-1)

def P (list : (List Go.Proofs.Ytpaakpbbahbhcaa.PSighting.Sighting)) (id : Int) : Option (Int) :=
  cntK (l0 list id) (list.length) 0 () (e0 )

set_option maxRecDepth 100000 in
set_option maxHeartbeats 2000000 in
theorem C (list : (List Go.Proofs.Ytpaakpbbahbhcaa.PSighting.Sighting)) (id : Int) (A0 : Option Addr) (c0 : Nat)  (w : World) (M0 : Hid (Go.Proofs.Ytpaakpbbahbhcaa.GoV.ReadNest w Go.Proofs.Ytpaakpbbahbhcaa.GoVSighting.lay A0 list)) (N0 : Hid (list.length ≤ 9223372036854775807))  {r : Int} (H : Hid (P list id = some r)) :
    Calls Try.prog 55 #[.slice A0 list.length c0, .int .i64 id] w (Gives (.int .i64 r) w) := by
  have HB := Lib.hid (Below.refl w.heap.size w)
  unfold P at H
  have N0o := N0.out
  go_enter Try.func55, Try.ntmps55
  go_wp2_with fail
  go_loopg [5] (list.length) (fun m_ v5_ wr => ∃ (k0 : Nat) , k0 + m_ = list.length ∧ v5_ = .int .i64 (k0 : Int) ∧ Hid (cntK (l0 list id) m_ k0 () (e0 ) = some r) ∧ Hid (Below w.heap.size w wr))
  case atStart => exact ⟨0, by omega, rfl, H, HB⟩
  case round =>
    obtain ⟨k0, hkm0, rfl, H, HBwr0⟩ := hrel
    rename World => wr0
    cases gk with
    | zero =>
      obtain rfl : k0 = list.length := by omega
      have hc0 : decide (((list.length : Nat) : Int) < ((list.length : Nat) : Int)) = false := by simp
      replace H := cnt_zero H
      unfold e0 at H
      obtain rfl := ret_hid H
      go_wp2_with fail
      go_ret
      exact ⟨rfl, HBwr0.out⟩
    | succ m0 =>
      have hlt0 : k0 < list.length := by omega
      have hc0 : decide ((k0 : Int) < ((list.length : Nat) : Int)) = true := by simp; omega
      replace H := cnt_succ H
      unfold l0 at H
      replace H := idx_hid H
      obtain ⟨nt_8, yt_8, et_8, lt_8, gt_8, H⟩ := H
      obtain rfl : k0 = nt_8 := by omega
      clear et_8
      obtain ⟨t_8_id, t_8_year, t_8_town, t_8_traits⟩ := yt_8
      replace H := unSighting_hid H
      obtain ⟨bbt_8, oot_8, zt_8, Art_8, crt_8, eAt_8, zzt_8, hKt_8, hrt_8, hqt_8, hnt_8⟩ := Go.Proofs.Ytpaakpbbahbhcaa.GoV.nest_at M0.out (k := k0) lt_8
      obtain rfl := Option.some.inj (gt_8.out.symm.trans zzt_8)
      clear zzt_8
      subst eAt_8
      have hct_8_0 : w.cell? ⟨bbt_8, oot_8 + k0 * 4, none⟩ = some (.int .i64 t_8_id) := hKt_8 0 _ rfl
      have hct_8_1 : w.cell? ⟨bbt_8, oot_8 + k0 * 4 + 1, none⟩ = some (.int .i64 t_8_year) := hKt_8 1 _ rfl
      have hct_8_2 : w.cell? ⟨bbt_8, oot_8 + k0 * 4 + 2, none⟩ = some (.string t_8_town) := hKt_8 2 _ rfl
      have hct_8_3 : w.cell? ⟨bbt_8, oot_8 + k0 * 4 + 3, none⟩ = some (.slice Art_8 t_8_traits.length crt_8) := hKt_8 3 _ rfl
      clear hKt_8
      have ltt_8 := cell_lt hct_8_0
      replace hct_8_0 := cell_below HBwr0.out hct_8_0
      replace hct_8_1 := cell_below HBwr0.out hct_8_1
      replace hct_8_2 := cell_below HBwr0.out hct_8_2
      replace hct_8_3 := cell_below HBwr0.out hct_8_3
      have Mrt_8 := Lib.hid hrt_8
      have Qrt_8 := Lib.hid hqt_8
      have Nrt_8 := Lib.hid hnt_8
      clear hrt_8 hqt_8 hnt_8
      have b0t_8 : (0 : Int) ≤ (k0 : Int) := by omega
      have b1t_8 : (k0 : Int) < ((list.length : Nat) : Int) := by omega
      have b2t_8 : ((k0 : Int)).toNat = k0 := by omega
      replace H := let_hid H
      obtain ⟨t_12, ht_12, H⟩ := H
      cases t_12 with
      | false =>
        replace H := ite_f H
        replace H := app_hid H
        go_wp2_with fail
        go_roundg m0
        case measure => omega
        case rel => exact ⟨k0 + 1, by omega, by go_num, H, HBwr0⟩
      | true =>
        replace H := ite_t H
        obtain rfl := ret_hid H
        go_wp2_with fail
        go_ret
        exact ⟨rfl, HBwr0.out⟩
end Go.Proofs.Ytpaakpbbahbhcaa.GsL13Find

/- loop.example/g01062/spec.l1Has as a plain function, and the contract of the program's: where the plain one has an answer, the program has it. Conditions: slices read as lists. -/
namespace Go.Proofs.Ytpaakpbbahbhcaa.GsL1Has
set_option linter.unusedVariables false
set_option linter.unusedSimpArgs false
open Go.RowKit
open Go.Proofs.Ytpaakpbbahbhcaa.Rowed Go.Proofs.Ytpaakpbbahbhcaa.Turn Go.Proofs.Ytpaakpbbahbhcaa.Aid Go.Proofs.Ytpaakpbbahbhcaa.GoP Go.Proofs.Ytpaakpbbahbhcaa.GoM

def l0 (l : (List Int)) (n_1 : Int) (k0 : Nat) (s : Unit) (nx0 bk0 : Unit → Option (Bool)) : Option (Bool) :=
  
  Option.bind (idx l (k0 : Int)) fun (yt_8 : Int) =>
  letK (yt_8 == n_1) fun (t_11 : Bool) =>
  iteK t_11
  (some true)
  (appK nx0 ())

def e0  (s : Unit) : Option (Bool) :=
  
  some false

def P (l : (List Int)) (n_1 : Int) : Option (Bool) :=
  cntK (l0 l n_1) (l.length) 0 () (e0 )

set_option maxRecDepth 100000 in
set_option maxHeartbeats 2000000 in
theorem C (l : (List Int)) (n_1 : Int) (A0 : Option Addr) (c0 : Nat)  (w : World) (M0 : Hid (Cells w 1 A0 l.length (Go.Proofs.Ytpaakpbbahbhcaa.HelpInt.iv l))) (N0 : Hid (l.length ≤ 9223372036854775807))  {r : Bool} (H : Hid (P l n_1 = some r)) :
    Calls Try.prog 57 #[.slice A0 l.length c0, .int .i64 n_1] w (Gives (.bool r) w) := by
  have HB := Lib.hid (Below.refl w.heap.size w)
  unfold P at H
  have N0o := N0.out
  go_enter Try.func57, Try.ntmps57
  go_wp2_with fail
  go_loopg [5] (l.length) (fun m_ v5_ wr => ∃ (k0 : Nat) , k0 + m_ = l.length ∧ v5_ = .int .i64 (k0 : Int) ∧ Hid (cntK (l0 l n_1) m_ k0 () (e0 ) = some r) ∧ Hid (Below w.heap.size w wr))
  case atStart => exact ⟨0, by omega, rfl, H, HB⟩
  case round =>
    obtain ⟨k0, hkm0, rfl, H, HBwr0⟩ := hrel
    rename World => wr0
    cases gk with
    | zero =>
      obtain rfl : k0 = l.length := by omega
      have hc0 : decide (((l.length : Nat) : Int) < ((l.length : Nat) : Int)) = false := by simp
      replace H := cnt_zero H
      unfold e0 at H
      obtain rfl := ret_hid H
      go_wp2_with fail
      go_ret
      exact ⟨rfl, HBwr0.out⟩
    | succ m0 =>
      have hlt0 : k0 < l.length := by omega
      have hc0 : decide ((k0 : Int) < ((l.length : Nat) : Int)) = true := by simp; omega
      replace H := cnt_succ H
      unfold l0 at H
      replace H := idx_hid H
      obtain ⟨nt_8, yt_8, et_8, lt_8, gt_8, H⟩ := H
      obtain rfl : k0 = nt_8 := by omega
      clear et_8
      obtain ⟨ab_t_8, ao_t_8, zt_8, At_8, z_t_8, ct_8_0⟩ := Go.Proofs.Ytpaakpbbahbhcaa.HelpInt.Ints.at_ M0.out lt_8
      obtain rfl := Option.some.inj (gt_8.out.symm.trans z_t_8)
      subst At_8
      have ltt_8 := cell_lt ct_8_0
      replace ct_8_0 := cell_below HBwr0.out ct_8_0
      clear z_t_8
      have b0t_8 : (0 : Int) ≤ (k0 : Int) := by omega
      have b1t_8 : (k0 : Int) < ((l.length : Nat) : Int) := by omega
      have b2t_8 : ((k0 : Int)).toNat = k0 := by omega
      replace H := let_hid H
      obtain ⟨t_11, ht_11, H⟩ := H
      cases t_11 with
      | false =>
        replace H := ite_f H
        replace H := app_hid H
        go_wp2_with fail
        go_roundg m0
        case measure => omega
        case rel => exact ⟨k0 + 1, by omega, by go_num, H, HBwr0⟩
      | true =>
        replace H := ite_t H
        obtain rfl := ret_hid H
        go_wp2_with fail
        go_ret
        exact ⟨rfl, HBwr0.out⟩
end Go.Proofs.Ytpaakpbbahbhcaa.GsL1Has

/- loop.example/g01062/spec.l13Evidence as a plain function, and the contract of the program's: where the plain one has an answer, the program has it. Conditions: slices read as lists. -/
namespace Go.Proofs.Ytpaakpbbahbhcaa.GsL13Evidence
set_option linter.unusedVariables false
set_option linter.unusedSimpArgs false
open Go.RowKit
open Go.Proofs.Ytpaakpbbahbhcaa.Rowed Go.Proofs.Ytpaakpbbahbhcaa.Turn Go.Proofs.Ytpaakpbbahbhcaa.Aid Go.Proofs.Ytpaakpbbahbhcaa.GoP Go.Proofs.Ytpaakpbbahbhcaa.GoM

def l0 (x_traits : (List Int)) (y_traits : (List Int)) (s : Int × Int) (nx0 bk0 : Int × Int → Option (Int)) : Option (Int) :=
  unp2 s fun n_5l0 i_6l0 =>
  letK (decide (i_6l0 < (x_traits.length : Int))) fun (t_9 : Bool) =>
  iteK t_9
  (Option.bind (idx x_traits i_6l0) fun (yt_15 : Int) =>
  Option.bind (Go.Proofs.Ytpaakpbbahbhcaa.GsL1Has.P y_traits yt_15) fun (t_17 : Bool) =>
  iteK t_17
  (letK (IntKind.i64.wrap (n_5l0 + 1)) fun (t_19 : Int) =>
  letK (IntKind.i64.wrap (i_6l0 + 1)) fun (t_22 : Int) =>
  appK nx0 (t_19, t_22))
  (letK (IntKind.i64.wrap (i_6l0 + 1)) fun (t_22 : Int) =>
  appK nx0 (n_5l0, t_22)))
  (appK bk0 (n_5l0, i_6l0))

def j0  (s : Int) : Option (Int) :=
  some s

def e0 (x_town : ByteArray) (x_traits : (List Int)) (y_town : ByteArray) (y_traits : (List Int)) (s : Int × Int) : Option (Int) :=
  unp2 s fun n_5l0 i_6l0 =>
  letK (IntKind.i64.wrap (2 * n_5l0)) fun (t_25 : Int) =>
  letK (IntKind.i64.wrap ((x_traits.length : Int) - n_5l0)) fun (t_30 : Int) =>
  letK (IntKind.i64.wrap (t_25 - t_30)) fun (t_31 : Int) =>
  letK (IntKind.i64.wrap ((y_traits.length : Int) - n_5l0)) fun (t_36 : Int) =>
  letK (IntKind.i64.wrap (t_31 - t_36)) fun (t_37 : Int) =>
  letK (!(x_town.toList == y_town.toList)) fun (t_43 : Bool) =>
  iteK t_43
  (letK (IntKind.i64.wrap (t_37 - 10)) fun (t_45 : Int) =>
  j0  (t_45))
  (j0  (t_37))

def P (fuel : Nat) (x_id : Int) (x_year : Int) (x_town : ByteArray) (x_traits : (List Int)) (y_id : Int) (y_year : Int) (y_town : ByteArray) (y_traits : (List Int)) : Option (Int) :=
  loopK (l0 x_traits y_traits) fuel (0, 0) (e0 x_town x_traits y_town y_traits)

set_option maxRecDepth 100000 in
set_option maxHeartbeats 2000000 in
theorem C (fuel : Nat) (x_id : Int) (x_year : Int) (x_town : ByteArray) (x_traits : (List Int)) (y_id : Int) (y_year : Int) (y_town : ByteArray) (y_traits : (List Int)) (A0_3 : Option Addr) (c0_3 : Nat) (A1_3 : Option Addr) (c1_3 : Nat)  (w : World) (M0_3 : Hid (Cells w 1 A0_3 x_traits.length (Go.Proofs.Ytpaakpbbahbhcaa.HelpInt.iv x_traits))) (N0_3 : Hid (x_traits.length ≤ 9223372036854775807)) (M1_3 : Hid (Cells w 1 A1_3 y_traits.length (Go.Proofs.Ytpaakpbbahbhcaa.HelpInt.iv y_traits))) (N1_3 : Hid (y_traits.length ≤ 9223372036854775807))  {r : Int} (H : Hid (P fuel x_id x_year x_town x_traits y_id y_year y_town y_traits = some r)) :
    Calls Try.prog 60 #[.agg #[.int .i64 x_id, .int .i64 x_year, .string x_town, .slice A0_3 x_traits.length c0_3], .agg #[.int .i64 y_id, .int .i64 y_year, .string y_town, .slice A1_3 y_traits.length c1_3]] w (Gives (.int .i64 r) w) := by
  have HB := Lib.hid (Below.refl w.heap.size w)
  unfold P at H
  have N0_3o := N0_3.out
  have N1_3o := N1_3.out
  go_enter Try.func60, Try.ntmps60
  obtain ⟨w_x_0, hw_x_0⟩ : ∃ x, w.alloc (.cells #[.int .i64 x_id, .int .i64 x_year, .string x_town, .slice A0_3 x_traits.length c0_3] 67) = x := ⟨_, rfl⟩
  have bw_x_0 : Below w.heap.size w w_x_0 := by rw [← hw_x_0]; exact (Below.refl _ _).alloc (Nat.le_refl _) _
  have HBw_x_0 := Lib.hid (Below.step HB.out bw_x_0)
  clear bw_x_0
  have kx_0_0 : w_x_0.cell? ⟨w.heap.size, 0, none⟩ = some (.int .i64 x_id) := by rw [← hw_x_0]; exact box_new _ _ _ 0 _ rfl
  have kx_0_1 : w_x_0.cell? ⟨w.heap.size, 1, none⟩ = some (.int .i64 x_year) := by rw [← hw_x_0]; exact box_new _ _ _ 1 _ rfl
  have kx_0_2 : w_x_0.cell? ⟨w.heap.size, 2, none⟩ = some (.string x_town) := by rw [← hw_x_0]; exact box_new _ _ _ 2 _ rfl
  have kx_0_3 : w_x_0.cell? ⟨w.heap.size, 3, none⟩ = some (.slice A0_3 x_traits.length c0_3) := by rw [← hw_x_0]; exact box_new _ _ _ 3 _ rfl
  obtain ⟨w_y_1, hw_y_1⟩ : ∃ x, w_x_0.alloc (.cells #[.int .i64 y_id, .int .i64 y_year, .string y_town, .slice A1_3 y_traits.length c1_3] 67) = x := ⟨_, rfl⟩
  have bw_y_1 : Below w_x_0.heap.size w_x_0 w_y_1 := by rw [← hw_y_1]; exact (Below.refl _ _).alloc (Nat.le_refl _) _
  have HBw_y_1 := Lib.hid (Below.step HBw_x_0.out bw_y_1)
  have kx_0_0__78 := cell_below bw_y_1 kx_0_0
  have kx_0_1__79 := cell_below bw_y_1 kx_0_1
  have kx_0_2__80 := cell_below bw_y_1 kx_0_2
  have kx_0_3__81 := cell_below bw_y_1 kx_0_3
  clear bw_y_1
  have ky_1_0 : w_y_1.cell? ⟨w_x_0.heap.size, 0, none⟩ = some (.int .i64 y_id) := by rw [← hw_y_1]; exact box_new _ _ _ 0 _ rfl
  have ky_1_1 : w_y_1.cell? ⟨w_x_0.heap.size, 1, none⟩ = some (.int .i64 y_year) := by rw [← hw_y_1]; exact box_new _ _ _ 1 _ rfl
  have ky_1_2 : w_y_1.cell? ⟨w_x_0.heap.size, 2, none⟩ = some (.string y_town) := by rw [← hw_y_1]; exact box_new _ _ _ 2 _ rfl
  have ky_1_3 : w_y_1.cell? ⟨w_x_0.heap.size, 3, none⟩ = some (.slice A1_3 y_traits.length c1_3) := by rw [← hw_y_1]; exact box_new _ _ _ 3 _ rfl
  go_wp2_with fail
  clear kx_0_0 kx_0_1 kx_0_2 kx_0_3
  go_loopg [5, 6] (fuel) (fun m_ v5_ v6_ wr => ∃ (n_5l0 : Int) (i_6l0 : Int), v5_ = .int .i64 n_5l0 ∧ v6_ = .int .i64 i_6l0 ∧ Hid (loopK (l0 x_traits y_traits) m_ (n_5l0, i_6l0) (e0 x_town x_traits y_town y_traits) = some r) ∧ Hid (Below w.heap.size w wr) ∧ wr.cell? ⟨w.heap.size, 0, none⟩ = some (.int .i64 x_id) ∧ wr.cell? ⟨w.heap.size, 1, none⟩ = some (.int .i64 x_year) ∧ wr.cell? ⟨w.heap.size, 2, none⟩ = some (.string x_town) ∧ wr.cell? ⟨w.heap.size, 3, none⟩ = some (.slice A0_3 x_traits.length c0_3) ∧ wr.cell? ⟨w_x_0.heap.size, 0, none⟩ = some (.int .i64 y_id) ∧ wr.cell? ⟨w_x_0.heap.size, 1, none⟩ = some (.int .i64 y_year) ∧ wr.cell? ⟨w_x_0.heap.size, 2, none⟩ = some (.string y_town) ∧ wr.cell? ⟨w_x_0.heap.size, 3, none⟩ = some (.slice A1_3 y_traits.length c1_3))
  case atStart => exact ⟨_, _, rfl, rfl, H, HBw_y_1, kx_0_0__78, kx_0_1__79, kx_0_2__80, kx_0_3__81, ky_1_0, ky_1_1, ky_1_2, ky_1_3⟩
  case round =>
    obtain ⟨n_5l0, i_6l0, rfl, rfl, H, HBwr0, kx_0_0__78, kx_0_1__79, kx_0_2__80, kx_0_3__81, ky_1_0, ky_1_1, ky_1_2, ky_1_3⟩ := hrel
    rename World => wr0
    cases gk with
    | zero => exact (loop_zero H).elim
    | succ m0 =>
      replace H := loop_succ H
      unfold l0 at H
      replace H := unp2_hid H
      replace H := let_hid H
      obtain ⟨t_9, ht_9, H⟩ := H
      cases t_9 with
      | false =>
        replace H := ite_f H
        replace H := app_hid H
        unfold e0 at H
        replace H := unp2_hid H
        replace H := let_hid H
        obtain ⟨t_25, ht_25, H⟩ := H
        replace H := let_hid H
        obtain ⟨t_30, ht_30, H⟩ := H
        replace H := let_hid H
        obtain ⟨t_31, ht_31, H⟩ := H
        replace H := let_hid H
        obtain ⟨t_36, ht_36, H⟩ := H
        replace H := let_hid H
        obtain ⟨t_37, ht_37, H⟩ := H
        replace H := let_hid H
        obtain ⟨t_43, ht_43, H⟩ := H
        cases t_43 with
        | false =>
          replace H := ite_f H
          unfold j0 at H
          obtain rfl := ret_hid H
          go_wp2_with fail
          go_ret
          exact ⟨rfl, HBwr0.out⟩
        | true =>
          replace H := ite_t H
          replace H := let_hid H
          obtain ⟨t_45, ht_45, H⟩ := H
          unfold j0 at H
          obtain rfl := ret_hid H
          go_wp2_with fail
          go_ret
          exact ⟨rfl, HBwr0.out⟩
      | true =>
        replace H := ite_t H
        go_wp2_with fail
        have Hkx_0_0__78 := Lib.hid kx_0_0__78
        replace kx_0_0__78 := cell_regrown kx_0_0__78
        have Hkx_0_1__79 := Lib.hid kx_0_1__79
        replace kx_0_1__79 := cell_regrown kx_0_1__79
        have Hkx_0_2__80 := Lib.hid kx_0_2__80
        replace kx_0_2__80 := cell_regrown kx_0_2__80
        have Hkx_0_3__81 := Lib.hid kx_0_3__81
        replace kx_0_3__81 := cell_regrown kx_0_3__81
        have Hky_1_0 := Lib.hid ky_1_0
        replace ky_1_0 := cell_regrown ky_1_0
        have Hky_1_1 := Lib.hid ky_1_1
        replace ky_1_1 := cell_regrown ky_1_1
        have Hky_1_2 := Lib.hid ky_1_2
        replace ky_1_2 := cell_regrown ky_1_2
        have Hky_1_3 := Lib.hid ky_1_3
        replace ky_1_3 := cell_regrown ky_1_3
        replace H := idx_hid H
        obtain ⟨nt_15, yt_15, et_15, lt_15, gt_15, H⟩ := H
        subst et_15
        have nc_82 : nt_15 < x_traits.length := by have := of_decide_eq_true ht_9; omega
        obtain ⟨ab_t_15, ao_t_15, zt_15, At_15, z_t_15, ct_15_0⟩ := Go.Proofs.Ytpaakpbbahbhcaa.HelpInt.Ints.at_ M0_3.out lt_15
        obtain rfl := Option.some.inj (gt_15.out.symm.trans z_t_15)
        subst At_15
        have ltt_15 := cell_lt ct_15_0
        replace ct_15_0 := cell_below HBwr0.out ct_15_0
        clear z_t_15
        have b0t_15 : (0 : Int) ≤ (nt_15 : Int) := by omega
        have b1t_15 : (nt_15 : Int) < ((x_traits.length : Nat) : Int) := by omega
        have b2t_15 : ((nt_15 : Int)).toNat = nt_15 := by omega
        have Hct_15_0 := Lib.hid ct_15_0
        replace ct_15_0 := cell_regrown ct_15_0
        replace H := bind_hid H
        obtain ⟨t_17, qt_17, H⟩ := H
        have nt_17 : ∀ d os, Calls Try.prog 57 #[.slice A1_3 y_traits.length c1_3, .int .i64 yt_15] (Go.Sort.grow (redrawn wr0 d) os) fun e w'' => e = .returned (.bool t_17) ∧ ∃ p : Regrown, w'' = Go.Sort.grow (redrawn wr0 p.d) p.os := fun d os => Calls.regrown_of (Go.Proofs.Ytpaakpbbahbhcaa.GsL1Has.C (y_traits) (yt_15) A1_3 c1_3 _   (Lib.hid (Cells.below (Cells.below M1_3.out HBwr0.out) (below_regrown _ _ _))) N1_3 qt_17)
        refine wp_region_quiet_below (by kernel_rfl) (by kernel_rfl) ?_
        repeat (go_big_quiet_step (first | (go_at_call 57; exact nt_17 _ _)))
        refine wpQuiet_nil ?_
        intro Y5 hY5
        replace hY5 := below_class hY5
        clear nt_17
        replace kx_0_0__78 := Hkx_0_0__78.out
        clear Hkx_0_0__78
        replace kx_0_1__79 := Hkx_0_1__79.out
        clear Hkx_0_1__79
        replace kx_0_2__80 := Hkx_0_2__80.out
        clear Hkx_0_2__80
        replace kx_0_3__81 := Hkx_0_3__81.out
        clear Hkx_0_3__81
        replace ky_1_0 := Hky_1_0.out
        clear Hky_1_0
        replace ky_1_1 := Hky_1_1.out
        clear Hky_1_1
        replace ky_1_2 := Hky_1_2.out
        clear Hky_1_2
        replace ky_1_3 := Hky_1_3.out
        clear Hky_1_3
        replace ct_15_0 := Hct_15_0.out
        clear Hct_15_0
        have HBY5 := Lib.hid (Below.step HBwr0.out hY5)
        replace kx_0_0__78 := cell_below hY5 kx_0_0__78
        replace kx_0_1__79 := cell_below hY5 kx_0_1__79
        replace kx_0_2__80 := cell_below hY5 kx_0_2__80
        replace kx_0_3__81 := cell_below hY5 kx_0_3__81
        replace ky_1_0 := cell_below hY5 ky_1_0
        replace ky_1_1 := cell_below hY5 ky_1_1
        replace ky_1_2 := cell_below hY5 ky_1_2
        replace ky_1_3 := cell_below hY5 ky_1_3
        replace ct_15_0 := cell_below hY5 ct_15_0
        clear hY5
        cases t_17 with
        | false =>
          replace H := ite_f H
          replace H := let_hid H
          obtain ⟨t_22, ht_22, H⟩ := H
          replace H := app_hid H
          go_wp2_with fail
          go_roundg m0
          case measure => omega
          case rel => exact ⟨_, _, rfl, rfl, H, HBY5, kx_0_0__78, kx_0_1__79, kx_0_2__80, kx_0_3__81, ky_1_0, ky_1_1, ky_1_2, ky_1_3⟩
        | true =>
          replace H := ite_t H
          replace H := let_hid H
          obtain ⟨t_19, ht_19, H⟩ := H
          replace H := let_hid H
          obtain ⟨t_22, ht_22, H⟩ := H
          replace H := app_hid H
          go_wp2_with fail
          go_roundg m0
          case measure => omega
          case rel => exact ⟨_, _, rfl, rfl, H, HBY5, kx_0_0__78, kx_0_1__79, kx_0_2__80, kx_0_3__81, ky_1_0, ky_1_1, ky_1_2, ky_1_3⟩
end Go.Proofs.Ytpaakpbbahbhcaa.GsL13Evidence

/- loop.example/g01062/impl.indexOfSighting$1 as a plain function, and the contract of the program's: where the plain one has an answer, the program has it. Conditions: slices read as lists. -/
namespace Go.Proofs.Ytpaakpbbahbhcaa.GiIndexOfSighting1
set_option linter.unusedVariables false
set_option linter.unusedSimpArgs false
open Go.RowKit
open Go.Proofs.Ytpaakpbbahbhcaa.Rowed Go.Proofs.Ytpaakpbbahbhcaa.Turn Go.Proofs.Ytpaakpbbahbhcaa.Aid Go.Proofs.Ytpaakpbbahbhcaa.GoP Go.Proofs.Ytpaakpbbahbhcaa.GoM

def P (s_0_id : Int) (s_0_year : Int) (s_0_town : ByteArray) (s_0_traits : (List Int)) (hq0 : Int) : Option (Bool) :=
  letK (s_0_id == hq0) fun (t_5 : Bool) =>
  some t_5

set_option maxRecDepth 100000 in
set_option maxHeartbeats 2000000 in
theorem C (s_0_id : Int) (s_0_year : Int) (s_0_town : ByteArray) (s_0_traits : (List Int)) (hq0 : Int) (A0_3 : Option Addr) (c0_3 : Nat) (gq0 : Nat) (w : World) (M0_3 : Hid (Cells w 1 A0_3 s_0_traits.length (Go.Proofs.Ytpaakpbbahbhcaa.HelpInt.iv s_0_traits))) (N0_3 : Hid (s_0_traits.length ≤ 9223372036854775807)) (Fq0h : Hid (w.cell? ⟨gq0, 0, none⟩ = some (.int .i64 hq0))) {r : Bool} (H : Hid (P s_0_id s_0_year s_0_town s_0_traits hq0 = some r)) :
    Calls Try.prog 84 #[.agg #[.int .i64 s_0_id, .int .i64 s_0_year, .string s_0_town, .slice A0_3 s_0_traits.length c0_3], .pointer (some ⟨gq0, 0, none⟩)] w (Gives (.bool r) w) := by
  have HB := Lib.hid (Below.refl w.heap.size w)
  unfold P at H
  have N0_3o := N0_3.out
  have Fq0 := Fq0h.out
  go_enter Try.func84, Try.ntmps84
  obtain ⟨w_s_0, hw_s_0⟩ : ∃ x, w.alloc (.cells #[.int .i64 s_0_id, .int .i64 s_0_year, .string s_0_town, .slice A0_3 s_0_traits.length c0_3] 67) = x := ⟨_, rfl⟩
  have bw_s_0 : Below w.heap.size w w_s_0 := by rw [← hw_s_0]; exact (Below.refl _ _).alloc (Nat.le_refl _) _
  have HBw_s_0 := Lib.hid (Below.step HB.out bw_s_0)
  have Fq0__124 := cell_below bw_s_0 Fq0
  clear bw_s_0
  have ks_0_0 : w_s_0.cell? ⟨w.heap.size, 0, none⟩ = some (.int .i64 s_0_id) := by rw [← hw_s_0]; exact box_new _ _ _ 0 _ rfl
  have ks_0_1 : w_s_0.cell? ⟨w.heap.size, 1, none⟩ = some (.int .i64 s_0_year) := by rw [← hw_s_0]; exact box_new _ _ _ 1 _ rfl
  have ks_0_2 : w_s_0.cell? ⟨w.heap.size, 2, none⟩ = some (.string s_0_town) := by rw [← hw_s_0]; exact box_new _ _ _ 2 _ rfl
  have ks_0_3 : w_s_0.cell? ⟨w.heap.size, 3, none⟩ = some (.slice A0_3 s_0_traits.length c0_3) := by rw [← hw_s_0]; exact box_new _ _ _ 3 _ rfl
  replace H := let_hid H
  obtain ⟨t_5, ht_5, H⟩ := H
  obtain rfl := ret_hid H
  go_wp2_with fail
  go_ret
  exact ⟨rfl, HBw_s_0.out⟩
end Go.Proofs.Ytpaakpbbahbhcaa.GiIndexOfSighting1

/- slices.IndexFunc[[]loop.example/g01062/impl.Sighting,loop.example/g01062/impl.Sighting] as a plain function, and the contract of the program's: where the plain one has an answer, the program has it. Conditions: slices read as lists. -/
namespace Go.Proofs.Ytpaakpbbahbhcaa.GxSlicesIndexFuncLoopExampleG01062ImplSightingLoopExampleG01062ImplSightingiIndexOfSighting1
set_option linter.unusedVariables false
set_option linter.unusedSimpArgs false
open Go.RowKit
open Go.Proofs.Ytpaakpbbahbhcaa.Rowed Go.Proofs.Ytpaakpbbahbhcaa.Turn Go.Proofs.Ytpaakpbbahbhcaa.Aid Go.Proofs.Ytpaakpbbahbhcaa.GoP Go.Proofs.Ytpaakpbbahbhcaa.GoM

def l0 (s_0 : (List Go.Proofs.Ytpaakpbbahbhcaa.PSighting.Sighting)) (hf1_0 : Int) (k0 : Nat) (s : Unit) (nx0 bk0 : Unit → Option (Int)) : Option (Int) :=
  
  Option.bind (idx s_0 (k0 : Int)) fun (yt_10 : Go.Proofs.Ytpaakpbbahbhcaa.PSighting.Sighting) =>
  unSighting yt_10 fun (t_10_id : Int) (t_10_year : Int) (t_10_town : ByteArray) (t_10_traits : (List Int)) =>
  Option.bind (Go.Proofs.Ytpaakpbbahbhcaa.GiIndexOfSighting1.P t_10_id t_10_year t_10_town t_10_traits hf1_0) fun (t_12 : Bool) =>
  iteK t_12
  (some (k0 : Int))
  (appK nx0 ())

def e0  (s : Unit) : Option (Int) :=
  
  some (-1)

def P (s_0 : (List Go.Proofs.Ytpaakpbbahbhcaa.PSighting.Sighting)) (hf1_0 : Int) : Option (Int) :=
  cntK (l0 s_0 hf1_0) (s_0.length) 0 () (e0 )

set_option maxRecDepth 100000 in
set_option maxHeartbeats 2000000 in
theorem C (s_0 : (List Go.Proofs.Ytpaakpbbahbhcaa.PSighting.Sighting)) (hf1_0 : Int) (A0 : Option Addr) (c0 : Nat) (gf1_0 : Nat) (w : World) (M0 : Hid (Go.Proofs.Ytpaakpbbahbhcaa.GoV.ReadNest w Go.Proofs.Ytpaakpbbahbhcaa.GoVSighting.lay A0 s_0)) (N0 : Hid (s_0.length ≤ 9223372036854775807)) (Ff1_0h : Hid (w.cell? ⟨gf1_0, 0, none⟩ = some (.int .i64 hf1_0))) {r : Int} (H : Hid (P s_0 hf1_0 = some r)) :
    Calls Try.prog 83 #[.slice A0 s_0.length c0, .func (.func 84) #[] #[.pointer (some ⟨gf1_0, 0, none⟩)]] w (Gives (.int .i64 r) w) := by
  have HB := Lib.hid (Below.refl w.heap.size w)
  unfold P at H
  have N0o := N0.out
  have Ff1_0 := Ff1_0h.out
  go_enter Try.func83, Try.ntmps83
  go_wp2_with fail
  go_loopg [8] (s_0.length) (fun m_ v8_ wr => ∃ (k0 : Nat) , k0 + m_ = s_0.length ∧ v8_ = .int .i64 (k0 : Int) ∧ Hid (cntK (l0 s_0 hf1_0) m_ k0 () (e0 ) = some r) ∧ Hid (Below w.heap.size w wr) ∧ wr.cell? ⟨gf1_0, 0, none⟩ = some (.int .i64 hf1_0))
  case atStart => exact ⟨0, by omega, rfl, H, HB, Ff1_0⟩
  case round =>
    obtain ⟨k0, hkm0, rfl, H, HBwr0, Ff1_0⟩ := hrel
    rename World => wr0
    cases gk with
    | zero =>
      obtain rfl : k0 = s_0.length := by omega
      have hc0 : decide (((s_0.length : Nat) : Int) < ((s_0.length : Nat) : Int)) = false := by simp
      replace H := cnt_zero H
      unfold e0 at H
      obtain rfl := ret_hid H
      go_wp2_with fail
      go_ret
      exact ⟨rfl, HBwr0.out⟩
    | succ m0 =>
      have hlt0 : k0 < s_0.length := by omega
      have hc0 : decide ((k0 : Int) < ((s_0.length : Nat) : Int)) = true := by simp; omega
      replace H := cnt_succ H
      unfold l0 at H
      replace H := idx_hid H
      obtain ⟨nt_10, yt_10, et_10, lt_10, gt_10, H⟩ := H
      obtain rfl : k0 = nt_10 := by omega
      clear et_10
      obtain ⟨t_10_id, t_10_year, t_10_town, t_10_traits⟩ := yt_10
      replace H := unSighting_hid H
      obtain ⟨bbt_10, oot_10, zt_10, Art_10, crt_10, eAt_10, zzt_10, hKt_10, hrt_10, hqt_10, hnt_10⟩ := Go.Proofs.Ytpaakpbbahbhcaa.GoV.nest_at M0.out (k := k0) lt_10
      obtain rfl := Option.some.inj (gt_10.out.symm.trans zzt_10)
      clear zzt_10
      subst eAt_10
      have hct_10_0 : w.cell? ⟨bbt_10, oot_10 + k0 * 4, none⟩ = some (.int .i64 t_10_id) := hKt_10 0 _ rfl
      have hct_10_1 : w.cell? ⟨bbt_10, oot_10 + k0 * 4 + 1, none⟩ = some (.int .i64 t_10_year) := hKt_10 1 _ rfl
      have hct_10_2 : w.cell? ⟨bbt_10, oot_10 + k0 * 4 + 2, none⟩ = some (.string t_10_town) := hKt_10 2 _ rfl
      have hct_10_3 : w.cell? ⟨bbt_10, oot_10 + k0 * 4 + 3, none⟩ = some (.slice Art_10 t_10_traits.length crt_10) := hKt_10 3 _ rfl
      clear hKt_10
      have ltt_10 := cell_lt hct_10_0
      replace hct_10_0 := cell_below HBwr0.out hct_10_0
      replace hct_10_1 := cell_below HBwr0.out hct_10_1
      replace hct_10_2 := cell_below HBwr0.out hct_10_2
      replace hct_10_3 := cell_below HBwr0.out hct_10_3
      have Mrt_10 := Lib.hid hrt_10
      have Qrt_10 := Lib.hid hqt_10
      have Nrt_10 := Lib.hid hnt_10
      clear hrt_10 hqt_10 hnt_10
      have b0t_10 : (0 : Int) ≤ (k0 : Int) := by omega
      have b1t_10 : (k0 : Int) < ((s_0.length : Nat) : Int) := by omega
      have b2t_10 : ((k0 : Int)).toNat = k0 := by omega
      replace H := bind_hid H
      obtain ⟨t_12, qt_12, H⟩ := H
      go_wp2_with fail
      go_at_call 84
      refine (Go.Proofs.Ytpaakpbbahbhcaa.GiIndexOfSighting1.C (t_10_id) (t_10_year) (t_10_town) (t_10_traits) (hf1_0) Art_10 crt_10 (gf1_0) _   (Lib.hid (Cells.below Mrt_10.out HBwr0.out)) Nrt_10 (Lib.hid Ff1_0) qt_12).mono ?_
      rintro e_t_12 wt_12 ⟨rfl, bt_12⟩
      have HBwt_12 := Lib.hid (Below.step HBwr0.out bt_12)
      replace Ff1_0 := cell_below bt_12 Ff1_0
      replace hct_10_0 := cell_below bt_12 hct_10_0
      replace hct_10_1 := cell_below bt_12 hct_10_1
      replace hct_10_2 := cell_below bt_12 hct_10_2
      replace hct_10_3 := cell_below bt_12 hct_10_3
      clear bt_12
      cases t_12 with
      | false =>
        replace H := ite_f H
        replace H := app_hid H
        go_wp2_with fail
        go_roundg m0
        case measure => omega
        case rel => exact ⟨k0 + 1, by omega, by go_num, H, HBwt_12, Ff1_0⟩
      | true =>
        replace H := ite_t H
        obtain rfl := ret_hid H
        go_wp2_with fail
        go_ret
        exact ⟨rfl, HBwt_12.out⟩
end Go.Proofs.Ytpaakpbbahbhcaa.GxSlicesIndexFuncLoopExampleG01062ImplSightingLoopExampleG01062ImplSightingiIndexOfSighting1

/- loop.example/g01062/impl.indexOfSighting as a plain function, and the contract of the program's: where the plain one has an answer, the program has it. Conditions: slices read as lists. -/
namespace Go.Proofs.Ytpaakpbbahbhcaa.GiIndexOfSighting
set_option linter.unusedVariables false
set_option linter.unusedSimpArgs false
open Go.RowKit
open Go.Proofs.Ytpaakpbbahbhcaa.Rowed Go.Proofs.Ytpaakpbbahbhcaa.Turn Go.Proofs.Ytpaakpbbahbhcaa.Aid Go.Proofs.Ytpaakpbbahbhcaa.GoP Go.Proofs.Ytpaakpbbahbhcaa.GoM

def P (list : (List Go.Proofs.Ytpaakpbbahbhcaa.PSighting.Sighting)) (id : Int) : Option (Int) :=
  Option.bind (Go.Proofs.Ytpaakpbbahbhcaa.GiAreSightings.P list) fun (t_3 : Bool) =>
  letK (!t_3) fun (t_4 : Bool) =>
  iteK t_4
  (some (-1))
  (Option.bind (Go.Proofs.Ytpaakpbbahbhcaa.GxSlicesIndexFuncLoopExampleG01062ImplSightingLoopExampleG01062ImplSightingiIndexOfSighting1.P list id) fun (t_8 : Int) =>
  some t_8)

set_option maxRecDepth 100000 in
set_option maxHeartbeats 2000000 in
theorem C (list : (List Go.Proofs.Ytpaakpbbahbhcaa.PSighting.Sighting)) (id : Int) (A0 : Option Addr) (c0 : Nat)  (w : World) (M0 : Hid (Go.Proofs.Ytpaakpbbahbhcaa.GoV.ReadNest w Go.Proofs.Ytpaakpbbahbhcaa.GoVSighting.lay A0 list)) (N0 : Hid (list.length ≤ 9223372036854775807))  {r : Int} (H : Hid (P list id = some r)) :
    Calls Try.prog 53 #[.slice A0 list.length c0, .int .i64 id] w (Gives (.int .i64 r) w) := by
  have HB := Lib.hid (Below.refl w.heap.size w)
  unfold P at H
  have N0o := N0.out
  go_enter Try.func53, Try.ntmps53
  obtain ⟨w_id_0, hw_id_0⟩ : ∃ x, w.alloc (.cells #[.int .i64 id] 3) = x := ⟨_, rfl⟩
  have bw_id_0 : Below w.heap.size w w_id_0 := by rw [← hw_id_0]; exact (Below.refl _ _).alloc (Nat.le_refl _) _
  have HBw_id_0 := Lib.hid (Below.step HB.out bw_id_0)
  clear bw_id_0
  have kid_0_0 : w_id_0.cell? ⟨w.heap.size, 0, none⟩ = some (.int .i64 id) := by rw [← hw_id_0]; exact box_new _ _ _ 0 _ rfl
  replace H := bind_hid H
  obtain ⟨t_3, qt_3, H⟩ := H
  go_wp2_with fail
  go_at_call 28
  refine (Go.Proofs.Ytpaakpbbahbhcaa.GiAreSightings.C (list) A0 c0 _   (Lib.hid (Go.Proofs.Ytpaakpbbahbhcaa.GoV.read_below M0.out HBw_id_0.out)) N0 qt_3).mono ?_
  rintro e_t_3 wt_3 ⟨rfl, bt_3⟩
  have HBwt_3 := Lib.hid (Below.step HBw_id_0.out bt_3)
  replace kid_0_0 := cell_below bt_3 kid_0_0
  clear bt_3
  cases t_3 with
  | false =>
    replace H := let_hid H
    obtain ⟨t_4, ht_4, H⟩ := H
    obtain rfl : t_4 = true := ht_4.symm
    replace H := ite_t H
    obtain rfl := ret_hid H
    go_wp2_with fail
    go_ret
    exact ⟨rfl, HBwt_3.out⟩
  | true =>
    replace H := let_hid H
    obtain ⟨t_4, ht_4, H⟩ := H
    obtain rfl : t_4 = false := ht_4.symm
    replace H := ite_f H
    replace H := bind_hid H
    obtain ⟨t_8, qt_8, H⟩ := H
    go_wp2_with fail
    go_at_call 83
    refine (Go.Proofs.Ytpaakpbbahbhcaa.GxSlicesIndexFuncLoopExampleG01062ImplSightingLoopExampleG01062ImplSightingiIndexOfSighting1.C (list) (id) A0 c0 (w.heap.size) _   (Lib.hid (Go.Proofs.Ytpaakpbbahbhcaa.GoV.read_below M0.out HBwt_3.out)) N0 (Lib.hid kid_0_0) qt_8).mono ?_
    rintro e_t_8 wt_8 ⟨rfl, bt_8⟩
    have HBwt_8 := Lib.hid (Below.step HBwt_3.out bt_8)
    replace kid_0_0 := cell_below bt_8 kid_0_0
    clear bt_8
    obtain rfl := ret_hid H
    go_wp2_with fail
    go_ret
    exact ⟨rfl, HBwt_8.out⟩
end Go.Proofs.Ytpaakpbbahbhcaa.GiIndexOfSighting

/- slices.Index[[]int,int] as a plain function, and the contract of the program's: where the plain one has an answer, the program has it. Conditions: slices read as lists. -/
namespace Go.Proofs.Ytpaakpbbahbhcaa.GxSlicesIndexIntInt
set_option linter.unusedVariables false
set_option linter.unusedSimpArgs false
open Go.RowKit
open Go.Proofs.Ytpaakpbbahbhcaa.Rowed Go.Proofs.Ytpaakpbbahbhcaa.Turn Go.Proofs.Ytpaakpbbahbhcaa.Aid Go.Proofs.Ytpaakpbbahbhcaa.GoP Go.Proofs.Ytpaakpbbahbhcaa.GoM

def l0 (s_0 : (List Int)) (v : Int) (k0 : Nat) (s : Unit) (nx0 bk0 : Unit → Option (Int)) : Option (Int) :=
  
  Option.bind (idx s_0 (k0 : Int)) fun (yt_10 : Int) =>
  letK (v == yt_10) fun (t_12 : Bool) =>
  iteK t_12
  (some (k0 : Int))
  (appK nx0 ())

def e0  (s : Unit) : Option (Int) :=
  
  some (-1)

def P (s_0 : (List Int)) (v : Int) : Option (Int) :=
  cntK (l0 s_0 v) (s_0.length) 0 () (e0 )

set_option maxRecDepth 100000 in
set_option maxHeartbeats 2000000 in
theorem C (s_0 : (List Int)) (v : Int) (A0 : Option Addr) (c0 : Nat)  (w : World) (M0 : Hid (Cells w 1 A0 s_0.length (Go.Proofs.Ytpaakpbbahbhcaa.HelpInt.iv s_0))) (N0 : Hid (s_0.length ≤ 9223372036854775807))  {r : Int} (H : Hid (P s_0 v = some r)) :
    Calls Try.prog 100 #[.slice A0 s_0.length c0, .int .i64 v] w (Gives (.int .i64 r) w) := by
  have HB := Lib.hid (Below.refl w.heap.size w)
  unfold P at H
  have N0o := N0.out
  go_enter Try.func100, Try.ntmps100
  go_wp2_with fail
  go_loopg [8] (s_0.length) (fun m_ v8_ wr => ∃ (k0 : Nat) , k0 + m_ = s_0.length ∧ v8_ = .int .i64 (k0 : Int) ∧ Hid (cntK (l0 s_0 v) m_ k0 () (e0 ) = some r) ∧ Hid (Below w.heap.size w wr))
  case atStart => exact ⟨0, by omega, rfl, H, HB⟩
  case round =>
    obtain ⟨k0, hkm0, rfl, H, HBwr0⟩ := hrel
    rename World => wr0
    cases gk with
    | zero =>
      obtain rfl : k0 = s_0.length := by omega
      have hc0 : decide (((s_0.length : Nat) : Int) < ((s_0.length : Nat) : Int)) = false := by simp
      replace H := cnt_zero H
      unfold e0 at H
      obtain rfl := ret_hid H
      go_wp2_with fail
      go_ret
      exact ⟨rfl, HBwr0.out⟩
    | succ m0 =>
      have hlt0 : k0 < s_0.length := by omega
      have hc0 : decide ((k0 : Int) < ((s_0.length : Nat) : Int)) = true := by simp; omega
      replace H := cnt_succ H
      unfold l0 at H
      replace H := idx_hid H
      obtain ⟨nt_10, yt_10, et_10, lt_10, gt_10, H⟩ := H
      obtain rfl : k0 = nt_10 := by omega
      clear et_10
      obtain ⟨ab_t_10, ao_t_10, zt_10, At_10, z_t_10, ct_10_0⟩ := Go.Proofs.Ytpaakpbbahbhcaa.HelpInt.Ints.at_ M0.out lt_10
      obtain rfl := Option.some.inj (gt_10.out.symm.trans z_t_10)
      subst At_10
      have ltt_10 := cell_lt ct_10_0
      replace ct_10_0 := cell_below HBwr0.out ct_10_0
      clear z_t_10
      have b0t_10 : (0 : Int) ≤ (k0 : Int) := by omega
      have b1t_10 : (k0 : Int) < ((s_0.length : Nat) : Int) := by omega
      have b2t_10 : ((k0 : Int)).toNat = k0 := by omega
      replace H := let_hid H
      obtain ⟨t_12, ht_12, H⟩ := H
      cases t_12 with
      | false =>
        replace H := ite_f H
        replace H := app_hid H
        go_wp2_with fail
        go_roundg m0
        case measure => omega
        case rel => exact ⟨k0 + 1, by omega, by go_num, H, HBwr0⟩
      | true =>
        replace H := ite_t H
        obtain rfl := ret_hid H
        go_wp2_with fail
        go_ret
        exact ⟨rfl, HBwr0.out⟩
end Go.Proofs.Ytpaakpbbahbhcaa.GxSlicesIndexIntInt

/- slices.Contains[[]int,int] as a plain function, and the contract of the program's: where the plain one has an answer, the program has it. Conditions: slices read as lists. -/
namespace Go.Proofs.Ytpaakpbbahbhcaa.GxSlicesContainsIntInt
set_option linter.unusedVariables false
set_option linter.unusedSimpArgs false
open Go.RowKit
open Go.Proofs.Ytpaakpbbahbhcaa.Rowed Go.Proofs.Ytpaakpbbahbhcaa.Turn Go.Proofs.Ytpaakpbbahbhcaa.Aid Go.Proofs.Ytpaakpbbahbhcaa.GoP Go.Proofs.Ytpaakpbbahbhcaa.GoM

def P (s_0 : (List Int)) (v : Int) : Option (Bool) :=
  Option.bind (Go.Proofs.Ytpaakpbbahbhcaa.GxSlicesIndexIntInt.P s_0 v) fun (t_3 : Int) =>
  letK (decide (0 ≤ t_3)) fun (t_4 : Bool) =>
  some t_4

set_option maxRecDepth 100000 in
set_option maxHeartbeats 2000000 in
theorem C (s_0 : (List Int)) (v : Int) (A0 : Option Addr) (c0 : Nat)  (w : World) (M0 : Hid (Cells w 1 A0 s_0.length (Go.Proofs.Ytpaakpbbahbhcaa.HelpInt.iv s_0))) (N0 : Hid (s_0.length ≤ 9223372036854775807))  {r : Bool} (H : Hid (P s_0 v = some r)) :
    Calls Try.prog 86 #[.slice A0 s_0.length c0, .int .i64 v] w (Gives (.bool r) w) := by
  have HB := Lib.hid (Below.refl w.heap.size w)
  unfold P at H
  have N0o := N0.out
  go_enter Try.func86, Try.ntmps86
  replace H := bind_hid H
  obtain ⟨t_3, qt_3, H⟩ := H
  go_wp2_with fail
  go_at_call 100
  refine (Go.Proofs.Ytpaakpbbahbhcaa.GxSlicesIndexIntInt.C (s_0) (v) A0 c0 _   (Lib.hid (Cells.below M0.out HB.out)) N0 qt_3).mono ?_
  rintro e_t_3 wt_3 ⟨rfl, bt_3⟩
  have HBwt_3 := Lib.hid (Below.step HB.out bt_3)
  clear bt_3
  replace H := let_hid H
  obtain ⟨t_4, ht_4, H⟩ := H
  obtain rfl := ret_hid H
  go_wp2_with fail
  go_ret
  exact ⟨rfl, HBwt_3.out⟩
end Go.Proofs.Ytpaakpbbahbhcaa.GxSlicesContainsIntInt

/- loop.example/g01062/impl.evidence as a plain function, and the contract of the program's: where the plain one has an answer, the program has it. Conditions: slices read as lists. -/
namespace Go.Proofs.Ytpaakpbbahbhcaa.GiEvidence
set_option linter.unusedVariables false
set_option linter.unusedSimpArgs false
open Go.RowKit
open Go.Proofs.Ytpaakpbbahbhcaa.Rowed Go.Proofs.Ytpaakpbbahbhcaa.Turn Go.Proofs.Ytpaakpbbahbhcaa.Aid Go.Proofs.Ytpaakpbbahbhcaa.GoP Go.Proofs.Ytpaakpbbahbhcaa.GoM

def l0 (s_0_traits : (List Int)) (t_traits : (List Int)) (k0 : Nat) (s : Int) (nx0 bk0 : Int → Option (Int)) : Option (Int) :=
  letK s fun common_5l0 =>
  Option.bind (idx s_0_traits (k0 : Int)) fun (yt_9 : Int) =>
  Option.bind (Go.Proofs.Ytpaakpbbahbhcaa.GxSlicesContainsIntInt.P t_traits yt_9) fun (t_15 : Bool) =>
  iteK t_15
  (letK (IntKind.i64.wrap (common_5l0 + 1)) fun (t_17 : Int) =>
  appK nx0 (t_17))
  (appK nx0 (common_5l0))

def j0  (s : Int) : Option (Int) :=
  some s

def e0 (s_0_town : ByteArray) (s_0_traits : (List Int)) (t_town : ByteArray) (t_traits : (List Int)) (s : Int) : Option (Int) :=
  letK s fun common_5l0 =>
  letK (IntKind.i64.wrap ((s_0_traits.length : Int) + (t_traits.length : Int))) fun (t_27 : Int) =>
  letK (IntKind.i64.wrap (2 * common_5l0)) fun (t_29 : Int) =>
  letK (IntKind.i64.wrap (t_27 - t_29)) fun (t_30 : Int) =>
  letK (IntKind.i64.wrap (common_5l0 * 2)) fun (t_33 : Int) =>
  letK (IntKind.i64.wrap (t_30)) fun (t_35 : Int) =>
  letK (IntKind.i64.wrap (t_33 - t_35)) fun (t_36 : Int) =>
  letK (!(s_0_town.toList == t_town.toList)) fun (t_42 : Bool) =>
  iteK t_42
  (letK (IntKind.i64.wrap (t_36 - 10)) fun (t_44 : Int) =>
  j0  (t_44))
  (j0  (t_36))

def P (s_0_id : Int) (s_0_year : Int) (s_0_town : ByteArray) (s_0_traits : (List Int)) (t_id : Int) (t_year : Int) (t_town : ByteArray) (t_traits : (List Int)) : Option (Int) :=
  cntK (l0 s_0_traits t_traits) (s_0_traits.length) 0 (0) (e0 s_0_town s_0_traits t_town t_traits)

set_option maxRecDepth 100000 in
set_option maxHeartbeats 2000000 in
theorem C (s_0_id : Int) (s_0_year : Int) (s_0_town : ByteArray) (s_0_traits : (List Int)) (t_id : Int) (t_year : Int) (t_town : ByteArray) (t_traits : (List Int)) (A0_3 : Option Addr) (c0_3 : Nat) (A1_3 : Option Addr) (c1_3 : Nat)  (w : World) (M0_3 : Hid (Cells w 1 A0_3 s_0_traits.length (Go.Proofs.Ytpaakpbbahbhcaa.HelpInt.iv s_0_traits))) (N0_3 : Hid (s_0_traits.length ≤ 9223372036854775807)) (M1_3 : Hid (Cells w 1 A1_3 t_traits.length (Go.Proofs.Ytpaakpbbahbhcaa.HelpInt.iv t_traits))) (N1_3 : Hid (t_traits.length ≤ 9223372036854775807))  {r : Int} (H : Hid (P s_0_id s_0_year s_0_town s_0_traits t_id t_year t_town t_traits = some r)) :
    Calls Try.prog 59 #[.agg #[.int .i64 s_0_id, .int .i64 s_0_year, .string s_0_town, .slice A0_3 s_0_traits.length c0_3], .agg #[.int .i64 t_id, .int .i64 t_year, .string t_town, .slice A1_3 t_traits.length c1_3]] w (Gives (.int .i64 r) w) := by
  have HB := Lib.hid (Below.refl w.heap.size w)
  unfold P at H
  have N0_3o := N0_3.out
  have N1_3o := N1_3.out
  go_enter Try.func59, Try.ntmps59
  obtain ⟨w_s_0, hw_s_0⟩ : ∃ x, w.alloc (.cells #[.int .i64 s_0_id, .int .i64 s_0_year, .string s_0_town, .slice A0_3 s_0_traits.length c0_3] 67) = x := ⟨_, rfl⟩
  have bw_s_0 : Below w.heap.size w w_s_0 := by rw [← hw_s_0]; exact (Below.refl _ _).alloc (Nat.le_refl _) _
  have HBw_s_0 := Lib.hid (Below.step HB.out bw_s_0)
  clear bw_s_0
  have ks_0_0 : w_s_0.cell? ⟨w.heap.size, 0, none⟩ = some (.int .i64 s_0_id) := by rw [← hw_s_0]; exact box_new _ _ _ 0 _ rfl
  have ks_0_1 : w_s_0.cell? ⟨w.heap.size, 1, none⟩ = some (.int .i64 s_0_year) := by rw [← hw_s_0]; exact box_new _ _ _ 1 _ rfl
  have ks_0_2 : w_s_0.cell? ⟨w.heap.size, 2, none⟩ = some (.string s_0_town) := by rw [← hw_s_0]; exact box_new _ _ _ 2 _ rfl
  have ks_0_3 : w_s_0.cell? ⟨w.heap.size, 3, none⟩ = some (.slice A0_3 s_0_traits.length c0_3) := by rw [← hw_s_0]; exact box_new _ _ _ 3 _ rfl
  obtain ⟨w_t_1, hw_t_1⟩ : ∃ x, w_s_0.alloc (.cells #[.int .i64 t_id, .int .i64 t_year, .string t_town, .slice A1_3 t_traits.length c1_3] 67) = x := ⟨_, rfl⟩
  have bw_t_1 : Below w_s_0.heap.size w_s_0 w_t_1 := by rw [← hw_t_1]; exact (Below.refl _ _).alloc (Nat.le_refl _) _
  have HBw_t_1 := Lib.hid (Below.step HBw_s_0.out bw_t_1)
  have ks_0_0__125 := cell_below bw_t_1 ks_0_0
  have ks_0_1__126 := cell_below bw_t_1 ks_0_1
  have ks_0_2__127 := cell_below bw_t_1 ks_0_2
  have ks_0_3__128 := cell_below bw_t_1 ks_0_3
  clear bw_t_1
  have kt_1_0 : w_t_1.cell? ⟨w_s_0.heap.size, 0, none⟩ = some (.int .i64 t_id) := by rw [← hw_t_1]; exact box_new _ _ _ 0 _ rfl
  have kt_1_1 : w_t_1.cell? ⟨w_s_0.heap.size, 1, none⟩ = some (.int .i64 t_year) := by rw [← hw_t_1]; exact box_new _ _ _ 1 _ rfl
  have kt_1_2 : w_t_1.cell? ⟨w_s_0.heap.size, 2, none⟩ = some (.string t_town) := by rw [← hw_t_1]; exact box_new _ _ _ 2 _ rfl
  have kt_1_3 : w_t_1.cell? ⟨w_s_0.heap.size, 3, none⟩ = some (.slice A1_3 t_traits.length c1_3) := by rw [← hw_t_1]; exact box_new _ _ _ 3 _ rfl
  go_wp2_with fail
  clear ks_0_0 ks_0_1 ks_0_2 ks_0_3
  go_loopg [13, 5] (s_0_traits.length) (fun m_ v13_ v5_ wr => ∃ (k0 : Nat) (common_5l0 : Int), k0 + m_ = s_0_traits.length ∧ v13_ = .int .i64 (k0 : Int) ∧ v5_ = .int .i64 common_5l0 ∧ Hid (cntK (l0 s_0_traits t_traits) m_ k0 (common_5l0) (e0 s_0_town s_0_traits t_town t_traits) = some r) ∧ Hid (Below w.heap.size w wr) ∧ wr.cell? ⟨w.heap.size, 0, none⟩ = some (.int .i64 s_0_id) ∧ wr.cell? ⟨w.heap.size, 1, none⟩ = some (.int .i64 s_0_year) ∧ wr.cell? ⟨w.heap.size, 2, none⟩ = some (.string s_0_town) ∧ wr.cell? ⟨w.heap.size, 3, none⟩ = some (.slice A0_3 s_0_traits.length c0_3) ∧ wr.cell? ⟨w_s_0.heap.size, 0, none⟩ = some (.int .i64 t_id) ∧ wr.cell? ⟨w_s_0.heap.size, 1, none⟩ = some (.int .i64 t_year) ∧ wr.cell? ⟨w_s_0.heap.size, 2, none⟩ = some (.string t_town) ∧ wr.cell? ⟨w_s_0.heap.size, 3, none⟩ = some (.slice A1_3 t_traits.length c1_3))
  case atStart => exact ⟨0, _, by omega, rfl, rfl, H, HBw_t_1, ks_0_0__125, ks_0_1__126, ks_0_2__127, ks_0_3__128, kt_1_0, kt_1_1, kt_1_2, kt_1_3⟩
  case round =>
    obtain ⟨k0, common_5l0, hkm0, rfl, rfl, H, HBwr0, ks_0_0__125, ks_0_1__126, ks_0_2__127, ks_0_3__128, kt_1_0, kt_1_1, kt_1_2, kt_1_3⟩ := hrel
    rename World => wr0
    cases gk with
    | zero =>
      obtain rfl : k0 = s_0_traits.length := by omega
      have hc0 : decide (((s_0_traits.length : Nat) : Int) < ((s_0_traits.length : Nat) : Int)) = false := by simp
      replace H := cnt_zero H
      unfold e0 at H
      replace H := let_hid H
      obtain ⟨_, rfl, H⟩ := H
      replace H := let_hid H
      obtain ⟨t_27, ht_27, H⟩ := H
      replace H := let_hid H
      obtain ⟨t_29, ht_29, H⟩ := H
      replace H := let_hid H
      obtain ⟨t_30, ht_30, H⟩ := H
      replace H := let_hid H
      obtain ⟨t_33, ht_33, H⟩ := H
      replace H := let_hid H
      obtain ⟨t_35, ht_35, H⟩ := H
      replace H := let_hid H
      obtain ⟨t_36, ht_36, H⟩ := H
      replace H := let_hid H
      obtain ⟨t_42, ht_42, H⟩ := H
      cases t_42 with
      | false =>
        replace H := ite_f H
        unfold j0 at H
        obtain rfl := ret_hid H
        go_wp2_with fail
        go_ret
        exact ⟨rfl, HBwr0.out⟩
      | true =>
        replace H := ite_t H
        replace H := let_hid H
        obtain ⟨t_44, ht_44, H⟩ := H
        unfold j0 at H
        obtain rfl := ret_hid H
        go_wp2_with fail
        go_ret
        exact ⟨rfl, HBwr0.out⟩
    | succ m0 =>
      have hlt0 : k0 < s_0_traits.length := by omega
      have hc0 : decide ((k0 : Int) < ((s_0_traits.length : Nat) : Int)) = true := by simp; omega
      replace H := cnt_succ H
      unfold l0 at H
      replace H := let_hid H
      obtain ⟨_, rfl, H⟩ := H
      replace H := idx_hid H
      obtain ⟨nt_9, yt_9, et_9, lt_9, gt_9, H⟩ := H
      obtain rfl : k0 = nt_9 := by omega
      clear et_9
      obtain ⟨ab_t_9, ao_t_9, zt_9, At_9, z_t_9, ct_9_0⟩ := Go.Proofs.Ytpaakpbbahbhcaa.HelpInt.Ints.at_ M0_3.out lt_9
      obtain rfl := Option.some.inj (gt_9.out.symm.trans z_t_9)
      subst At_9
      have ltt_9 := cell_lt ct_9_0
      replace ct_9_0 := cell_below HBwr0.out ct_9_0
      clear z_t_9
      have b0t_9 : (0 : Int) ≤ (k0 : Int) := by omega
      have b1t_9 : (k0 : Int) < ((s_0_traits.length : Nat) : Int) := by omega
      have b2t_9 : ((k0 : Int)).toNat = k0 := by omega
      replace H := bind_hid H
      obtain ⟨t_15, qt_15, H⟩ := H
      go_wp2_with fail
      go_at_call 86
      refine (Go.Proofs.Ytpaakpbbahbhcaa.GxSlicesContainsIntInt.C (t_traits) (yt_9) A1_3 c1_3 _   (Lib.hid (Cells.below M1_3.out HBwr0.out)) N1_3 qt_15).mono ?_
      rintro e_t_15 wt_15 ⟨rfl, bt_15⟩
      have HBwt_15 := Lib.hid (Below.step HBwr0.out bt_15)
      replace ks_0_0__125 := cell_below bt_15 ks_0_0__125
      replace ks_0_1__126 := cell_below bt_15 ks_0_1__126
      replace ks_0_2__127 := cell_below bt_15 ks_0_2__127
      replace ks_0_3__128 := cell_below bt_15 ks_0_3__128
      replace kt_1_0 := cell_below bt_15 kt_1_0
      replace kt_1_1 := cell_below bt_15 kt_1_1
      replace kt_1_2 := cell_below bt_15 kt_1_2
      replace kt_1_3 := cell_below bt_15 kt_1_3
      replace ct_9_0 := cell_below bt_15 ct_9_0
      clear bt_15
      cases t_15 with
      | false =>
        replace H := ite_f H
        replace H := app_hid H
        go_wp2_with fail
        go_roundg m0
        case measure => omega
        case rel => exact ⟨k0 + 1, _, by omega, by go_num, rfl, H, HBwt_15, ks_0_0__125, ks_0_1__126, ks_0_2__127, ks_0_3__128, kt_1_0, kt_1_1, kt_1_2, kt_1_3⟩
      | true =>
        replace H := ite_t H
        replace H := let_hid H
        obtain ⟨t_17, ht_17, H⟩ := H
        replace H := app_hid H
        go_wp2_with fail
        go_roundg m0
        case measure => omega
        case rel => exact ⟨k0 + 1, _, by omega, by go_num, rfl, H, HBwt_15, ks_0_0__125, ks_0_1__126, ks_0_2__127, ks_0_3__128, kt_1_0, kt_1_1, kt_1_2, kt_1_3⟩
end Go.Proofs.Ytpaakpbbahbhcaa.GiEvidence

/- Chapter 13: censuses: the plain functions of the program and of the reference agree, and the laws answer true. (Q13Find) No condition but those of each theorem. -/
namespace Go.Proofs.Ytpaakpbbahbhcaa.Q13Find
set_option linter.unusedVariables false
set_option linter.unusedSimpArgs false
open Go.RowKit
open Go.Proofs.Ytpaakpbbahbhcaa.GoP Go.Proofs.Ytpaakpbbahbhcaa.PlainStamp Go.Proofs.Ytpaakpbbahbhcaa.QBase Go.Proofs.Ytpaakpbbahbhcaa.Q13List Go.Proofs.Ytpaakpbbahbhcaa.Q13One Go.Proofs.Ytpaakpbbahbhcaa.QUp Go.Proofs.Ytpaakpbbahbhcaa.QLoop Go.Proofs.Ytpaakpbbahbhcaa.PSighting

def hasId (n : Int) (x : Sighting) : Bool := x.id == n
/-- the index of the sighting with an id, or -1 -/
def fnd (l : List Sighting) (n : Int) : Int := match l.findIdx? (hasId n) with | some i => (i : Int) | none => -1
theorem find_cases (l : List Sighting) (n : Int) : (∃ (i : Nat) (x : Sighting), fnd l n = (i : Int) ∧ l[i]? = some x ∧ x.id = n ∧ ∀ (j : Nat) (y : Sighting), j < i → l[j]? = some y → y.id ≠ n) ∨ (fnd l n = -1 ∧ ∀ x ∈ l, x.id ≠ n) := by
  unfold fnd
  cases h : l.findIdx? (hasId n) with
  | none =>
    refine .inr ⟨rfl, fun x hx e => ?_⟩
    have := List.findIdx?_eq_none_iff.1 h x hx
    simp [hasId, e] at this
  | some i =>
    obtain ⟨hi, hp, hj⟩ := List.findIdx?_eq_some_iff_getElem.1 h
    refine .inl ⟨i, l[i], rfl, List.getElem?_eq_getElem hi, by simpa [hasId] using hp, fun j y hji hy e => ?_⟩
    have := hj j hji
    rw [List.getElem?_eq_getElem (by omega)] at hy
    rw [Option.some.inj hy] at this
    simp [hasId, e] at this
theorem find_loop {R : Type} {l : List Sighting} {n : Int} {f : Nat → Unit → (Unit → Option Int) → (Unit → Option Int) → Option Int} {fin : Unit → Option Int} (hfin : fin () = some (-1))
    (step : ∀ k nx x, l[k]? = some x → f k () nx fin = if x.id == n then some (k : Int) else nx ()) : cntK f l.length 0 () fin = some (fnd l n) := by
  have key : ∀ m k, k + m = l.length → (∀ i y, i < k → l[i]? = some y → y.id ≠ n) → cntK f m k () fin = some (fnd l n) := by
    intro m
    induction m with
    | zero =>
      intro k hk hno
      have : fnd l n = -1 := by
        rcases find_cases l n with ⟨i, x, h1, h2, h3, _⟩ | h
        · exact absurd h3 (hno i x (by have := (List.getElem?_eq_some_iff.1 h2).1; omega) h2)
        · exact h.1
      rw [this]; exact hfin
    | succ m ih =>
      intro k hk hno
      obtain ⟨x, hx, _⟩ := at_lt (l := l) (k := k) (by omega)
      show f k () _ fin = _
      rw [step k _ x hx]
      by_cases he : x.id = n
      · rw [if_pos (by simpa using he)]
        congr 1
        rcases find_cases l n with ⟨i, y, h1, h2, h3, h4⟩ | h
        · rw [h1]
          rcases Nat.lt_trichotomy i k with h5 | h5 | h5
          · exact absurd h3 (hno i y h5 h2)
          · omega
          · exact absurd he (h4 k x h5 hx)
        · exact absurd he (h.2 x (List.mem_of_getElem? hx))
      · rw [if_neg (by simpa using he)]
        refine ih (k + 1) (by omega) (fun i y hi' hy => ?_)
        by_cases hik : i = k
        · subst hik; rw [hx] at hy; rw [← Option.some.inj hy]; exact he
        · exact hno i y (by omega) hy
  exact key l.length 0 (by omega) (fun i y h => by omega)
theorem l13Find_eq (l : List Sighting) (n : Int) : GsL13Find.P l n = some (fnd l n) := by
  simp only [GsL13Find.P]
  refine find_loop (R := Unit) (by rfl) (fun k nx x hx => ?_)
  have hi : idx l (k : Int) = some x := by rw [idx_nat, hx]
  simp only [GsL13Find.l0, hi, Option.bind_some, unSighting, letK, appK, iteK_if]
theorem indexOf_eq (l : List Sighting) (n : Int) : GiIndexOfSighting.P l n = some (if okSis l = true then fnd l n else -1) := by
  have h1 : GxSlicesIndexFuncLoopExampleG01062ImplSightingLoopExampleG01062ImplSightingiIndexOfSighting1.P l n = some (fnd l n) := by
    simp only [GxSlicesIndexFuncLoopExampleG01062ImplSightingLoopExampleG01062ImplSightingiIndexOfSighting1.P]
    refine find_loop (R := Unit) (by rfl) (fun k nx x hx => ?_)
    have hi : idx l (k : Int) = some x := by rw [idx_nat, hx]
    simp only [GxSlicesIndexFuncLoopExampleG01062ImplSightingLoopExampleG01062ImplSightingiIndexOfSighting1.l0, GiIndexOfSighting1.P, hi, Option.bind_some, unSighting, letK, appK, iteK_if]
  simp only [GiIndexOfSighting.P, areSightings_eq, h1, Option.bind_some, letK, iteK_if]
  cases okSis l <;> simp
end Go.Proofs.Ytpaakpbbahbhcaa.Q13Find

/- Chapter 13: censuses: the plain functions of the program and of the reference agree, and the laws answer true. (Q13Has) No condition but those of each theorem. -/
namespace Go.Proofs.Ytpaakpbbahbhcaa.Q13Has
set_option linter.unusedVariables false
set_option linter.unusedSimpArgs false
open Go.RowKit
open Go.Proofs.Ytpaakpbbahbhcaa.GoP Go.Proofs.Ytpaakpbbahbhcaa.PlainStamp Go.Proofs.Ytpaakpbbahbhcaa.QBase Go.Proofs.Ytpaakpbbahbhcaa.QLoop

theorem has_eq (l : List Int) (n : Int) : GsL1Has.P l n = some (decide (n ∈ l)) := by
  simp only [GsL1Has.P]
  have key : ∀ m k, k + m = l.length → (∀ i y, i < k → l[i]? = some y → y ≠ n) → cntK (GsL1Has.l0 l n) m k () (GsL1Has.e0) = some (decide (n ∈ l)) := by
    intro m
    induction m with
    | zero =>
      intro k hk hno
      have : ¬ n ∈ l := fun hm => by
        obtain ⟨i, hi⟩ := List.getElem?_of_mem hm
        exact hno i n (by have := (List.getElem?_eq_some_iff.1 hi).1; omega) hi rfl
      simp [cntK, GsL1Has.e0, this]
    | succ m ih =>
      intro k hk hno
      obtain ⟨x, hx, hi⟩ := at_lt (l := l) (k := k) (by omega)
      show GsL1Has.l0 l n k () _ _ = _
      simp only [GsL1Has.l0, hi, Option.bind_some, letK, appK, iteK_if]
      by_cases he : x = n
      · rw [if_pos (by simpa using he)]
        have : n ∈ l := he ▸ List.mem_of_getElem? hx
        simp [this]
      · rw [if_neg (by simpa using he)]
        refine ih (k + 1) (by omega) (fun i y hi' hy => ?_)
        by_cases hik : i = k
        · subst hik; rw [hx] at hy; exact fun e => he (by rw [Option.some.inj hy]; exact e)
        · exact hno i y (by omega) hy
  exact key l.length 0 (by omega) (fun i y h => by omega)
theorem contains_eq (l : List Int) (n : Int) : GxSlicesContainsIntInt.P l n = some (decide (n ∈ l)) := by
  simp only [GxSlicesContainsIntInt.P, GxSlicesIndexIntInt.P]
  have key : ∀ m k, k + m = l.length → (∀ i y, i < k → l[i]? = some y → y ≠ n) → ∃ r, cntK (GxSlicesIndexIntInt.l0 l n) m k () (GxSlicesIndexIntInt.e0) = some r ∧ decide (0 ≤ r) = decide (n ∈ l) := by
    intro m
    induction m with
    | zero =>
      intro k hk hno
      have : ¬ n ∈ l := fun hm => by
        obtain ⟨i, hi⟩ := List.getElem?_of_mem hm
        exact hno i n (by have := (List.getElem?_eq_some_iff.1 hi).1; omega) hi rfl
      exact ⟨-1, rfl, by simp [this]⟩
    | succ m ih =>
      intro k hk hno
      obtain ⟨x, hx, hi⟩ := at_lt (l := l) (k := k) (by omega)
      show ∃ r, GxSlicesIndexIntInt.l0 l n k () _ _ = some r ∧ _
      simp only [GxSlicesIndexIntInt.l0, hi, Option.bind_some, letK, appK, iteK_if]
      by_cases he : x = n
      · rw [if_pos (by simpa using he.symm)]
        have : n ∈ l := he ▸ List.mem_of_getElem? hx
        exact ⟨_, rfl, by simp [this]⟩
      · rw [if_neg (by simpa using fun e => he e.symm)]
        refine ih (k + 1) (by omega) (fun i y hi' hy => ?_)
        by_cases hik : i = k
        · subst hik; rw [hx] at hy; exact fun e => he (by rw [Option.some.inj hy]; exact e)
        · exact hno i y (by omega) hy
  obtain ⟨r, h1, h2⟩ := key l.length 0 (by omega) (fun i y h => by omega)
  rw [h1]
  simp [letK, h2]
end Go.Proofs.Ytpaakpbbahbhcaa.Q13Has

/- Chapter 13: censuses: the plain functions of the program and of the reference agree, and the laws answer true. (Q13Ev) No condition but those of each theorem. -/
namespace Go.Proofs.Ytpaakpbbahbhcaa.Q13Ev
set_option linter.unusedVariables false
set_option linter.unusedSimpArgs false
open Go.RowKit
open Go.Proofs.Ytpaakpbbahbhcaa.GoP Go.Proofs.Ytpaakpbbahbhcaa.PlainStamp Go.Proofs.Ytpaakpbbahbhcaa.QBase Go.Proofs.Ytpaakpbbahbhcaa.Q1Rise Go.Proofs.Ytpaakpbbahbhcaa.Q13One Go.Proofs.Ytpaakpbbahbhcaa.Q13Has Go.Proofs.Ytpaakpbbahbhcaa.QUp Go.Proofs.Ytpaakpbbahbhcaa.QLoop Go.Proofs.Ytpaakpbbahbhcaa.PSighting

def comm (a b : List Int) : Nat := (a.filter fun t => decide (t ∈ b)).length
def ev (x y : Sighting) : Int := 4 * (comm x.traits y.traits : Int) - (x.traits.length : Int) - (y.traits.length : Int) - (if x.town = y.town then 0 else 10)
theorem comm_le (a b : List Int) : comm a b ≤ a.length := List.length_filter_le _ _
theorem rise_nodup {lo hi : Int} {l : List Int} (h : rise lo hi l = true) : l.Nodup := by
  rw [List.nodup_iff_pairwise_ne, List.pairwise_iff_getElem]
  intro i j hi' hj hij e
  have := up_less (id := fun n : Int => n) (show upTo (fun n => inB n lo hi) (fun n => n) l l.length = true from h) hij (List.getElem?_eq_getElem hi') (List.getElem?_eq_getElem hj)
  omega
theorem nodup_len : ∀ {a b : List Int}, a.Nodup → (∀ x ∈ a, x ∈ b) → a.length ≤ b.length := by
  intro a
  induction a with
  | nil => intro b _ _; simp
  | cons x a ih =>
    intro b hn h
    have hx := h x (by simp)
    have hn' := List.nodup_cons.1 hn
    have := ih (b := b.erase x) hn'.2 (fun y hy => (List.mem_erase_of_ne (fun e => hn'.1 (by rw [← e]; exact hy))).2 (h y (List.mem_cons_of_mem _ hy)))
    rw [List.length_erase_of_mem hx] at this
    have := List.length_pos_of_mem hx
    rw [List.length_cons]
    omega
theorem comm_le' {a b : List Int} (h : rise 1 50 a = true) : comm a b ≤ b.length := by
  unfold comm
  refine nodup_len ((rise_nodup h).filter _) fun x hx => ?_
  have := (List.mem_filter.1 hx).2
  simpa using this
theorem comm_next {a b : List Int} {k : Nat} {x : Int} (h : a[k]? = some x) : comm (a.take (k + 1)) b = comm (a.take k) b + (if x ∈ b then 1 else 0) := by
  unfold comm
  rw [take_next h, List.filter_append, List.length_append]
  by_cases hx : x ∈ b <;> simp [hx]
theorem town_ne (a b : ByteArray) : (!(a.toList == b.toList)) = !decide (a = b) := by
  congr 1
  by_cases h : a = b
  · subst h; simp
  · have : ¬ a.toList = b.toList := fun e => h (by
      apply ByteArray.ext
      have h1 := Lib.toList_data a
      have h2 := Lib.toList_data b
      rw [h1, h2] at e
      exact Array.toList_inj.1 e)
    simp [h, this]
theorem evidence_eq (x y : Sighting) (hx : x.traits.length ≤ 1000) (hy : y.traits.length ≤ 1000) : GiEvidence.P x.id x.year x.town x.traits y.id y.year y.town y.traits = some (ev x y) := by
  simp only [GiEvidence.P]
  refine cnt_is _ (fun k (s : Int) => s = (comm (x.traits.take k) y.traits : Int)) ?_ ?_ 0 rfl
  · intro k s nx hk hI hn
    obtain ⟨t, ht, hi⟩ := at_lt (l := x.traits) (k := k) hk
    have hc := comm_next (b := y.traits) ht
    have hle := comm_le (x.traits.take k) y.traits
    have hle2 : (x.traits.take k).length ≤ x.traits.length := by rw [List.length_take]; omega
    simp only [GiEvidence.l0, hi, Option.bind_some, contains_eq, letK, appK, iteK_if]
    by_cases hm : t ∈ y.traits
    · rw [if_pos (by simpa using hm)]
      rw [wrap_in (by omega) (by omega)]
      refine hn _ ?_
      rw [hc, if_pos hm, hI]; omega
    · rw [if_neg (by simpa using hm)]
      refine hn _ ?_
      rw [hc, if_neg hm, hI]; omega
  · intro s hI
    rw [List.take_of_length_le (Nat.le_refl _)] at hI
    have hle := comm_le x.traits y.traits
    simp only [GiEvidence.e0, GiEvidence.j0, letK, iteK_if, town_ne]
    have w1 := wrap_in (x := (x.traits.length : Int) + (y.traits.length : Int)) (by omega) (by omega)
    have w2 := wrap_in (x := 2 * s) (by omega) (by omega)
    have w3 := wrap_in (x := (x.traits.length : Int) + (y.traits.length : Int) - 2 * s) (by omega) (by omega)
    have w4 := wrap_in (x := s * 2) (by omega) (by omega)
    have w5 := wrap_in (x := s * 2 - ((x.traits.length : Int) + (y.traits.length : Int) - 2 * s)) (by omega) (by omega)
    have w6 := wrap_in (x := s * 2 - ((x.traits.length : Int) + (y.traits.length : Int) - 2 * s) - 10) (by omega) (by omega)
    rw [w1, w2, w3, w4, w3, w5, w6]
    unfold ev
    by_cases ht : x.town = y.town
    · rw [if_neg (by simp [ht]), if_pos ht, hI]; congr 1; omega
    · rw [if_pos (by simp [ht]), if_neg ht, hI]; congr 1; omega
theorem l13Evidence_eq (x y : Sighting) (hx : x.traits.length ≤ 1000) (hy : y.traits.length ≤ 1000) (fuel : Nat) (hfu : 2000 ≤ fuel) : GsL13Evidence.P fuel x.id x.year x.town x.traits y.id y.year y.town y.traits = some (ev x y) := by
  simp only [GsL13Evidence.P]
  refine lp_is (n := x.traits.length) _ (fun k (s : Int × Int) => s = ((comm (x.traits.take k) y.traits : Int), (k : Int))) ?_ ?_ fuel 0 _ (by omega) (by omega) rfl
  · rintro k s nx hk rfl hn
    obtain ⟨t, ht, hi⟩ := at_lt (l := x.traits) (k := k) hk
    have hc := comm_next (b := y.traits) ht
    have hle := comm_le (x.traits.take k) y.traits
    have hle2 : (x.traits.take k).length ≤ x.traits.length := by rw [List.length_take]; omega
    have w1 := wrap_in (x := (k : Int) + 1) (by omega) (by omega)
    have w2 := wrap_in (x := (comm (x.traits.take k) y.traits : Int) + 1) (by omega) (by omega)
    simp only [GsL13Evidence.l0, unp2, hi, Option.bind_some, has_eq, letK, appK, iteK_if, w1, w2]
    rw [if_pos (by simp; omega)]
    by_cases hm : t ∈ y.traits
    · rw [if_pos (by simpa using hm)]
      refine hn _ ?_
      rw [hc, if_pos hm]; simp
    · rw [if_neg (by simpa using hm)]
      refine hn _ ?_
      rw [hc, if_neg hm]; simp
  · rintro s nx rfl
    rw [List.take_of_length_le (Nat.le_refl _)]
    have hle := comm_le x.traits y.traits
    have w1 := wrap_in (x := 2 * (comm x.traits y.traits : Int)) (by omega) (by omega)
    have w2 := wrap_in (x := (x.traits.length : Int) - (comm x.traits y.traits : Int)) (by omega) (by omega)
    have w3 := wrap_in (x := 2 * (comm x.traits y.traits : Int) - ((x.traits.length : Int) - (comm x.traits y.traits : Int))) (by omega) (by omega)
    have w4 := wrap_in (x := (y.traits.length : Int) - (comm x.traits y.traits : Int)) (by omega) (by omega)
    have w5 := wrap_in (x := 2 * (comm x.traits y.traits : Int) - ((x.traits.length : Int) - (comm x.traits y.traits : Int)) - ((y.traits.length : Int) - (comm x.traits y.traits : Int))) (by omega) (by omega)
    have w6 := wrap_in (x := 2 * (comm x.traits y.traits : Int) - ((x.traits.length : Int) - (comm x.traits y.traits : Int)) - ((y.traits.length : Int) - (comm x.traits y.traits : Int)) - 10) (by omega) (by omega)
    simp only [GsL13Evidence.l0, unp2, letK, appK, iteK_if]
    rw [if_neg (by simp)]
    simp only [GsL13Evidence.e0, GsL13Evidence.j0, unp2, letK, iteK_if, town_ne, w1, w2, w3, w4, w5, w6]
    unfold ev
    by_cases ht : x.town = y.town
    · rw [if_neg (by simp [ht]), if_pos ht]; congr 1; omega
    · rw [if_pos (by simp [ht]), if_neg ht]; congr 1; omega
theorem ev_ge {x y : Sighting} (hx : x.traits.length ≤ 8) (hy : y.traits.length ≤ 8) : -26 ≤ ev x y ∧ ev x y ≤ 24 := by
  unfold ev
  have := comm_le x.traits y.traits
  by_cases h : x.town = y.town
  · rw [if_pos h]; omega
  · rw [if_neg h]; omega
end Go.Proofs.Ytpaakpbbahbhcaa.Q13Ev

/- loop.example/g01062/spec.l13Limit as a plain function, and the contract of the program's: where the plain one has an answer, the program has it. Conditions: slices read as lists. -/
namespace Go.Proofs.Ytpaakpbbahbhcaa.GsL13Limit
set_option linter.unusedVariables false
set_option linter.unusedSimpArgs false
open Go.RowKit
open Go.Proofs.Ytpaakpbbahbhcaa.Rowed Go.Proofs.Ytpaakpbbahbhcaa.Turn Go.Proofs.Ytpaakpbbahbhcaa.Aid Go.Proofs.Ytpaakpbbahbhcaa.GoP Go.Proofs.Ytpaakpbbahbhcaa.GoM

def P (n_0 : Int) : Option (Bool) :=
  Option.bind (Go.Proofs.Ytpaakpbbahbhcaa.GsL1In.P n_0 (-30) 16) fun (t_2 : Bool) =>
  some t_2

set_option maxRecDepth 100000 in
set_option maxHeartbeats 2000000 in
theorem C (n_0 : Int)   (w : World)   {r : Bool} (H : Hid (P n_0 = some r)) :
    Calls Try.prog 65 #[.int .i64 n_0] w (Gives (.bool r) w) := by
  have HB := Lib.hid (Below.refl w.heap.size w)
  unfold P at H
  go_enter Try.func65, Try.ntmps65
  replace H := bind_hid H
  obtain ⟨t_2, qt_2, H⟩ := H
  go_wp2_with fail
  go_at_call 92
  refine (Go.Proofs.Ytpaakpbbahbhcaa.GsL1In.C (n_0) ((-30)) (16)  _    qt_2).mono ?_
  rintro e_t_2 wt_2 ⟨rfl, bt_2⟩
  have HBwt_2 := Lib.hid (Below.step HB.out bt_2)
  clear bt_2
  obtain rfl := ret_hid H
  go_wp2_with fail
  go_ret
  exact ⟨rfl, HBwt_2.out⟩
end Go.Proofs.Ytpaakpbbahbhcaa.GsL13Limit

/- An append onto a row of its own as one step of a region that draws its order. No condition. -/
namespace Go.Proofs.Ytpaakpbbahbhcaa.GoH
set_option linter.unusedVariables false
theorem step_append_own {P : Program} {w : World} {ops : Array Oper} {o : Oper} {a : Act} {K : Act → World → Prop} {Q : Exit → Act → World → Prop} {E : Prop} (hgd : o.guard = none) (s x : Operand) (t : TypeId)
    (ho : o.op = .call { callee := .builtin .append, args := #[s, x], argTypes := #[t, t] })
    (base : Nat) (e : TypeId) (i : TypeInfo) (z : Value) (size bytes : Nat) (ht : P.underlying t = some (.slice e)) (hi : P.info? e = some i) (hz : i.zero = some z)
    (hsize : i.size = size) (hby : i.bytes = bytes) (hzs : z.cells.size = size) (hsz : 0 < size)
    (A : Option Addr) (c n : Nat) (xs : List Value) (hs : a.eval s = .slice A n c) (hown : w.ownsRow base e size (.slice A n c) n xs)
    (ad : Addr) (cc : Nat) (news : List Value) (hx : a.eval x = .slice (some ad) 1 cc) (hl : news.length = 1 * size) (hnews : ∀ j u, news[j]? = some u → w.cell? (ad.add j) = some u) (h1 : ∀ u ∈ news, u.oneCell' = true)
    (h63 : n + 1 ≤ maxLen) (hbytes : (n + 1) * bytes ≤ 140737488355328) (hbase : base ≤ w.heap.size)
    (h : ∀ v' w', w'.ownsRow base e size v' (n + 1) (xs ++ news) → w.grownBy w' (Value.slice A n c).ownBlock → (v'.ownBlock = (Value.slice A n c).ownBlock ∨ v'.ownBlock = some w.heap.size) → K (a.put o.dst v') w') :
    if Region.wanted o (yielded ops a.tmps) = true then Oper.wp P o a w K Q else E := by
  refine Go.step_append_lies w hgd s x t ho base e i z size bytes ht hi hz hsize hby hzs hsz (.slice A n c) n xs hs hown ad 1 cc news hx hl hnews h1 (by omega) h63 hbytes hbase w.heap.size rfl ?_
  intro g cap w' o1 g1 y1 _
  refine h _ w' o1 g1 ?_
  rcases y1 with y1 | y1
  · left; rw [y1]; rfl
  · right; rw [y1]; rfl
/-- append(a, b...) onto a row of its own as one step of such a region -/
theorem step_spread_own {P : Program} {w : World} {ops : Array Oper} {o : Oper} {a : Act} {K : Act → World → Prop} {Q : Exit → Act → World → Prop} {E : Prop} (hgd : o.guard = none) (s x : Operand) (t : TypeId)
    (ho : o.op = .call { callee := .builtin .append, args := #[s, x], argTypes := #[t, t] })
    (base : Nat) (e : TypeId) (i : TypeInfo) (z : Value) (size bytes : Nat) (ht : P.underlying t = some (.slice e)) (hi : P.info? e = some i) (hz : i.zero = some z)
    (hsize : i.size = size) (hby : i.bytes = bytes) (hzs : z.cells.size = size) (hsz : 0 < size)
    (A1 : Option Addr) (c1 n : Nat) (xs : List Value) (hs : a.eval s = .slice A1 n c1) (hown : w.ownsRow base e size (.slice A1 n c1) n xs)
    (A : Option Addr) (m c : Nat) (news : List Value) (hx : a.eval x = .slice A m c) (hN : Go.Proofs.Ytpaakpbbahbhcaa.GoM.Room A m c) (hc : Go.Proofs.Ytpaakpbbahbhcaa.Rowed.Cells w size A m news) (h1 : ∀ u ∈ news, u.oneCell' = true)
    (h63 : n + m ≤ maxLen) (hbytes : (n + m) * bytes ≤ 140737488355328) (hbase : base ≤ w.heap.size)
    (h : ∀ v' w', w'.ownsRow base e size v' (n + m) (xs ++ news) → w.grownBy w' (Value.slice A1 n c1).ownBlock → (v'.ownBlock = (Value.slice A1 n c1).ownBlock ∨ v'.ownBlock = some w.heap.size) → K (a.put o.dst v') w') :
    if Region.wanted o (yielded ops a.tmps) = true then Oper.wp P o a w K Q else E := by
  have hw : Region.wanted o (yielded ops a.tmps) = true := by simp [Region.wanted, hgd]
  rw [if_pos hw]
  obtain ⟨v', w', hr, h2, h3, h5⟩ : ∃ v' w', (Builtin.append_ #[t, t] o.type #[.slice A1 n c1, .slice A m c]).run P w = .ok v' w' ∧ w'.ownsRow base e size v' (n + m) (xs ++ news) ∧ w.grownBy w' (Value.slice A1 n c1).ownBlock ∧ (v'.ownBlock = (Value.slice A1 n c1).ownBlock ∨ v'.ownBlock = some w.heap.size) := by
    cases A with
    | some ad =>
      obtain ⟨v', w', hr, h2, h3, _, h5⟩ := run_append_own_at (P := P) w base t o.type e i z size bytes ht hi hz hsize hby hzs hsz (.slice A1 n c1) n xs hown ad m c news hc.1 (fun j u hu => by
        obtain ⟨ad', e', hcell⟩ := hc.2 (by have := (List.getElem?_eq_some_iff.1 hu).1; omega)
        obtain rfl : ad = ad' := Option.some.inj e'
        exact hcell j u hu) h1 h63 hbytes hbase
      exact ⟨v', w', hr, h2, h3, h5⟩
    | none =>
      have hm : m = 0 := by
        cases news with
        | nil =>
          have h0 : ([] : List Value).length = m * size := hc.1
          rw [List.length_nil] at h0
          rcases Nat.mul_eq_zero.1 h0.symm with h1 | h1 <;> omega
        | cons y l => obtain ⟨ad, e', _⟩ := hc.2 (by simp); simp at e'
      obtain rfl : c = 0 := hN.2 rfl
      subst hm
      have hn : news = [] := List.eq_nil_of_length_eq_zero (by have := hc.1; simpa using this)
      subst hn
      exact ⟨_, w, run_append_owned_none (P := P) w base t o.type e i size ht hi (.slice A1 n c1) n xs hown, by simpa using hown, World.grownBy.refl w _, .inl rfl⟩
  unfold Oper.wp execOp
  simp only [ho, resolve, invoke, builtin, Sem.run_bind, Sem.run_pure, Result.andThen_ok, List.map_toArray, List.map_cons, List.map_nil, hs, hx, hr]
  exact h v' w' h2 h3 h5
end Go.Proofs.Ytpaakpbbahbhcaa.GoH

