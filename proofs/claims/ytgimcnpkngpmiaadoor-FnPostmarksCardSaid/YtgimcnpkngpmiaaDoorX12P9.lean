/- Texts on which the proofs of several laws stand, one behind the other (9 of 14). No condition of their own. -/
import Derived.Test.YtgimcnpkngpmiaaDoorChecked
import Derived.Test.YtgimcnpkngpmiaaDoorX12P1
import Derived.Test.YtgimcnpkngpmiaaDoorX12P2
import Derived.Test.YtgimcnpkngpmiaaDoorX12P3
import Derived.Test.YtgimcnpkngpmiaaDoorX12P8
import Derived.WalkKit
import Derived.WalkSpells
import Derived.WalkLawsBesides
import Derived.BigQuiet
import Derived.OwnWalk
import Derived.Deep.LoopGhost
import Derived.Deep.QuietTactic
import Derived.IntWalk
import Derived.Lib.QuietBelow
import Derived.Test.YtgimcnpkngpmiaaDoorX12P7
import Derived.Test.YtgimcnpkngpmiaaDoorX12P6
import Derived.Test.YtgimcnpkngpmiaaDoorX12P5
/- slices.MaxFunc[[]loop.example/g01062/impl.Postmark,loop.example/g01062/impl.Postmark] as a plain function, and the contract of the program's: where the plain one has an answer, the program has it. Conditions: slices read as lists. -/
namespace Go.Proofs.YtgimcnpkngpmiaaDoor.GxSlicesMaxFuncLoopExampleG01062ImplPostmarkLoopExampleG01062ImplPostmarkiLatestUse1
set_option linter.unusedVariables false
set_option linter.unusedSimpArgs false
open Go.RowKit
open Go.Proofs.YtgimcnpkngpmiaaDoor.Rowed Go.Proofs.YtgimcnpkngpmiaaDoor.Turn Go.Proofs.YtgimcnpkngpmiaaDoor.Aid Go.Proofs.YtgimcnpkngpmiaaDoor.GoP Go.Proofs.YtgimcnpkngpmiaaDoor.GoM

def l0 (x : (List Go.Proofs.YtgimcnpkngpmiaaDoor.PPostmark.Postmark)) (s : Int × Int × ByteArray × Int × Int × Int × ByteArray) (nx0 bk0 : Int × Int × ByteArray × Int × Int × Int × ByteArray → Option (Go.Proofs.YtgimcnpkngpmiaaDoor.PPostmark.Postmark)) : Option (Go.Proofs.YtgimcnpkngpmiaaDoor.PPostmark.Postmark) :=
  unp7 s fun i_6l0 m_9_c0l0 m_9_c1l0 m_9_c2l0 m_9_c3l0 m_9_c4l0 m_9_c5l0 =>
  letK (decide (i_6l0 < (x.length : Int))) fun (t_15 : Bool) =>
  iteK t_15
  (Option.bind (idx x i_6l0) fun (yt_19 : Go.Proofs.YtgimcnpkngpmiaaDoor.PPostmark.Postmark) =>
  unPostmark yt_19 fun (t_19_id : Int) (t_19_town : ByteArray) (t_19_kind_ : Int) (t_19_first : Int) (t_19_last : Int) (t_19_lost : ByteArray) =>
  Option.bind (Go.Proofs.YtgimcnpkngpmiaaDoor.GiLatestUse1.P (Go.Proofs.YtgimcnpkngpmiaaDoor.PPostmark.Postmark.mk t_19_id t_19_town t_19_kind_ t_19_first t_19_last t_19_lost) (Go.Proofs.YtgimcnpkngpmiaaDoor.PPostmark.Postmark.mk m_9_c0l0 m_9_c1l0 m_9_c2l0 m_9_c3l0 m_9_c4l0 m_9_c5l0)) fun (t_22 : Int) =>
  letK (decide (0 < t_22)) fun (t_23 : Bool) =>
  iteK t_23
  (Option.bind (idx x i_6l0) fun (yt_26 : Go.Proofs.YtgimcnpkngpmiaaDoor.PPostmark.Postmark) =>
  unPostmark yt_26 fun (t_26_id : Int) (t_26_town : ByteArray) (t_26_kind_ : Int) (t_26_first : Int) (t_26_last : Int) (t_26_lost : ByteArray) =>
  letK (IntKind.i64.wrap (i_6l0 + 1)) fun (t_30 : Int) =>
  appK nx0 (t_30, t_26_id, t_26_town, t_26_kind_, t_26_first, t_26_last, t_26_lost))
  (letK (IntKind.i64.wrap (i_6l0 + 1)) fun (t_30 : Int) =>
  appK nx0 (t_30, m_9_c0l0, m_9_c1l0, m_9_c2l0, m_9_c3l0, m_9_c4l0, m_9_c5l0)))
  (appK bk0 (i_6l0, m_9_c0l0, m_9_c1l0, m_9_c2l0, m_9_c3l0, m_9_c4l0, m_9_c5l0))

def e0  (s : Int × Int × ByteArray × Int × Int × Int × ByteArray) : Option (Go.Proofs.YtgimcnpkngpmiaaDoor.PPostmark.Postmark) :=
  unp7 s fun i_6l0 m_9_c0l0 m_9_c1l0 m_9_c2l0 m_9_c3l0 m_9_c4l0 m_9_c5l0 =>
  some (Go.Proofs.YtgimcnpkngpmiaaDoor.PPostmark.Postmark.mk m_9_c0l0 m_9_c1l0 m_9_c2l0 m_9_c3l0 m_9_c4l0 m_9_c5l0)

def j0 (x : (List Go.Proofs.YtgimcnpkngpmiaaDoor.PPostmark.Postmark)) (fuel : Nat) (s : Unit) : Option (Go.Proofs.YtgimcnpkngpmiaaDoor.PPostmark.Postmark) :=
  Option.bind (idx x 0) fun (yt_7 : Go.Proofs.YtgimcnpkngpmiaaDoor.PPostmark.Postmark) =>
  unPostmark yt_7 fun (t_7_id : Int) (t_7_town : ByteArray) (t_7_kind_ : Int) (t_7_first : Int) (t_7_last : Int) (t_7_lost : ByteArray) =>
  loopK (l0 x) fuel (1, t_7_id, t_7_town, t_7_kind_, t_7_first, t_7_last, t_7_lost) (e0 )

def P (fuel : Nat) (x : (List Go.Proofs.YtgimcnpkngpmiaaDoor.PPostmark.Postmark)) : Option (Go.Proofs.YtgimcnpkngpmiaaDoor.PPostmark.Postmark) :=
  letK (decide ((x.length : Int) < 1)) fun (t_3 : Bool) =>
  iteK t_3
  (none)
  (j0 x fuel ())

set_option maxRecDepth 100000 in
set_option maxHeartbeats 2000000 in
theorem C (fuel : Nat) (x : (List Go.Proofs.YtgimcnpkngpmiaaDoor.PPostmark.Postmark)) (A0 : Option Addr) (c0 : Nat)  (w : World) (M0 : Hid (Cells w 6 A0 x.length (Go.Proofs.YtgimcnpkngpmiaaDoor.PPostmark.flat x))) (N0 : Hid (x.length ≤ 9223372036854775807))  {r : Go.Proofs.YtgimcnpkngpmiaaDoor.PPostmark.Postmark} (H : Hid (P fuel x = some r)) :
    Calls Tryd.prog 72 #[.slice A0 x.length c0, .func (.func 73) #[] #[]] w (Gives ((Go.Proofs.YtgimcnpkngpmiaaDoor.PPostmark.Postmark.val r)) w) := by
  have HB := Lib.hid (Below.refl w.heap.size w)
  unfold P at H
  have N0o := N0.out
  go_enter Tryd.func72, Tryd.ntmps72
  obtain ⟨w_t_0, hw_t_0⟩ : ∃ x, w.alloc (.cells #[.int .i64 0, .string (⟨#[]⟩ : ByteArray), .int .i64 0, .int .i64 0, .int .i64 0, .string (⟨#[]⟩ : ByteArray)] 39) = x := ⟨_, rfl⟩
  have bw_t_0 : Below w.heap.size w w_t_0 := by rw [← hw_t_0]; exact (Below.refl _ _).alloc (Nat.le_refl _) _
  have HBw_t_0 := Lib.hid (Below.step HB.out bw_t_0)
  clear bw_t_0
  have kt_0_0 : w_t_0.cell? ⟨w.heap.size, 0, none⟩ = some (.int .i64 0) := by rw [← hw_t_0]; exact box_new _ _ _ 0 _ rfl
  have kt_0_1 : w_t_0.cell? ⟨w.heap.size, 1, none⟩ = some (.string (⟨#[]⟩ : ByteArray)) := by rw [← hw_t_0]; exact box_new _ _ _ 1 _ rfl
  have kt_0_2 : w_t_0.cell? ⟨w.heap.size, 2, none⟩ = some (.int .i64 0) := by rw [← hw_t_0]; exact box_new _ _ _ 2 _ rfl
  have kt_0_3 : w_t_0.cell? ⟨w.heap.size, 3, none⟩ = some (.int .i64 0) := by rw [← hw_t_0]; exact box_new _ _ _ 3 _ rfl
  have kt_0_4 : w_t_0.cell? ⟨w.heap.size, 4, none⟩ = some (.int .i64 0) := by rw [← hw_t_0]; exact box_new _ _ _ 4 _ rfl
  have kt_0_5 : w_t_0.cell? ⟨w.heap.size, 5, none⟩ = some (.string (⟨#[]⟩ : ByteArray)) := by rw [← hw_t_0]; exact box_new _ _ _ 5 _ rfl
  have Ot_0 : Hid (w_t_0.ownsRow w.heap.size 39 6 (.slice (some ⟨w.heap.size, 0, none⟩) 1 1) 1 [.int .i64 0, .string (⟨#[]⟩ : ByteArray), .int .i64 0, .int .i64 0, .int .i64 0, .string (⟨#[]⟩ : ByteArray)]) := Lib.hid (by rw [← hw_t_0]; exact own_laid (n := 1) HB.out.size rfl rfl (by unfold maxLen; omega))
  replace H := let_hid H
  obtain ⟨t_3, ht_3, H⟩ := H
  cases t_3 with
  | false =>
    have nht_3 : ¬ (x.length < 1) := by have := of_decide_eq_false ht_3; omega
    replace H := ite_f H
    unfold j0 at H
    replace H := idx_hid H
    obtain ⟨nt_7, yt_7, et_7, lt_7, gt_7, H⟩ := H
    obtain rfl : 0 = nt_7 := by omega
    clear et_7
    obtain ⟨t_7_id, t_7_town, t_7_kind_, t_7_first, t_7_last, t_7_lost⟩ := yt_7
    replace H := unPostmark_hid H
    obtain ⟨ab_t_7, ao_t_7, zt_7, At_7, z_t_7, ct_7_0, ct_7_1, ct_7_2, ct_7_3, ct_7_4, ct_7_5⟩ := Go.Proofs.YtgimcnpkngpmiaaDoor.OPostmark.at_ M0.out lt_7
    obtain rfl := Option.some.inj (gt_7.out.symm.trans z_t_7)
    subst At_7
    have ltt_7 := cell_lt ct_7_0
    replace ct_7_0 := cell_below HBw_t_0.out ct_7_0
    replace ct_7_1 := cell_below HBw_t_0.out ct_7_1
    replace ct_7_2 := cell_below HBw_t_0.out ct_7_2
    replace ct_7_3 := cell_below HBw_t_0.out ct_7_3
    replace ct_7_4 := cell_below HBw_t_0.out ct_7_4
    replace ct_7_5 := cell_below HBw_t_0.out ct_7_5
    clear z_t_7
    have b1t_7 : (0 : Int) < ((x.length : Nat) : Int) := by omega
    have b3t_7 : 0 < x.length := by omega
    try simp only [Nat.zero_mul, Nat.add_zero, Nat.zero_add, Nat.reduceMul] at ct_7_0 ct_7_1 ct_7_2 ct_7_3 ct_7_4 ct_7_5
    obtain ⟨w_m_9, hw_m_9⟩ : ∃ x, w_t_0.alloc (.cells #[.int .i64 t_7_id, .string t_7_town, .int .i64 t_7_kind_, .int .i64 t_7_first, .int .i64 t_7_last, .string t_7_lost] 39) = x := ⟨_, rfl⟩
    have bw_m_9 : Below w_t_0.heap.size w_t_0 w_m_9 := by rw [← hw_m_9]; exact (Below.refl _ _).alloc (Nat.le_refl _) _
    have Dm_9_t_0 := Lib.hid (apart_box kt_0_0)
    have HBw_m_9 := Lib.hid (Below.step HBw_t_0.out bw_m_9)
    have kt_0_0__495 := cell_below bw_m_9 kt_0_0
    have kt_0_1__496 := cell_below bw_m_9 kt_0_1
    have kt_0_2__497 := cell_below bw_m_9 kt_0_2
    have kt_0_3__498 := cell_below bw_m_9 kt_0_3
    have kt_0_4__499 := cell_below bw_m_9 kt_0_4
    have kt_0_5__500 := cell_below bw_m_9 kt_0_5
    have ct_7_0__501 := cell_below bw_m_9 ct_7_0
    have ct_7_1__502 := cell_below bw_m_9 ct_7_1
    have ct_7_2__503 := cell_below bw_m_9 ct_7_2
    have ct_7_3__504 := cell_below bw_m_9 ct_7_3
    have ct_7_4__505 := cell_below bw_m_9 ct_7_4
    have ct_7_5__506 := cell_below bw_m_9 ct_7_5
    replace Ot_0 := Lib.hid (own_below Ot_0.out bw_m_9)
    clear bw_m_9
    have km_9_0 : w_m_9.cell? ⟨w_t_0.heap.size, 0, none⟩ = some (.int .i64 t_7_id) := by rw [← hw_m_9]; exact box_new _ _ _ 0 _ rfl
    have km_9_1 : w_m_9.cell? ⟨w_t_0.heap.size, 1, none⟩ = some (.string t_7_town) := by rw [← hw_m_9]; exact box_new _ _ _ 1 _ rfl
    have km_9_2 : w_m_9.cell? ⟨w_t_0.heap.size, 2, none⟩ = some (.int .i64 t_7_kind_) := by rw [← hw_m_9]; exact box_new _ _ _ 2 _ rfl
    have km_9_3 : w_m_9.cell? ⟨w_t_0.heap.size, 3, none⟩ = some (.int .i64 t_7_first) := by rw [← hw_m_9]; exact box_new _ _ _ 3 _ rfl
    have km_9_4 : w_m_9.cell? ⟨w_t_0.heap.size, 4, none⟩ = some (.int .i64 t_7_last) := by rw [← hw_m_9]; exact box_new _ _ _ 4 _ rfl
    have km_9_5 : w_m_9.cell? ⟨w_t_0.heap.size, 5, none⟩ = some (.string t_7_lost) := by rw [← hw_m_9]; exact box_new _ _ _ 5 _ rfl
    have Om_9 : Hid (w_m_9.ownsRow w.heap.size 39 6 (.slice (some ⟨w_t_0.heap.size, 0, none⟩) 1 1) 1 [.int .i64 t_7_id, .string t_7_town, .int .i64 t_7_kind_, .int .i64 t_7_first, .int .i64 t_7_last, .string t_7_lost]) := Lib.hid (by rw [← hw_m_9]; exact own_laid (n := 1) HBw_t_0.out.size rfl rfl (by unfold maxLen; omega))
    go_wp2_with fail
    clear kt_0_0 kt_0_1 kt_0_2 kt_0_3 kt_0_4 kt_0_5 ct_7_0 ct_7_1 ct_7_2 ct_7_3 ct_7_4 ct_7_5
    go_loopg [6] (fuel) (fun m_ v6_ wr => ∃ (i_6l0 : Int) (m_9_c0l0 : Int) (m_9_c1l0 : ByteArray) (m_9_c2l0 : Int) (m_9_c3l0 : Int) (m_9_c4l0 : Int) (m_9_c5l0 : ByteArray), v6_ = .int .i64 i_6l0 ∧ Hid (loopK (l0 x) m_ (i_6l0, m_9_c0l0, m_9_c1l0, m_9_c2l0, m_9_c3l0, m_9_c4l0, m_9_c5l0) (e0 ) = some r) ∧ Hid (Below w.heap.size w wr) ∧ wr.cell? ⟨w.heap.size, 0, none⟩ = some (.int .i64 0) ∧ wr.cell? ⟨w.heap.size, 1, none⟩ = some (.string (⟨#[]⟩ : ByteArray)) ∧ wr.cell? ⟨w.heap.size, 2, none⟩ = some (.int .i64 0) ∧ wr.cell? ⟨w.heap.size, 3, none⟩ = some (.int .i64 0) ∧ wr.cell? ⟨w.heap.size, 4, none⟩ = some (.int .i64 0) ∧ wr.cell? ⟨w.heap.size, 5, none⟩ = some (.string (⟨#[]⟩ : ByteArray)) ∧ wr.cell? ⟨w_t_0.heap.size, 0, none⟩ = some (.int .i64 m_9_c0l0) ∧ wr.cell? ⟨w_t_0.heap.size, 1, none⟩ = some (.string m_9_c1l0) ∧ wr.cell? ⟨w_t_0.heap.size, 2, none⟩ = some (.int .i64 m_9_c2l0) ∧ wr.cell? ⟨w_t_0.heap.size, 3, none⟩ = some (.int .i64 m_9_c3l0) ∧ wr.cell? ⟨w_t_0.heap.size, 4, none⟩ = some (.int .i64 m_9_c4l0) ∧ wr.cell? ⟨w_t_0.heap.size, 5, none⟩ = some (.string m_9_c5l0) ∧ Hid (wr.ownsRow w.heap.size 39 6 (.slice (some ⟨w.heap.size, 0, none⟩) 1 1) 1 [.int .i64 0, .string (⟨#[]⟩ : ByteArray), .int .i64 0, .int .i64 0, .int .i64 0, .string (⟨#[]⟩ : ByteArray)]) ∧ Hid (wr.ownsRow w.heap.size 39 6 (.slice (some ⟨w_t_0.heap.size, 0, none⟩) 1 1) 1 [.int .i64 m_9_c0l0, .string m_9_c1l0, .int .i64 m_9_c2l0, .int .i64 m_9_c3l0, .int .i64 m_9_c4l0, .string m_9_c5l0]))
    case atStart => exact ⟨_, _, _, _, _, _, _, rfl, H, HBw_m_9, kt_0_0__495, kt_0_1__496, kt_0_2__497, kt_0_3__498, kt_0_4__499, kt_0_5__500, km_9_0, km_9_1, km_9_2, km_9_3, km_9_4, km_9_5, Ot_0, Om_9⟩
    case round =>
      obtain ⟨i_6l0, m_9_c0l0, m_9_c1l0, m_9_c2l0, m_9_c3l0, m_9_c4l0, m_9_c5l0, rfl, H, HBwr0, kt_0_0__495, kt_0_1__496, kt_0_2__497, kt_0_3__498, kt_0_4__499, kt_0_5__500, km_9_0, km_9_1, km_9_2, km_9_3, km_9_4, km_9_5, Ot_0, Om_9⟩ := hrel
      rename World => wr0
      cases gk with
      | zero => exact (loop_zero H).elim
      | succ m0 =>
        replace H := loop_succ H
        unfold l0 at H
        replace H := unp7_hid H
        replace H := let_hid H
        obtain ⟨t_15, ht_15, H⟩ := H
        cases t_15 with
        | false =>
          replace H := ite_f H
          replace H := app_hid H
          unfold e0 at H
          replace H := unp7_hid H
          obtain ⟨wb33_33, hwb33_33⟩ : ∃ x, ((((((wr0).setCell ⟨w.heap.size, 0, none⟩ (.int .i64 m_9_c0l0)).setCell ⟨w.heap.size, 1, none⟩ (.string m_9_c1l0)).setCell ⟨w.heap.size, 2, none⟩ (.int .i64 m_9_c2l0)).setCell ⟨w.heap.size, 3, none⟩ (.int .i64 m_9_c3l0)).setCell ⟨w.heap.size, 4, none⟩ (.int .i64 m_9_c4l0)).setCell ⟨w.heap.size, 5, none⟩ (.string m_9_c5l0) = x := ⟨_, rfl⟩
          have z0b33_33 := Ot_0.out.frozenAt 0
          have z1b33_33 := Ot_0.out.frozenAt 1
          have z2b33_33 := Ot_0.out.frozenAt 2
          have z3b33_33 := Ot_0.out.frozenAt 3
          have z4b33_33 := Ot_0.out.frozenAt 4
          have z5b33_33 := Ot_0.out.frozenAt 5
          have Sb33_33 := Lib.hid (own_stores [(0, .int .i64 m_9_c0l0), (1, .string m_9_c1l0), (2, .int .i64 m_9_c2l0), (3, .int .i64 m_9_c3l0), (4, .int .i64 m_9_c4l0), (5, .string m_9_c5l0)] Ot_0.out)
          have Pb33_33 : Hid (wb33_33.ownsRow w.heap.size 39 6 (.slice (some ⟨w.heap.size, 0, none⟩) 1 1) 1 [.int .i64 m_9_c0l0, .string m_9_c1l0, .int .i64 m_9_c2l0, .int .i64 m_9_c3l0, .int .i64 m_9_c4l0, .string m_9_c5l0]) := Lib.hid (by rw [← hwb33_33]; exact Sb33_33.out.1)
          have Gb33_33 : Hid (wr0.grownBy wb33_33 (Value.slice (some ⟨w.heap.size, 0, none⟩) 1 1).ownBlock) := Lib.hid (by rw [← hwb33_33]; exact Sb33_33.out.2)
          have HBwb33_33 := Lib.hid (HBwr0.out.grown Gb33_33.out HBwr0.out.size (fun q hq => (Ot_0.out.lt q hq).1))
          clear Sb33_33
          have km_9_0__507 := cell_other km_9_0 Gb33_33.out (Apart.symm Dm_9_t_0.out)
          have km_9_1__508 := cell_other km_9_1 Gb33_33.out (Apart.symm Dm_9_t_0.out)
          have km_9_2__509 := cell_other km_9_2 Gb33_33.out (Apart.symm Dm_9_t_0.out)
          have km_9_3__510 := cell_other km_9_3 Gb33_33.out (Apart.symm Dm_9_t_0.out)
          have km_9_4__511 := cell_other km_9_4 Gb33_33.out (Apart.symm Dm_9_t_0.out)
          have km_9_5__512 := cell_other km_9_5 Gb33_33.out (Apart.symm Dm_9_t_0.out)
          replace Om_9 := Lib.hid (own_other Om_9.out Gb33_33.out (Apart.symm Dm_9_t_0.out))
          clear Ot_0 Gb33_33
          have kt_0_0__513 : wb33_33.cell? ⟨w.heap.size, 0, none⟩ = some (.int .i64 m_9_c0l0) := Pb33_33.out.cells rfl 0 _ rfl
          have kt_0_1__514 : wb33_33.cell? ⟨w.heap.size, 1, none⟩ = some (.string m_9_c1l0) := Pb33_33.out.cells rfl 1 _ rfl
          have kt_0_2__515 : wb33_33.cell? ⟨w.heap.size, 2, none⟩ = some (.int .i64 m_9_c2l0) := Pb33_33.out.cells rfl 2 _ rfl
          have kt_0_3__516 : wb33_33.cell? ⟨w.heap.size, 3, none⟩ = some (.int .i64 m_9_c3l0) := Pb33_33.out.cells rfl 3 _ rfl
          have kt_0_4__517 : wb33_33.cell? ⟨w.heap.size, 4, none⟩ = some (.int .i64 m_9_c4l0) := Pb33_33.out.cells rfl 4 _ rfl
          have kt_0_5__518 : wb33_33.cell? ⟨w.heap.size, 5, none⟩ = some (.string m_9_c5l0) := Pb33_33.out.cells rfl 5 _ rfl
          cases ret_hid H
          go_wp2_with fail
          (try simp only [Exit.inBlock, Exit.then])
          refine bodyPost_ret (v := .agg #[.int .i64 m_9_c0l0, .string m_9_c1l0, .int .i64 m_9_c2l0, .int .i64 m_9_c3l0, .int .i64 m_9_c4l0, .string m_9_c5l0]) ?hr_ ?hd_ ?_
          case hd_ => rfl
          case hr_ => simp [results, Tryd.results72, kt_0_0__513, kt_0_1__514, kt_0_2__515, kt_0_3__516, kt_0_4__517, kt_0_5__518, go_sem]
          exact ⟨rfl, HBwb33_33.out⟩
        | true =>
          replace H := ite_t H
          go_wp2_with fail
          have Hkt_0_0__495 := Lib.hid kt_0_0__495
          replace kt_0_0__495 := cell_regrown kt_0_0__495
          have Hkt_0_1__496 := Lib.hid kt_0_1__496
          replace kt_0_1__496 := cell_regrown kt_0_1__496
          have Hkt_0_2__497 := Lib.hid kt_0_2__497
          replace kt_0_2__497 := cell_regrown kt_0_2__497
          have Hkt_0_3__498 := Lib.hid kt_0_3__498
          replace kt_0_3__498 := cell_regrown kt_0_3__498
          have Hkt_0_4__499 := Lib.hid kt_0_4__499
          replace kt_0_4__499 := cell_regrown kt_0_4__499
          have Hkt_0_5__500 := Lib.hid kt_0_5__500
          replace kt_0_5__500 := cell_regrown kt_0_5__500
          have Hkm_9_0 := Lib.hid km_9_0
          replace km_9_0 := cell_regrown km_9_0
          have Hkm_9_1 := Lib.hid km_9_1
          replace km_9_1 := cell_regrown km_9_1
          have Hkm_9_2 := Lib.hid km_9_2
          replace km_9_2 := cell_regrown km_9_2
          have Hkm_9_3 := Lib.hid km_9_3
          replace km_9_3 := cell_regrown km_9_3
          have Hkm_9_4 := Lib.hid km_9_4
          replace km_9_4 := cell_regrown km_9_4
          have Hkm_9_5 := Lib.hid km_9_5
          replace km_9_5 := cell_regrown km_9_5
          replace H := idx_hid H
          obtain ⟨nt_19, yt_19, et_19, lt_19, gt_19, H⟩ := H
          subst et_19
          have nc_519 : nt_19 < x.length := by have := of_decide_eq_true ht_15; omega
          obtain ⟨t_19_id, t_19_town, t_19_kind_, t_19_first, t_19_last, t_19_lost⟩ := yt_19
          replace H := unPostmark_hid H
          obtain ⟨ab_t_19, ao_t_19, zt_19, At_19, z_t_19, ct_19_0, ct_19_1, ct_19_2, ct_19_3, ct_19_4, ct_19_5⟩ := Go.Proofs.YtgimcnpkngpmiaaDoor.OPostmark.at_ M0.out lt_19
          obtain rfl := Option.some.inj (gt_19.out.symm.trans z_t_19)
          simp only [Option.some.injEq, Addr.mk.injEq] at At_19
          obtain ⟨rfl, rfl, _⟩ := At_19
          have ltt_19 := cell_lt ct_19_0
          replace ct_19_0 := cell_below HBwr0.out ct_19_0
          replace ct_19_1 := cell_below HBwr0.out ct_19_1
          replace ct_19_2 := cell_below HBwr0.out ct_19_2
          replace ct_19_3 := cell_below HBwr0.out ct_19_3
          replace ct_19_4 := cell_below HBwr0.out ct_19_4
          replace ct_19_5 := cell_below HBwr0.out ct_19_5
          clear z_t_19
          have b0t_19 : (0 : Int) ≤ (nt_19 : Int) := by omega
          have b1t_19 : (nt_19 : Int) < ((x.length : Nat) : Int) := by omega
          have b2t_19 : ((nt_19 : Int)).toNat = nt_19 := by omega
          have Hct_19_0 := Lib.hid ct_19_0
          replace ct_19_0 := cell_regrown ct_19_0
          have Hct_19_1 := Lib.hid ct_19_1
          replace ct_19_1 := cell_regrown ct_19_1
          have Hct_19_2 := Lib.hid ct_19_2
          replace ct_19_2 := cell_regrown ct_19_2
          have Hct_19_3 := Lib.hid ct_19_3
          replace ct_19_3 := cell_regrown ct_19_3
          have Hct_19_4 := Lib.hid ct_19_4
          replace ct_19_4 := cell_regrown ct_19_4
          have Hct_19_5 := Lib.hid ct_19_5
          replace ct_19_5 := cell_regrown ct_19_5
          replace H := bind_hid H
          obtain ⟨t_22, qt_22, H⟩ := H
          have nt_22 : ∀ d os, Calls Tryd.prog 73 #[.agg #[.int .i64 t_19_id, .string t_19_town, .int .i64 t_19_kind_, .int .i64 t_19_first, .int .i64 t_19_last, .string t_19_lost], .agg #[.int .i64 m_9_c0l0, .string m_9_c1l0, .int .i64 m_9_c2l0, .int .i64 m_9_c3l0, .int .i64 m_9_c4l0, .string m_9_c5l0]] (Go.Sort.grow (redrawn wr0 d) os) fun e w'' => e = .returned (.int .i64 t_22) ∧ ∃ p : Regrown, w'' = Go.Sort.grow (redrawn wr0 p.d) p.os := fun d os => Calls.regrown_of (Go.Proofs.YtgimcnpkngpmiaaDoor.GiLatestUse1.C ((Go.Proofs.YtgimcnpkngpmiaaDoor.PPostmark.Postmark.mk t_19_id t_19_town t_19_kind_ t_19_first t_19_last t_19_lost)) ((Go.Proofs.YtgimcnpkngpmiaaDoor.PPostmark.Postmark.mk m_9_c0l0 m_9_c1l0 m_9_c2l0 m_9_c3l0 m_9_c4l0 m_9_c5l0))  _    qt_22)
          replace H := let_hid H
          obtain ⟨t_23, ht_23, H⟩ := H
          refine wp_region_quiet_below (by kernel_rfl) (by kernel_rfl) ?_
          repeat (go_big_quiet_step (first | (go_at_call 73; exact nt_22 _ _)))
          refine wpQuiet_nil ?_
          intro Y7 hY7
          replace hY7 := below_class hY7
          clear nt_22
          replace kt_0_0__495 := Hkt_0_0__495.out
          clear Hkt_0_0__495
          replace kt_0_1__496 := Hkt_0_1__496.out
          clear Hkt_0_1__496
          replace kt_0_2__497 := Hkt_0_2__497.out
          clear Hkt_0_2__497
          replace kt_0_3__498 := Hkt_0_3__498.out
          clear Hkt_0_3__498
          replace kt_0_4__499 := Hkt_0_4__499.out
          clear Hkt_0_4__499
          replace kt_0_5__500 := Hkt_0_5__500.out
          clear Hkt_0_5__500
          replace km_9_0 := Hkm_9_0.out
          clear Hkm_9_0
          replace km_9_1 := Hkm_9_1.out
          clear Hkm_9_1
          replace km_9_2 := Hkm_9_2.out
          clear Hkm_9_2
          replace km_9_3 := Hkm_9_3.out
          clear Hkm_9_3
          replace km_9_4 := Hkm_9_4.out
          clear Hkm_9_4
          replace km_9_5 := Hkm_9_5.out
          clear Hkm_9_5
          replace ct_19_0 := Hct_19_0.out
          clear Hct_19_0
          replace ct_19_1 := Hct_19_1.out
          clear Hct_19_1
          replace ct_19_2 := Hct_19_2.out
          clear Hct_19_2
          replace ct_19_3 := Hct_19_3.out
          clear Hct_19_3
          replace ct_19_4 := Hct_19_4.out
          clear Hct_19_4
          replace ct_19_5 := Hct_19_5.out
          clear Hct_19_5
          have HBY7 := Lib.hid (Below.step HBwr0.out hY7)
          replace kt_0_0__495 := cell_below hY7 kt_0_0__495
          replace kt_0_1__496 := cell_below hY7 kt_0_1__496
          replace kt_0_2__497 := cell_below hY7 kt_0_2__497
          replace kt_0_3__498 := cell_below hY7 kt_0_3__498
          replace kt_0_4__499 := cell_below hY7 kt_0_4__499
          replace kt_0_5__500 := cell_below hY7 kt_0_5__500
          replace km_9_0 := cell_below hY7 km_9_0
          replace km_9_1 := cell_below hY7 km_9_1
          replace km_9_2 := cell_below hY7 km_9_2
          replace km_9_3 := cell_below hY7 km_9_3
          replace km_9_4 := cell_below hY7 km_9_4
          replace km_9_5 := cell_below hY7 km_9_5
          replace ct_19_0 := cell_below hY7 ct_19_0
          replace ct_19_1 := cell_below hY7 ct_19_1
          replace ct_19_2 := cell_below hY7 ct_19_2
          replace ct_19_3 := cell_below hY7 ct_19_3
          replace ct_19_4 := cell_below hY7 ct_19_4
          replace ct_19_5 := cell_below hY7 ct_19_5
          replace Ot_0 := Lib.hid (own_below Ot_0.out hY7)
          replace Om_9 := Lib.hid (own_below Om_9.out hY7)
          clear hY7
          cases t_23 with
          | false =>
            replace H := ite_f H
            replace H := let_hid H
            obtain ⟨t_30, ht_30, H⟩ := H
            replace H := app_hid H
            go_wp2_with fail
            go_roundg m0
            case measure => omega
            case rel => exact ⟨_, _, _, _, _, _, _, rfl, H, HBY7, kt_0_0__495, kt_0_1__496, kt_0_2__497, kt_0_3__498, kt_0_4__499, kt_0_5__500, km_9_0, km_9_1, km_9_2, km_9_3, km_9_4, km_9_5, Ot_0, Om_9⟩
          | true =>
            replace H := ite_t H
            replace H := idx_hid H
            obtain ⟨nt_26, yt_26, et_26, lt_26, gt_26, H⟩ := H
            obtain rfl : nt_19 = nt_26 := by omega
            clear et_26
            obtain rfl := Option.some.inj (gt_19.out.symm.trans gt_26.out)
            clear gt_26 lt_26
            replace H := unPostmark_hid H
            obtain ⟨wb28_28, hwb28_28⟩ : ∃ x, ((((((Y7).setCell ⟨w_t_0.heap.size, 0, none⟩ (.int .i64 t_19_id)).setCell ⟨w_t_0.heap.size, 1, none⟩ (.string t_19_town)).setCell ⟨w_t_0.heap.size, 2, none⟩ (.int .i64 t_19_kind_)).setCell ⟨w_t_0.heap.size, 3, none⟩ (.int .i64 t_19_first)).setCell ⟨w_t_0.heap.size, 4, none⟩ (.int .i64 t_19_last)).setCell ⟨w_t_0.heap.size, 5, none⟩ (.string t_19_lost) = x := ⟨_, rfl⟩
            have z0b28_28 := Om_9.out.frozenAt 0
            have z1b28_28 := Om_9.out.frozenAt 1
            have z2b28_28 := Om_9.out.frozenAt 2
            have z3b28_28 := Om_9.out.frozenAt 3
            have z4b28_28 := Om_9.out.frozenAt 4
            have z5b28_28 := Om_9.out.frozenAt 5
            have Sb28_28 := Lib.hid (own_stores [(0, .int .i64 t_19_id), (1, .string t_19_town), (2, .int .i64 t_19_kind_), (3, .int .i64 t_19_first), (4, .int .i64 t_19_last), (5, .string t_19_lost)] Om_9.out)
            have Pb28_28 : Hid (wb28_28.ownsRow w.heap.size 39 6 (.slice (some ⟨w_t_0.heap.size, 0, none⟩) 1 1) 1 [.int .i64 t_19_id, .string t_19_town, .int .i64 t_19_kind_, .int .i64 t_19_first, .int .i64 t_19_last, .string t_19_lost]) := Lib.hid (by rw [← hwb28_28]; exact Sb28_28.out.1)
            have Gb28_28 : Hid (Y7.grownBy wb28_28 (Value.slice (some ⟨w_t_0.heap.size, 0, none⟩) 1 1).ownBlock) := Lib.hid (by rw [← hwb28_28]; exact Sb28_28.out.2)
            have HBwb28_28 := Lib.hid (HBY7.out.grown Gb28_28.out HBY7.out.size (fun q hq => (Om_9.out.lt q hq).1))
            clear Sb28_28
            have kt_0_0__520 := cell_other kt_0_0__495 Gb28_28.out Dm_9_t_0.out
            have kt_0_1__521 := cell_other kt_0_1__496 Gb28_28.out Dm_9_t_0.out
            have kt_0_2__522 := cell_other kt_0_2__497 Gb28_28.out Dm_9_t_0.out
            have kt_0_3__523 := cell_other kt_0_3__498 Gb28_28.out Dm_9_t_0.out
            have kt_0_4__524 := cell_other kt_0_4__499 Gb28_28.out Dm_9_t_0.out
            have kt_0_5__525 := cell_other kt_0_5__500 Gb28_28.out Dm_9_t_0.out
            have ct_19_0__526 := cell_other ct_19_0 Gb28_28.out (apart_old Om_9.out ltt_19)
            have ct_19_1__527 := cell_other ct_19_1 Gb28_28.out (apart_old Om_9.out ltt_19)
            have ct_19_2__528 := cell_other ct_19_2 Gb28_28.out (apart_old Om_9.out ltt_19)
            have ct_19_3__529 := cell_other ct_19_3 Gb28_28.out (apart_old Om_9.out ltt_19)
            have ct_19_4__530 := cell_other ct_19_4 Gb28_28.out (apart_old Om_9.out ltt_19)
            have ct_19_5__531 := cell_other ct_19_5 Gb28_28.out (apart_old Om_9.out ltt_19)
            replace Ot_0 := Lib.hid (own_other Ot_0.out Gb28_28.out Dm_9_t_0.out)
            clear Om_9 Gb28_28
            have km_9_0__532 : wb28_28.cell? ⟨w_t_0.heap.size, 0, none⟩ = some (.int .i64 t_19_id) := Pb28_28.out.cells rfl 0 _ rfl
            have km_9_1__533 : wb28_28.cell? ⟨w_t_0.heap.size, 1, none⟩ = some (.string t_19_town) := Pb28_28.out.cells rfl 1 _ rfl
            have km_9_2__534 : wb28_28.cell? ⟨w_t_0.heap.size, 2, none⟩ = some (.int .i64 t_19_kind_) := Pb28_28.out.cells rfl 2 _ rfl
            have km_9_3__535 : wb28_28.cell? ⟨w_t_0.heap.size, 3, none⟩ = some (.int .i64 t_19_first) := Pb28_28.out.cells rfl 3 _ rfl
            have km_9_4__536 : wb28_28.cell? ⟨w_t_0.heap.size, 4, none⟩ = some (.int .i64 t_19_last) := Pb28_28.out.cells rfl 4 _ rfl
            have km_9_5__537 : wb28_28.cell? ⟨w_t_0.heap.size, 5, none⟩ = some (.string t_19_lost) := Pb28_28.out.cells rfl 5 _ rfl
            replace H := let_hid H
            obtain ⟨t_30, ht_30, H⟩ := H
            replace H := app_hid H
            go_wp2_with fail
            clear z0b28_28 z1b28_28 z2b28_28 z3b28_28 z4b28_28 z5b28_28 kt_0_0__495 kt_0_1__496 kt_0_2__497 kt_0_3__498 kt_0_4__499 kt_0_5__500 ct_19_0 ct_19_1 ct_19_2 ct_19_3 ct_19_4 ct_19_5 km_9_0 km_9_1 km_9_2 km_9_3 km_9_4 km_9_5
            go_roundg m0
            case measure => omega
            case rel => exact ⟨_, _, _, _, _, _, _, rfl, H, HBwb28_28, kt_0_0__520, kt_0_1__521, kt_0_2__522, kt_0_3__523, kt_0_4__524, kt_0_5__525, km_9_0__532, km_9_1__533, km_9_2__534, km_9_3__535, km_9_4__536, km_9_5__537, Ot_0, Pb28_28⟩
  | true =>
    have nht_3 : x.length < 1 := by have := of_decide_eq_true ht_3; omega
    replace H := ite_t H
    exact (none_hid H).elim
end Go.Proofs.YtgimcnpkngpmiaaDoor.GxSlicesMaxFuncLoopExampleG01062ImplPostmarkLoopExampleG01062ImplPostmarkiLatestUse1

/- loop.example/g01062/impl.LatestUse as a plain function, and the contract of the program's: where the plain one has an answer, the program has it. Conditions: slices read as lists. -/
namespace Go.Proofs.YtgimcnpkngpmiaaDoor.GiLatestUse
set_option linter.unusedVariables false
set_option linter.unusedSimpArgs false
open Go.RowKit
open Go.Proofs.YtgimcnpkngpmiaaDoor.Rowed Go.Proofs.YtgimcnpkngpmiaaDoor.Turn Go.Proofs.YtgimcnpkngpmiaaDoor.Aid Go.Proofs.YtgimcnpkngpmiaaDoor.GoP Go.Proofs.YtgimcnpkngpmiaaDoor.GoM

def P (fuel : Nat) (list : (List Go.Proofs.YtgimcnpkngpmiaaDoor.PPostmark.Postmark)) (town : ByteArray) : Option (Int × Int × Bool) :=
  Option.bind (Go.Proofs.YtgimcnpkngpmiaaDoor.GiMarksOf.P fuel list town) fun (t_5 : (List Go.Proofs.YtgimcnpkngpmiaaDoor.PPostmark.Postmark)) =>
  letK ((t_5.length : Int) == 0) fun (t_9 : Bool) =>
  iteK t_9
  (some (0, 0, false))
  (Option.bind (Go.Proofs.YtgimcnpkngpmiaaDoor.GxSlicesMaxFuncLoopExampleG01062ImplPostmarkLoopExampleG01062ImplPostmarkiLatestUse1.P fuel t_5) fun (t_14 : Go.Proofs.YtgimcnpkngpmiaaDoor.PPostmark.Postmark) =>
  unPostmark t_14 fun (t_14_id : Int) (t_14_town : ByteArray) (t_14_kind_ : Int) (t_14_first : Int) (t_14_last : Int) (t_14_lost : ByteArray) =>
  some (t_14_id, t_14_last, true))

set_option maxRecDepth 100000 in
set_option maxHeartbeats 2000000 in
theorem C (fuel : Nat) (list : (List Go.Proofs.YtgimcnpkngpmiaaDoor.PPostmark.Postmark)) (town : ByteArray) (A0 : Option Addr) (c0 : Nat)  (w : World) (M0 : Hid (Cells w 6 A0 list.length (Go.Proofs.YtgimcnpkngpmiaaDoor.PPostmark.flat list))) (N0 : Hid (list.length ≤ 9223372036854775807)) (Q0 : Hid (Room A0 list.length c0))  {r0 : Int} {r1 : Int} {r2 : Bool} (H : Hid (P fuel list town = some (r0, r1, r2))) :
    Calls Tryd.prog 27 #[.slice A0 list.length c0, .string town] w (Gives (.tuple #[.int .i64 r0, .int .i64 r1, .bool r2]) w) := by
  have HB := Lib.hid (Below.refl w.heap.size w)
  unfold P at H
  have N0o := N0.out
  go_enter Tryd.func27, Tryd.ntmps27
  replace H := bind_hid H
  obtain ⟨t_5, qt_5, H⟩ := H
  go_wp2_with fail
  go_at_call 71
  refine (Go.Proofs.YtgimcnpkngpmiaaDoor.GiMarksOf.C fuel (list) (town) A0 c0 _   (Lib.hid (Cells.below M0.out HB.out)) N0 Q0 qt_5).mono ?_
  rintro e_t_5 wt_5 ⟨At_5, ct_5, rfl, ot_5, bt_5⟩
  have Ot_5 := Lib.hid (own_lower ot_5 HB.out.size)
  clear ot_5
  have HBwt_5 := Lib.hid (Below.step HB.out bt_5)
  clear bt_5
  replace H := let_hid H
  obtain ⟨t_9, ht_9, H⟩ := H
  cases t_9 with
  | false =>
    have nht_9 : ¬ (t_5.length = 0) := by have := ne_of_beq_false ht_9; omega
    replace H := ite_f H
    replace H := bind_hid H
    obtain ⟨t_14, qt_14, H⟩ := H
    obtain ⟨t_14_id, t_14_town, t_14_kind_, t_14_first, t_14_last, t_14_lost⟩ := t_14
    replace H := unPostmark_hid H
    go_wp2_with fail
    go_at_call 72
    refine (Go.Proofs.YtgimcnpkngpmiaaDoor.GxSlicesMaxFuncLoopExampleG01062ImplPostmarkLoopExampleG01062ImplPostmarkiLatestUse1.C fuel (t_5) At_5 ct_5 _   (Lib.hid (own_cells Ot_5.out)) (Lib.hid (own_max Ot_5.out)) qt_14).mono ?_
    rintro e_t_14 wt_14 ⟨rfl, bt_14⟩
    unfold Go.Proofs.YtgimcnpkngpmiaaDoor.PPostmark.Postmark.val
    have HBwt_14 := Lib.hid (Below.step HBwt_5.out bt_14)
    replace Ot_5 := Lib.hid (own_below Ot_5.out bt_14)
    clear bt_14
    obtain ⟨w_latest_15, hw_latest_15⟩ : ∃ x, wt_14.alloc (.cells #[.int .i64 t_14_id, .string t_14_town, .int .i64 t_14_kind_, .int .i64 t_14_first, .int .i64 t_14_last, .string t_14_lost] 39) = x := ⟨_, rfl⟩
    have bw_latest_15 : Below wt_14.heap.size wt_14 w_latest_15 := by rw [← hw_latest_15]; exact (Below.refl _ _).alloc (Nat.le_refl _) _
    have Dlatest_15_t_5 := Lib.hid (apart_fresh Ot_5.out)
    have HBw_latest_15 := Lib.hid (Below.step HBwt_14.out bw_latest_15)
    replace Ot_5 := Lib.hid (own_below Ot_5.out bw_latest_15)
    clear bw_latest_15
    have klatest_15_0 : w_latest_15.cell? ⟨wt_14.heap.size, 0, none⟩ = some (.int .i64 t_14_id) := by rw [← hw_latest_15]; exact box_new _ _ _ 0 _ rfl
    have klatest_15_1 : w_latest_15.cell? ⟨wt_14.heap.size, 1, none⟩ = some (.string t_14_town) := by rw [← hw_latest_15]; exact box_new _ _ _ 1 _ rfl
    have klatest_15_2 : w_latest_15.cell? ⟨wt_14.heap.size, 2, none⟩ = some (.int .i64 t_14_kind_) := by rw [← hw_latest_15]; exact box_new _ _ _ 2 _ rfl
    have klatest_15_3 : w_latest_15.cell? ⟨wt_14.heap.size, 3, none⟩ = some (.int .i64 t_14_first) := by rw [← hw_latest_15]; exact box_new _ _ _ 3 _ rfl
    have klatest_15_4 : w_latest_15.cell? ⟨wt_14.heap.size, 4, none⟩ = some (.int .i64 t_14_last) := by rw [← hw_latest_15]; exact box_new _ _ _ 4 _ rfl
    have klatest_15_5 : w_latest_15.cell? ⟨wt_14.heap.size, 5, none⟩ = some (.string t_14_lost) := by rw [← hw_latest_15]; exact box_new _ _ _ 5 _ rfl
    go_wp2_with fail
    have Hklatest_15_0 := Lib.hid klatest_15_0
    replace klatest_15_0 := cell_regrown klatest_15_0
    have Hklatest_15_1 := Lib.hid klatest_15_1
    replace klatest_15_1 := cell_regrown klatest_15_1
    have Hklatest_15_2 := Lib.hid klatest_15_2
    replace klatest_15_2 := cell_regrown klatest_15_2
    have Hklatest_15_3 := Lib.hid klatest_15_3
    replace klatest_15_3 := cell_regrown klatest_15_3
    have Hklatest_15_4 := Lib.hid klatest_15_4
    replace klatest_15_4 := cell_regrown klatest_15_4
    have Hklatest_15_5 := Lib.hid klatest_15_5
    replace klatest_15_5 := cell_regrown klatest_15_5
    refine wp_region_quiet_below (by kernel_rfl) (by kernel_rfl) ?_
    repeat (go_big_quiet_step (fail))
    refine wpQuiet_nil ?_
    intro Y5 hY5
    replace hY5 := below_class hY5
    replace klatest_15_0 := Hklatest_15_0.out
    clear Hklatest_15_0
    replace klatest_15_1 := Hklatest_15_1.out
    clear Hklatest_15_1
    replace klatest_15_2 := Hklatest_15_2.out
    clear Hklatest_15_2
    replace klatest_15_3 := Hklatest_15_3.out
    clear Hklatest_15_3
    replace klatest_15_4 := Hklatest_15_4.out
    clear Hklatest_15_4
    replace klatest_15_5 := Hklatest_15_5.out
    clear Hklatest_15_5
    have HBY5 := Lib.hid (Below.step HBw_latest_15.out hY5)
    replace klatest_15_0 := cell_below hY5 klatest_15_0
    replace klatest_15_1 := cell_below hY5 klatest_15_1
    replace klatest_15_2 := cell_below hY5 klatest_15_2
    replace klatest_15_3 := cell_below hY5 klatest_15_3
    replace klatest_15_4 := cell_below hY5 klatest_15_4
    replace klatest_15_5 := cell_below hY5 klatest_15_5
    replace Ot_5 := Lib.hid (own_below Ot_5.out hY5)
    clear hY5
    cases ret_hid H
    go_wp2_with fail
    go_ret3
    exact ⟨rfl, HBY5.out⟩
  | true =>
    have Hht_9 : Hid (t_5.length = 0) := Lib.hid (by have := eq_of_beq ht_9; omega)
    have nht_9 : (t_5.length == 0) = true := beq_iff_eq.2 Hht_9.out
    replace H := ite_t H
    cases ret_hid H
    go_wp2_with fail
    go_ret3
    exact ⟨rfl, HBwt_5.out⟩
end Go.Proofs.YtgimcnpkngpmiaaDoor.GiLatestUse

/- loop.example/g01062/spec.LatestUse as a plain function, and the contract of the program's: where the plain one has an answer, the program has it. Conditions: slices read as lists. -/
namespace Go.Proofs.YtgimcnpkngpmiaaDoor.GsLatestUse
set_option linter.unusedVariables false
set_option linter.unusedSimpArgs false
open Go.RowKit
open Go.Proofs.YtgimcnpkngpmiaaDoor.Rowed Go.Proofs.YtgimcnpkngpmiaaDoor.Turn Go.Proofs.YtgimcnpkngpmiaaDoor.Aid Go.Proofs.YtgimcnpkngpmiaaDoor.GoP Go.Proofs.YtgimcnpkngpmiaaDoor.GoM

def l0 (list : (List Go.Proofs.YtgimcnpkngpmiaaDoor.PPostmark.Postmark)) (town : ByteArray) (k0 : Nat) (s : Int × Int) (nx0 bk0 : Int × Int → Option (Int × Int × Bool)) : Option (Int × Int × Bool) :=
  unp2 s fun best_7l0 most_8l0 =>
  Option.bind (idx list (k0 : Int)) fun (yt_23 : Go.Proofs.YtgimcnpkngpmiaaDoor.PPostmark.Postmark) =>
  unPostmark yt_23 fun (t_23_id : Int) (t_23_town : ByteArray) (t_23_kind_ : Int) (t_23_first : Int) (t_23_last : Int) (t_23_lost : ByteArray) =>
  letK (t_23_town.toList == town.toList) fun (t_27 : Bool) =>
  joinK (fun (t_36 : Bool) =>
  iteK t_36
  (Option.bind (idx list (k0 : Int)) fun (yt_39 : Go.Proofs.YtgimcnpkngpmiaaDoor.PPostmark.Postmark) =>
  unPostmark yt_39 fun (t_39_id : Int) (t_39_town : ByteArray) (t_39_kind_ : Int) (t_39_first : Int) (t_39_last : Int) (t_39_lost : ByteArray) =>
  Option.bind (idx list (k0 : Int)) fun (yt_45 : Go.Proofs.YtgimcnpkngpmiaaDoor.PPostmark.Postmark) =>
  unPostmark yt_45 fun (t_45_id : Int) (t_45_town : ByteArray) (t_45_kind_ : Int) (t_45_first : Int) (t_45_last : Int) (t_45_lost : ByteArray) =>
  appK nx0 (t_39_id, t_45_last))
  (appK nx0 (best_7l0, most_8l0))) fun jt_36 => iteK t_27 (Option.bind (idx list (k0 : Int)) fun (yt_31 : Go.Proofs.YtgimcnpkngpmiaaDoor.PPostmark.Postmark) =>
  unPostmark yt_31 fun (t_31_id : Int) (t_31_town : ByteArray) (t_31_kind_ : Int) (t_31_first : Int) (t_31_last : Int) (t_31_lost : ByteArray) =>
  letK (decide (most_8l0 < t_31_last)) fun (t_35 : Bool) =>
  appK jt_36 t_35) (appK jt_36 false)

def e0  (s : Int × Int) : Option (Int × Int × Bool) :=
  unp2 s fun best_7l0 most_8l0 =>
  letK (best_7l0 == 0) fun (t_53 : Bool) =>
  iteK t_53
  (some (0, 0, false))
  (some (best_7l0, most_8l0, true))

def P (fuel : Nat) (list : (List Go.Proofs.YtgimcnpkngpmiaaDoor.PPostmark.Postmark)) (town : ByteArray) : Option (Int × Int × Bool) :=
  Option.bind (Go.Proofs.YtgimcnpkngpmiaaDoor.GsL11Good.P fuel list) fun (t_4 : Bool) =>
  letK (!t_4) fun (t_5 : Bool) =>
  joinK (fun (t_10 : Bool) =>
  iteK t_10
  (some (0, 0, false))
  (cntK (l0 list town) (list.length) 0 (0, (-1)) (e0 ))) fun jt_10 => iteK t_5 (appK jt_10 true) (Option.bind (Go.Proofs.YtgimcnpkngpmiaaDoor.GsL2Word.P town) fun (t_8 : Bool) =>
  letK (!t_8) fun (t_9 : Bool) =>
  appK jt_10 t_9)

set_option maxRecDepth 100000 in
set_option maxHeartbeats 2000000 in
theorem C (fuel : Nat) (list : (List Go.Proofs.YtgimcnpkngpmiaaDoor.PPostmark.Postmark)) (town : ByteArray) (A0 : Option Addr) (c0 : Nat)  (w : World) (M0 : Hid (Cells w 6 A0 list.length (Go.Proofs.YtgimcnpkngpmiaaDoor.PPostmark.flat list))) (N0 : Hid (list.length ≤ 9223372036854775807))  {r0 : Int} {r1 : Int} {r2 : Bool} (H : Hid (P fuel list town = some (r0, r1, r2))) :
    Calls Tryd.prog 28 #[.slice A0 list.length c0, .string town] w (Gives (.tuple #[.int .i64 r0, .int .i64 r1, .bool r2]) w) := by
  have HB := Lib.hid (Below.refl w.heap.size w)
  unfold P at H
  have N0o := N0.out
  go_enter Tryd.func28, Tryd.ntmps28
  replace H := bind_hid H
  obtain ⟨t_4, qt_4, H⟩ := H
  go_wp2_with fail
  go_at_call 40
  refine (Go.Proofs.YtgimcnpkngpmiaaDoor.GsL11Good.C fuel (list) A0 c0 _   (Lib.hid (Cells.below M0.out HB.out)) N0 qt_4).mono ?_
  rintro e_t_4 wt_4 ⟨rfl, bt_4⟩
  have HBwt_4 := Lib.hid (Below.step HB.out bt_4)
  clear bt_4
  cases t_4 with
  | false =>
    replace H := let_hid H
    obtain ⟨t_5, ht_5, H⟩ := H
    obtain rfl : t_5 = true := ht_5.symm
    replace H := join_hid H
    replace H := ite_t H
    replace H := app_hid H
    replace H := ite_t H
    cases ret_hid H
    go_wp2_with fail
    go_ret3
    exact ⟨rfl, HBwt_4.out⟩
  | true =>
    replace H := let_hid H
    obtain ⟨t_5, ht_5, H⟩ := H
    obtain rfl : t_5 = false := ht_5.symm
    replace H := join_hid H
    replace H := ite_f H
    replace H := bind_hid H
    obtain ⟨t_8, qt_8, H⟩ := H
    go_wp2_with fail
    go_at_call 75
    refine (Go.Proofs.YtgimcnpkngpmiaaDoor.GsL2Word.C (town)  _    qt_8).mono ?_
    rintro e_t_8 wt_8 ⟨rfl, bt_8⟩
    have HBwt_8 := Lib.hid (Below.step HBwt_4.out bt_8)
    clear bt_8
    cases t_8 with
    | false =>
      replace H := let_hid H
      obtain ⟨t_9, ht_9, H⟩ := H
      obtain rfl : t_9 = true := ht_9.symm
      replace H := app_hid H
      replace H := ite_t H
      cases ret_hid H
      go_wp2_with fail
      go_ret3
      exact ⟨rfl, HBwt_8.out⟩
    | true =>
      replace H := let_hid H
      obtain ⟨t_9, ht_9, H⟩ := H
      obtain rfl : t_9 = false := ht_9.symm
      replace H := app_hid H
      replace H := ite_f H
      go_wp2_with fail
      go_loopg [9, 7, 8] (list.length) (fun m_ v9_ v7_ v8_ wr => ∃ (k0 : Nat) (best_7l0 : Int) (most_8l0 : Int), k0 + m_ = list.length ∧ v9_ = .int .i64 (k0 : Int) ∧ v7_ = .int .i64 best_7l0 ∧ v8_ = .int .i64 most_8l0 ∧ Hid (cntK (l0 list town) m_ k0 (best_7l0, most_8l0) (e0 ) = some (r0, r1, r2)) ∧ Hid (Below w.heap.size w wr))
      case atStart => exact ⟨0, _, _, by omega, rfl, rfl, rfl, H, HBwt_8⟩
      case round =>
        obtain ⟨k0, best_7l0, most_8l0, hkm0, rfl, rfl, rfl, H, HBwr0⟩ := hrel
        rename World => wr0
        cases gk with
        | zero =>
          obtain rfl : k0 = list.length := by omega
          have hc0 : decide (((list.length : Nat) : Int) < ((list.length : Nat) : Int)) = false := by simp
          replace H := cnt_zero H
          unfold e0 at H
          replace H := unp2_hid H
          replace H := let_hid H
          obtain ⟨t_53, ht_53, H⟩ := H
          cases t_53 with
          | false =>
            replace H := ite_f H
            cases ret_hid H
            go_wp2_with fail
            go_ret3
            exact ⟨rfl, HBwr0.out⟩
          | true =>
            replace H := ite_t H
            cases ret_hid H
            go_wp2_with fail
            go_ret3
            exact ⟨rfl, HBwr0.out⟩
        | succ m0 =>
          have hlt0 : k0 < list.length := by omega
          have hc0 : decide ((k0 : Int) < ((list.length : Nat) : Int)) = true := by simp; omega
          replace H := cnt_succ H
          unfold l0 at H
          replace H := unp2_hid H
          replace H := idx_hid H
          obtain ⟨nt_23, yt_23, et_23, lt_23, gt_23, H⟩ := H
          obtain rfl : k0 = nt_23 := by omega
          clear et_23
          obtain ⟨t_23_id, t_23_town, t_23_kind_, t_23_first, t_23_last, t_23_lost⟩ := yt_23
          replace H := unPostmark_hid H
          obtain ⟨ab_t_23, ao_t_23, zt_23, At_23, z_t_23, ct_23_0, ct_23_1, ct_23_2, ct_23_3, ct_23_4, ct_23_5⟩ := Go.Proofs.YtgimcnpkngpmiaaDoor.OPostmark.at_ M0.out lt_23
          obtain rfl := Option.some.inj (gt_23.out.symm.trans z_t_23)
          subst At_23
          have ltt_23 := cell_lt ct_23_0
          replace ct_23_0 := cell_below HBwr0.out ct_23_0
          replace ct_23_1 := cell_below HBwr0.out ct_23_1
          replace ct_23_2 := cell_below HBwr0.out ct_23_2
          replace ct_23_3 := cell_below HBwr0.out ct_23_3
          replace ct_23_4 := cell_below HBwr0.out ct_23_4
          replace ct_23_5 := cell_below HBwr0.out ct_23_5
          clear z_t_23
          have b0t_23 : (0 : Int) ≤ (k0 : Int) := by omega
          have b1t_23 : (k0 : Int) < ((list.length : Nat) : Int) := by omega
          have b2t_23 : ((k0 : Int)).toNat = k0 := by omega
          replace H := let_hid H
          obtain ⟨t_27, ht_27, H⟩ := H
          replace H := join_hid H
          cases t_27 with
          | false =>
            replace H := ite_f H
            replace H := app_hid H
            replace H := ite_f H
            replace H := app_hid H
            go_wp2_with fail
            go_roundg m0
            case measure => omega
            case rel => exact ⟨k0 + 1, _, _, by omega, by go_num, rfl, rfl, H, HBwr0⟩
          | true =>
            replace H := ite_t H
            replace H := idx_hid H
            obtain ⟨nt_31, yt_31, et_31, lt_31, gt_31, H⟩ := H
            obtain rfl : k0 = nt_31 := by omega
            clear et_31
            obtain rfl := Option.some.inj (gt_23.out.symm.trans gt_31.out)
            clear gt_31 lt_31
            replace H := unPostmark_hid H
            replace H := let_hid H
            obtain ⟨t_35, ht_35, H⟩ := H
            replace H := app_hid H
            cases t_35 with
            | false =>
              replace H := ite_f H
              replace H := app_hid H
              go_wp2_with fail
              go_roundg m0
              case measure => omega
              case rel => exact ⟨k0 + 1, _, _, by omega, by go_num, rfl, rfl, H, HBwr0⟩
            | true =>
              replace H := ite_t H
              replace H := idx_hid H
              obtain ⟨nt_39, yt_39, et_39, lt_39, gt_39, H⟩ := H
              obtain rfl : k0 = nt_39 := by omega
              clear et_39
              obtain rfl := Option.some.inj (gt_23.out.symm.trans gt_39.out)
              clear gt_39 lt_39
              replace H := unPostmark_hid H
              replace H := idx_hid H
              obtain ⟨nt_45, yt_45, et_45, lt_45, gt_45, H⟩ := H
              obtain rfl : k0 = nt_45 := by omega
              clear et_45
              obtain rfl := Option.some.inj (gt_23.out.symm.trans gt_45.out)
              clear gt_45 lt_45
              replace H := unPostmark_hid H
              replace H := app_hid H
              go_wp2_with fail
              go_roundg m0
              case measure => omega
              case rel => exact ⟨k0 + 1, _, _, by omega, by go_num, rfl, rfl, H, HBwr0⟩
end Go.Proofs.YtgimcnpkngpmiaaDoor.GsLatestUse

/- loop.example/g01062/spec.DrawSameTown as a plain function, and the contract of the program's: where the plain one has an answer, the program has it. Conditions: slices read as lists. -/
namespace Go.Proofs.YtgimcnpkngpmiaaDoor.GsDrawSameTown
set_option linter.unusedVariables false
set_option linter.unusedSimpArgs false
open Go.RowKit
open Go.Proofs.YtgimcnpkngpmiaaDoor.Rowed Go.Proofs.YtgimcnpkngpmiaaDoor.Turn Go.Proofs.YtgimcnpkngpmiaaDoor.Aid Go.Proofs.YtgimcnpkngpmiaaDoor.GoP Go.Proofs.YtgimcnpkngpmiaaDoor.GoM

def P (fuel : Nat) (tapes : List Int → Go.Proofs.YtgimcnpkngpmiaaDoor.GoC.Tape) (code : (List Int)) : Option ((List Go.Proofs.YtgimcnpkngpmiaaDoor.PPostmark.Postmark) × Int × Int) :=
  letK (tapes code) fun (t_5 : Go.Proofs.YtgimcnpkngpmiaaDoor.GoC.Tape) =>
  bind2 (Go.Proofs.YtgimcnpkngpmiaaDoor.GsL1CurPostmarks11.P fuel t_5) fun (t_8 : (List Go.Proofs.YtgimcnpkngpmiaaDoor.PPostmark.Postmark)) (t_8_tp : Go.Proofs.YtgimcnpkngpmiaaDoor.GoC.Tape) =>
  bind2 (Go.Proofs.YtgimcnpkngpmiaaDoor.GsL1CurPostmarkId.P t_8_tp t_8) fun (t_13 : Int) (t_13_tp : Go.Proofs.YtgimcnpkngpmiaaDoor.GoC.Tape) =>
  bind2 (Go.Proofs.YtgimcnpkngpmiaaDoor.GsL1CurPostmarkId.P t_13_tp t_8) fun (t_16 : Int) (t_16_tp : Go.Proofs.YtgimcnpkngpmiaaDoor.GoC.Tape) =>
  some (t_8, t_13, t_16)

set_option maxRecDepth 100000 in
set_option maxHeartbeats 2000000 in
theorem C (fuel : Nat) (tapes : List Int → Go.Proofs.YtgimcnpkngpmiaaDoor.GoC.Tape) (code : (List Int)) (A0 : Option Addr) (c0 : Nat)  (w : World) (HE : Hid (Go.Proofs.YtgimcnpkngpmiaaDoor.GoC.Tells tapes)) (M0 : Hid (Cells w 1 A0 code.length (Go.Proofs.YtgimcnpkngpmiaaDoor.GoC.u8s code))) (N0 : Hid (code.length ≤ 9223372036854775807)) (V0 : Hid (∀ z ∈ code, 0 ≤ z ∧ z ≤ 255))  {r0 : (List Go.Proofs.YtgimcnpkngpmiaaDoor.PPostmark.Postmark)} {r1 : Int} {r2 : Int} (H : Hid (P fuel tapes code = some (r0, r1, r2))) :
    Calls Tryd.prog 29 #[.slice A0 code.length c0] w (fun e w' => ∃ A_r0 c_r0, e = .returned (.tuple #[.slice A_r0 r0.length c_r0, .int .i64 r1, .int .i64 r2]) ∧ w'.ownsRow w.heap.size 39 6 (.slice A_r0 r0.length c_r0) r0.length (Go.Proofs.YtgimcnpkngpmiaaDoor.PPostmark.flat r0) ∧ Below w.heap.size w w') := by
  have HB := Lib.hid (Below.refl w.heap.size w)
  unfold P at H
  have N0o := N0.out
  go_enter Tryd.func29, Tryd.ntmps29
  replace H := let_hid H
  obtain ⟨t_5, ht_5, H⟩ := H
  obtain ⟨w_t_5, hw_t_5⟩ : ∃ x, w.alloc (.cells #[.slice A0 code.length c0, .int .i64 0, .int .u64 0] 72) = x := ⟨_, rfl⟩
  have bw_t_5 : Below w.heap.size w w_t_5 := by rw [← hw_t_5]; exact (Below.refl _ _).alloc (Nat.le_refl _) _
  have Kt_5 : Hid (Go.Proofs.YtgimcnpkngpmiaaDoor.GoC.CurIs w_t_5 w.heap.size w.heap.size A0 c0 t_5) := Lib.hid (by rw [← hw_t_5, ← ht_5]; exact Go.Proofs.YtgimcnpkngpmiaaDoor.GoC.cur_new HB.out.size (Cells.below M0.out HB.out) (fun a_ ha_ h0_ => by subst ha_; exact Go.Proofs.YtgimcnpkngpmiaaDoor.GoC.cells_lt M0.out (by unfold Go.Proofs.YtgimcnpkngpmiaaDoor.GoC.u8s; rw [List.length_map]; exact h0_)) (HE.out.2.2 code V0.out N0.out))
  have hht_5 := Lib.hid ht_5
  clear ht_5
  have HBw_t_5 := Lib.hid (Below.step HB.out bw_t_5)
  clear bw_t_5
  replace H := bind2_hid H
  obtain ⟨t_8, t_8_tp, qt_8, H⟩ := H
  go_wp2_with fail
  go_at_call 59
  refine (Go.Proofs.YtgimcnpkngpmiaaDoor.GsL1CurPostmarks11.C fuel (t_5) (w.heap.size) (A0) (c0) (w.heap.size) _   Kt_5 qt_8).mono ?_
  rintro e_t_8 wt_8 ⟨At_8, ct_8, rfl, ot_8, kt_8, gt_8⟩
  have Dt_8_t_5 := Lib.hid (Go.Proofs.YtgimcnpkngpmiaaDoor.GoC.apart_callcur ot_8 Kt_5.out)
  have Ot_8 := Lib.hid (own_lower ot_8 HBw_t_5.out.size)
  clear ot_8
  have Kt_8 := Lib.hid kt_8
  have Gt_8 : Hid (w_t_5.grownBy wt_8 (Value.slice (some ⟨w.heap.size, 0, none⟩) 1 1).ownBlock) := Lib.hid gt_8
  clear kt_8 gt_8
  have HBwt_8 := Lib.hid (Go.Proofs.YtgimcnpkngpmiaaDoor.GoC.below_cur HBw_t_5.out Gt_8.out HBw_t_5.out.size (Go.Proofs.YtgimcnpkngpmiaaDoor.GoC.cur_lt Kt_5.out).1)
  clear Kt_5 Gt_8
  replace H := bind2_hid H
  obtain ⟨t_13, t_13_tp, qt_13, H⟩ := H
  go_wp2_with fail
  go_at_call 60
  refine (Go.Proofs.YtgimcnpkngpmiaaDoor.GsL1CurPostmarkId.C (t_8_tp) (t_8) At_8 ct_8 (w.heap.size) (A0) (c0) (w.heap.size) _   (Lib.hid (own_cells Ot_8.out)) (Lib.hid (own_max Ot_8.out)) Kt_8 (Lib.hid (fun _ => Dt_8_t_5.out)) qt_13).mono ?_
  rintro e_t_13 wt_13 ⟨rfl, kt_13, gt_13⟩
  have Kt_13 := Lib.hid kt_13
  have Gt_13 : Hid (wt_8.grownBy wt_13 (Value.slice (some ⟨w.heap.size, 0, none⟩) 1 1).ownBlock) := Lib.hid gt_13
  clear kt_13 gt_13
  have HBwt_13 := Lib.hid (Go.Proofs.YtgimcnpkngpmiaaDoor.GoC.below_cur HBwt_8.out Gt_13.out HBwt_8.out.size (Go.Proofs.YtgimcnpkngpmiaaDoor.GoC.cur_lt Kt_8.out).1)
  replace Ot_8 := Lib.hid (own_other Ot_8.out Gt_13.out (Apart.symm Dt_8_t_5.out))
  clear Kt_8 Gt_13
  replace H := bind2_hid H
  obtain ⟨t_16, t_16_tp, qt_16, H⟩ := H
  go_wp2_with fail
  go_at_call 60
  refine (Go.Proofs.YtgimcnpkngpmiaaDoor.GsL1CurPostmarkId.C (t_13_tp) (t_8) At_8 ct_8 (w.heap.size) (A0) (c0) (w.heap.size) _   (Lib.hid (own_cells Ot_8.out)) (Lib.hid (own_max Ot_8.out)) Kt_13 (Lib.hid (fun _ => Dt_8_t_5.out)) qt_16).mono ?_
  rintro e_t_16 wt_16 ⟨rfl, kt_16, gt_16⟩
  have Kt_16 := Lib.hid kt_16
  have Gt_16 : Hid (wt_13.grownBy wt_16 (Value.slice (some ⟨w.heap.size, 0, none⟩) 1 1).ownBlock) := Lib.hid gt_16
  clear kt_16 gt_16
  have HBwt_16 := Lib.hid (Go.Proofs.YtgimcnpkngpmiaaDoor.GoC.below_cur HBwt_13.out Gt_16.out HBwt_13.out.size (Go.Proofs.YtgimcnpkngpmiaaDoor.GoC.cur_lt Kt_13.out).1)
  replace Ot_8 := Lib.hid (own_other Ot_8.out Gt_16.out (Apart.symm Dt_8_t_5.out))
  clear Kt_13 Gt_16
  cases ret_hid H
  go_wp2_with fail
  go_ret3
  exact ⟨At_8, ct_8, rfl, Ot_8.out, HBwt_16.out⟩
end Go.Proofs.YtgimcnpkngpmiaaDoor.GsDrawSameTown

/- loop.example/g01062/impl.SameTown as a plain function, and the contract of the program's: where the plain one has an answer, the program has it. Conditions: slices read as lists. -/
namespace Go.Proofs.YtgimcnpkngpmiaaDoor.GiSameTown
set_option linter.unusedVariables false
set_option linter.unusedSimpArgs false
open Go.RowKit
open Go.Proofs.YtgimcnpkngpmiaaDoor.Rowed Go.Proofs.YtgimcnpkngpmiaaDoor.Turn Go.Proofs.YtgimcnpkngpmiaaDoor.Aid Go.Proofs.YtgimcnpkngpmiaaDoor.GoP Go.Proofs.YtgimcnpkngpmiaaDoor.GoM

def P (list : (List Go.Proofs.YtgimcnpkngpmiaaDoor.PPostmark.Postmark)) (a : Int) (b : Int) : Option (Bool × Bool) :=
  Option.bind (Go.Proofs.YtgimcnpkngpmiaaDoor.GiIndexOfPostmark.P list a) fun (t_4 : Int) =>
  Option.bind (Go.Proofs.YtgimcnpkngpmiaaDoor.GiIndexOfPostmark.P list b) fun (t_7 : Int) =>
  letK (decide (t_4 < 0)) fun (t_11 : Bool) =>
  joinK (fun (t_15 : Bool) =>
  iteK t_15
  (some (false, false))
  (Option.bind (idx list t_4) fun (yt_20 : Go.Proofs.YtgimcnpkngpmiaaDoor.PPostmark.Postmark) =>
  unPostmark yt_20 fun (t_20_id : Int) (t_20_town : ByteArray) (t_20_kind_ : Int) (t_20_first : Int) (t_20_last : Int) (t_20_lost : ByteArray) =>
  Option.bind (Go.Proofs.YtgimcnpkngpmiaaDoor.GiLoShownBy.P (Go.Proofs.YtgimcnpkngpmiaaDoor.PPostmark.Postmark.mk t_20_id t_20_town t_20_kind_ t_20_first t_20_last t_20_lost)) fun (t_22 : ByteArray) =>
  Option.bind (idx list t_7) fun (yt_25 : Go.Proofs.YtgimcnpkngpmiaaDoor.PPostmark.Postmark) =>
  unPostmark yt_25 fun (t_25_id : Int) (t_25_town : ByteArray) (t_25_kind_ : Int) (t_25_first : Int) (t_25_last : Int) (t_25_lost : ByteArray) =>
  Option.bind (Go.Proofs.YtgimcnpkngpmiaaDoor.GiLoShownBy.P (Go.Proofs.YtgimcnpkngpmiaaDoor.PPostmark.Postmark.mk t_25_id t_25_town t_25_kind_ t_25_first t_25_last t_25_lost)) fun (t_27 : ByteArray) =>
  Option.bind (Go.Proofs.YtgimcnpkngpmiaaDoor.GiReadsAs.P t_22 t_27) fun (t_28 : Bool) =>
  some (t_28, true))) fun jt_15 => iteK t_11 (appK jt_15 true) (letK (decide (t_7 < 0)) fun (t_14 : Bool) =>
  appK jt_15 t_14)

set_option maxRecDepth 100000 in
set_option maxHeartbeats 2000000 in
theorem C (list : (List Go.Proofs.YtgimcnpkngpmiaaDoor.PPostmark.Postmark)) (a : Int) (b : Int) (A0 : Option Addr) (c0 : Nat)  (w : World) (M0 : Hid (Cells w 6 A0 list.length (Go.Proofs.YtgimcnpkngpmiaaDoor.PPostmark.flat list))) (N0 : Hid (list.length ≤ 9223372036854775807))  {r0 : Bool} {r1 : Bool} (H : Hid (P list a b = some (r0, r1))) :
    Calls Tryd.prog 30 #[.slice A0 list.length c0, .int .i64 a, .int .i64 b] w (Gives (.tuple #[.bool r0, .bool r1]) w) := by
  have HB := Lib.hid (Below.refl w.heap.size w)
  unfold P at H
  have N0o := N0.out
  go_enter Tryd.func30, Tryd.ntmps30
  replace H := bind_hid H
  obtain ⟨t_4, qt_4, H⟩ := H
  go_wp2_with fail
  go_at_call 63
  refine (Go.Proofs.YtgimcnpkngpmiaaDoor.GiIndexOfPostmark.C (list) (a) A0 c0 _   (Lib.hid (Cells.below M0.out HB.out)) N0 qt_4).mono ?_
  rintro e_t_4 wt_4 ⟨rfl, bt_4⟩
  have HBwt_4 := Lib.hid (Below.step HB.out bt_4)
  clear bt_4
  replace H := bind_hid H
  obtain ⟨t_7, qt_7, H⟩ := H
  go_wp2_with fail
  go_at_call 63
  refine (Go.Proofs.YtgimcnpkngpmiaaDoor.GiIndexOfPostmark.C (list) (b) A0 c0 _   (Lib.hid (Cells.below M0.out HBwt_4.out)) N0 qt_7).mono ?_
  rintro e_t_7 wt_7 ⟨rfl, bt_7⟩
  have HBwt_7 := Lib.hid (Below.step HBwt_4.out bt_7)
  clear bt_7
  replace H := let_hid H
  obtain ⟨t_11, ht_11, H⟩ := H
  replace H := join_hid H
  cases t_11 with
  | false =>
    replace H := ite_f H
    replace H := let_hid H
    obtain ⟨t_14, ht_14, H⟩ := H
    replace H := app_hid H
    cases t_14 with
    | false =>
      replace H := ite_f H
      go_wp2_with fail
      replace H := idx_hid H
      obtain ⟨nt_20, yt_20, et_20, lt_20, gt_20, H⟩ := H
      subst et_20
      have nc_538 : ¬ (nt_20 < 0) := by have := of_decide_eq_false ht_11; omega
      obtain ⟨t_20_id, t_20_town, t_20_kind_, t_20_first, t_20_last, t_20_lost⟩ := yt_20
      replace H := unPostmark_hid H
      obtain ⟨ab_t_20, ao_t_20, zt_20, At_20, z_t_20, ct_20_0, ct_20_1, ct_20_2, ct_20_3, ct_20_4, ct_20_5⟩ := Go.Proofs.YtgimcnpkngpmiaaDoor.OPostmark.at_ M0.out lt_20
      obtain rfl := Option.some.inj (gt_20.out.symm.trans z_t_20)
      subst At_20
      have ltt_20 := cell_lt ct_20_0
      replace ct_20_0 := cell_below HBwt_7.out ct_20_0
      replace ct_20_1 := cell_below HBwt_7.out ct_20_1
      replace ct_20_2 := cell_below HBwt_7.out ct_20_2
      replace ct_20_3 := cell_below HBwt_7.out ct_20_3
      replace ct_20_4 := cell_below HBwt_7.out ct_20_4
      replace ct_20_5 := cell_below HBwt_7.out ct_20_5
      clear z_t_20
      have b0t_20 : (0 : Int) ≤ (nt_20 : Int) := by omega
      have b1t_20 : (nt_20 : Int) < ((list.length : Nat) : Int) := by omega
      have b2t_20 : ((nt_20 : Int)).toNat = nt_20 := by omega
      have Hct_20_0 := Lib.hid ct_20_0
      replace ct_20_0 := cell_regrown ct_20_0
      have Hct_20_1 := Lib.hid ct_20_1
      replace ct_20_1 := cell_regrown ct_20_1
      have Hct_20_2 := Lib.hid ct_20_2
      replace ct_20_2 := cell_regrown ct_20_2
      have Hct_20_3 := Lib.hid ct_20_3
      replace ct_20_3 := cell_regrown ct_20_3
      have Hct_20_4 := Lib.hid ct_20_4
      replace ct_20_4 := cell_regrown ct_20_4
      have Hct_20_5 := Lib.hid ct_20_5
      replace ct_20_5 := cell_regrown ct_20_5
      replace H := bind_hid H
      obtain ⟨t_22, qt_22, H⟩ := H
      have nt_22 : ∀ d os, Calls Tryd.prog 53 #[.agg #[.int .i64 t_20_id, .string t_20_town, .int .i64 t_20_kind_, .int .i64 t_20_first, .int .i64 t_20_last, .string t_20_lost]] (Go.Sort.grow (redrawn wt_7 d) os) fun e w'' => e = .returned (.string t_22) ∧ ∃ p : Regrown, w'' = Go.Sort.grow (redrawn wt_7 p.d) p.os := fun d os => Calls.regrown_of (Go.Proofs.YtgimcnpkngpmiaaDoor.GiLoShownBy.C ((Go.Proofs.YtgimcnpkngpmiaaDoor.PPostmark.Postmark.mk t_20_id t_20_town t_20_kind_ t_20_first t_20_last t_20_lost))  _    qt_22)
      replace H := idx_hid H
      obtain ⟨nt_25, yt_25, et_25, lt_25, gt_25, H⟩ := H
      subst et_25
      have nc_539 : ¬ (nt_25 < 0) := by have := of_decide_eq_false ht_14; omega
      obtain ⟨t_25_id, t_25_town, t_25_kind_, t_25_first, t_25_last, t_25_lost⟩ := yt_25
      replace H := unPostmark_hid H
      obtain ⟨ab_t_25, ao_t_25, zt_25, At_25, z_t_25, ct_25_0, ct_25_1, ct_25_2, ct_25_3, ct_25_4, ct_25_5⟩ := Go.Proofs.YtgimcnpkngpmiaaDoor.OPostmark.at_ M0.out lt_25
      obtain rfl := Option.some.inj (gt_25.out.symm.trans z_t_25)
      simp only [Option.some.injEq, Addr.mk.injEq] at At_25
      obtain ⟨rfl, rfl, _⟩ := At_25
      have ltt_25 := cell_lt ct_25_0
      replace ct_25_0 := cell_below HBwt_7.out ct_25_0
      replace ct_25_1 := cell_below HBwt_7.out ct_25_1
      replace ct_25_2 := cell_below HBwt_7.out ct_25_2
      replace ct_25_3 := cell_below HBwt_7.out ct_25_3
      replace ct_25_4 := cell_below HBwt_7.out ct_25_4
      replace ct_25_5 := cell_below HBwt_7.out ct_25_5
      clear z_t_25
      have b0t_25 : (0 : Int) ≤ (nt_25 : Int) := by omega
      have b1t_25 : (nt_25 : Int) < ((list.length : Nat) : Int) := by omega
      have b2t_25 : ((nt_25 : Int)).toNat = nt_25 := by omega
      have Hct_25_0 := Lib.hid ct_25_0
      replace ct_25_0 := cell_regrown ct_25_0
      have Hct_25_1 := Lib.hid ct_25_1
      replace ct_25_1 := cell_regrown ct_25_1
      have Hct_25_2 := Lib.hid ct_25_2
      replace ct_25_2 := cell_regrown ct_25_2
      have Hct_25_3 := Lib.hid ct_25_3
      replace ct_25_3 := cell_regrown ct_25_3
      have Hct_25_4 := Lib.hid ct_25_4
      replace ct_25_4 := cell_regrown ct_25_4
      have Hct_25_5 := Lib.hid ct_25_5
      replace ct_25_5 := cell_regrown ct_25_5
      replace H := bind_hid H
      obtain ⟨t_27, qt_27, H⟩ := H
      have nt_27 : ∀ d os, Calls Tryd.prog 53 #[.agg #[.int .i64 t_25_id, .string t_25_town, .int .i64 t_25_kind_, .int .i64 t_25_first, .int .i64 t_25_last, .string t_25_lost]] (Go.Sort.grow (redrawn wt_7 d) os) fun e w'' => e = .returned (.string t_27) ∧ ∃ p : Regrown, w'' = Go.Sort.grow (redrawn wt_7 p.d) p.os := fun d os => Calls.regrown_of (Go.Proofs.YtgimcnpkngpmiaaDoor.GiLoShownBy.C ((Go.Proofs.YtgimcnpkngpmiaaDoor.PPostmark.Postmark.mk t_25_id t_25_town t_25_kind_ t_25_first t_25_last t_25_lost))  _    qt_27)
      replace H := bind_hid H
      obtain ⟨t_28, qt_28, H⟩ := H
      have nt_28 : ∀ d os, Calls Tryd.prog 52 #[.string t_22, .string t_27] (Go.Sort.grow (redrawn wt_7 d) os) fun e w'' => e = .returned (.bool t_28) ∧ ∃ p : Regrown, w'' = Go.Sort.grow (redrawn wt_7 p.d) p.os := fun d os => Calls.regrown_of (Go.Proofs.YtgimcnpkngpmiaaDoor.GiReadsAs.C (t_22) (t_27)  _    qt_28)
      refine wp_region_quiet_below (by kernel_rfl) (by kernel_rfl) ?_
      repeat (go_big_quiet_step (first | (go_at_call 53; with_reducible exact nt_22 _ _) | (go_at_call 53; with_reducible exact nt_27 _ _) | (go_at_call 53; exact nt_22 _ _) | (go_at_call 53; exact nt_27 _ _) | (go_at_call 52; exact nt_28 _ _)))
      refine wpQuiet_nil ?_
      intro Y4 hY4
      replace hY4 := below_class hY4
      clear nt_22 nt_27 nt_28
      replace ct_20_0 := Hct_20_0.out
      clear Hct_20_0
      replace ct_20_1 := Hct_20_1.out
      clear Hct_20_1
      replace ct_20_2 := Hct_20_2.out
      clear Hct_20_2
      replace ct_20_3 := Hct_20_3.out
      clear Hct_20_3
      replace ct_20_4 := Hct_20_4.out
      clear Hct_20_4
      replace ct_20_5 := Hct_20_5.out
      clear Hct_20_5
      replace ct_25_0 := Hct_25_0.out
      clear Hct_25_0
      replace ct_25_1 := Hct_25_1.out
      clear Hct_25_1
      replace ct_25_2 := Hct_25_2.out
      clear Hct_25_2
      replace ct_25_3 := Hct_25_3.out
      clear Hct_25_3
      replace ct_25_4 := Hct_25_4.out
      clear Hct_25_4
      replace ct_25_5 := Hct_25_5.out
      clear Hct_25_5
      have HBY4 := Lib.hid (Below.step HBwt_7.out hY4)
      replace ct_20_0 := cell_below hY4 ct_20_0
      replace ct_20_1 := cell_below hY4 ct_20_1
      replace ct_20_2 := cell_below hY4 ct_20_2
      replace ct_20_3 := cell_below hY4 ct_20_3
      replace ct_20_4 := cell_below hY4 ct_20_4
      replace ct_20_5 := cell_below hY4 ct_20_5
      replace ct_25_0 := cell_below hY4 ct_25_0
      replace ct_25_1 := cell_below hY4 ct_25_1
      replace ct_25_2 := cell_below hY4 ct_25_2
      replace ct_25_3 := cell_below hY4 ct_25_3
      replace ct_25_4 := cell_below hY4 ct_25_4
      replace ct_25_5 := cell_below hY4 ct_25_5
      clear hY4
      cases ret_hid H
      go_wp2_with fail
      go_ret2
      exact ⟨rfl, HBY4.out⟩
    | true =>
      replace H := ite_t H
      cases ret_hid H
      go_wp2_with fail
      go_ret2
      exact ⟨rfl, HBwt_7.out⟩
  | true =>
    replace H := ite_t H
    replace H := app_hid H
    replace H := ite_t H
    cases ret_hid H
    go_wp2_with fail
    go_ret2
    exact ⟨rfl, HBwt_7.out⟩
end Go.Proofs.YtgimcnpkngpmiaaDoor.GiSameTown

/- loop.example/g01062/spec.l11Shown as a plain function, and the contract of the program's: where the plain one has an answer, the program has it. Conditions: slices read as lists. -/
namespace Go.Proofs.YtgimcnpkngpmiaaDoor.GsL11Shown
set_option linter.unusedVariables false
set_option linter.unusedSimpArgs false
open Go.RowKit
open Go.Proofs.YtgimcnpkngpmiaaDoor.Rowed Go.Proofs.YtgimcnpkngpmiaaDoor.Turn Go.Proofs.YtgimcnpkngpmiaaDoor.Aid Go.Proofs.YtgimcnpkngpmiaaDoor.GoP Go.Proofs.YtgimcnpkngpmiaaDoor.GoM

def l0 (p_town : ByteArray) (p_lost : ByteArray) (s : ByteArray × Int) (nx0 bk0 : ByteArray × Int → Option (ByteArray)) : Option (ByteArray) :=
  unp2 s fun s_3l0 i_4l0 =>
  letK (decide (i_4l0 < (p_town.size : Int))) fun (t_8 : Bool) =>
  iteK t_8
  (Option.bind (idx p_lost.toList i_4l0) fun (yt_12 : UInt8) =>
  letK ((yt_12.toNat : Int)) fun (t_12 : Int) =>
  letK (t_12 == 120) fun (t_13 : Bool) =>
  iteK t_13
  (guardK (s_3l0.size + (⟨#[63]⟩ : ByteArray).size ≤ maxLen) <|
  letK (s_3l0 ++ (⟨#[63]⟩ : ByteArray)) fun (t_15 : ByteArray) =>
  letK (IntKind.i64.wrap (i_4l0 + 1)) fun (t_27 : Int) =>
  appK nx0 (t_15, t_27))
  (letK (IntKind.i64.wrap (i_4l0 + 1)) fun (t_22 : Int) =>
  guardK ((0 : Int) ≤ i_4l0 ∧ (i_4l0 : Int) ≤ t_22 ∧ (t_22 : Int) ≤ (p_town.size : Int)) <|
  letK (ByteArray.extract p_town (Int.toNat i_4l0) (Int.toNat t_22)) fun (t_23 : ByteArray) =>
  guardK (s_3l0.size + t_23.size ≤ maxLen) <|
  letK (s_3l0 ++ t_23) fun (t_24 : ByteArray) =>
  letK (IntKind.i64.wrap (i_4l0 + 1)) fun (t_27 : Int) =>
  appK nx0 (t_24, t_27)))
  (appK bk0 (s_3l0, i_4l0))

def e0  (s : ByteArray × Int) : Option (ByteArray) :=
  unp2 s fun s_3l0 i_4l0 =>
  some s_3l0

def P (fuel : Nat) (p : Go.Proofs.YtgimcnpkngpmiaaDoor.PPostmark.Postmark) : Option (ByteArray) :=
  unPostmark p fun (p_id : Int) (p_town : ByteArray) (p_kind_ : Int) (p_first : Int) (p_last : Int) (p_lost : ByteArray) =>
  loopK (l0 p_town p_lost) fuel ((⟨#[]⟩ : ByteArray), 0) (e0 )

set_option maxRecDepth 100000 in
set_option maxHeartbeats 2000000 in
theorem C (fuel : Nat) (p : Go.Proofs.YtgimcnpkngpmiaaDoor.PPostmark.Postmark)   (w : World)   {r : ByteArray} (H : Hid (P fuel p = some r)) :
    Calls Tryd.prog 45 #[p.val] w (Gives (.string r) w) := by
  have HB := Lib.hid (Below.refl w.heap.size w)
  unfold P at H
  obtain ⟨p_id, p_town, p_kind_, p_first, p_last, p_lost⟩ := p
  replace H := unPostmark_hid H
  unfold Go.Proofs.YtgimcnpkngpmiaaDoor.PPostmark.Postmark.val
  go_enter Tryd.func45, Tryd.ntmps45
  obtain ⟨w_p_0, hw_p_0⟩ : ∃ x, w.alloc (.cells #[.int .i64 p_id, .string p_town, .int .i64 p_kind_, .int .i64 p_first, .int .i64 p_last, .string p_lost] 39) = x := ⟨_, rfl⟩
  have bw_p_0 : Below w.heap.size w w_p_0 := by rw [← hw_p_0]; exact (Below.refl _ _).alloc (Nat.le_refl _) _
  have HBw_p_0 := Lib.hid (Below.step HB.out bw_p_0)
  clear bw_p_0
  have kp_0_0 : w_p_0.cell? ⟨w.heap.size, 0, none⟩ = some (.int .i64 p_id) := by rw [← hw_p_0]; exact box_new _ _ _ 0 _ rfl
  have kp_0_1 : w_p_0.cell? ⟨w.heap.size, 1, none⟩ = some (.string p_town) := by rw [← hw_p_0]; exact box_new _ _ _ 1 _ rfl
  have kp_0_2 : w_p_0.cell? ⟨w.heap.size, 2, none⟩ = some (.int .i64 p_kind_) := by rw [← hw_p_0]; exact box_new _ _ _ 2 _ rfl
  have kp_0_3 : w_p_0.cell? ⟨w.heap.size, 3, none⟩ = some (.int .i64 p_first) := by rw [← hw_p_0]; exact box_new _ _ _ 3 _ rfl
  have kp_0_4 : w_p_0.cell? ⟨w.heap.size, 4, none⟩ = some (.int .i64 p_last) := by rw [← hw_p_0]; exact box_new _ _ _ 4 _ rfl
  have kp_0_5 : w_p_0.cell? ⟨w.heap.size, 5, none⟩ = some (.string p_lost) := by rw [← hw_p_0]; exact box_new _ _ _ 5 _ rfl
  go_wp2_with fail
  go_loopg [3, 4] (fuel) (fun m_ v3_ v4_ wr => ∃ (s_3l0 : ByteArray) (i_4l0 : Int), v3_ = .string s_3l0 ∧ v4_ = .int .i64 i_4l0 ∧ Hid (loopK (l0 p_town p_lost) m_ (s_3l0, i_4l0) (e0 ) = some r) ∧ Hid (Below w.heap.size w wr) ∧ wr.cell? ⟨w.heap.size, 0, none⟩ = some (.int .i64 p_id) ∧ wr.cell? ⟨w.heap.size, 1, none⟩ = some (.string p_town) ∧ wr.cell? ⟨w.heap.size, 2, none⟩ = some (.int .i64 p_kind_) ∧ wr.cell? ⟨w.heap.size, 3, none⟩ = some (.int .i64 p_first) ∧ wr.cell? ⟨w.heap.size, 4, none⟩ = some (.int .i64 p_last) ∧ wr.cell? ⟨w.heap.size, 5, none⟩ = some (.string p_lost))
  case atStart => exact ⟨_, _, rfl, rfl, H, HBw_p_0, kp_0_0, kp_0_1, kp_0_2, kp_0_3, kp_0_4, kp_0_5⟩
  case round =>
    obtain ⟨s_3l0, i_4l0, rfl, rfl, H, HBwr0, kp_0_0, kp_0_1, kp_0_2, kp_0_3, kp_0_4, kp_0_5⟩ := hrel
    rename World => wr0
    cases gk with
    | zero => exact (loop_zero H).elim
    | succ m0 =>
      replace H := loop_succ H
      unfold l0 at H
      replace H := unp2_hid H
      replace H := let_hid H
      obtain ⟨t_8, ht_8, H⟩ := H
      cases t_8 with
      | false =>
        replace H := ite_f H
        replace H := app_hid H
        unfold e0 at H
        replace H := unp2_hid H
        obtain rfl := ret_hid H
        go_wp2_with fail
        go_ret
        exact ⟨rfl, HBwr0.out⟩
      | true =>
        replace H := ite_t H
        replace H := idx_hid H
        obtain ⟨nt_12, yt_12, et_12, lt_12, gt_12, H⟩ := H
        subst et_12
        have nc_540 : nt_12 < p_town.size := by have := of_decide_eq_true ht_8; omega
        have rt_12 := byte_rule lt_12 gt_12.out
        have b0t_12 : (0 : Int) ≤ (nt_12 : Int) := by omega
        have b1t_12 : (nt_12 : Int) < (p_lost.size : Int) := by have := size_list p_lost; omega
        have b2t_12 : ((nt_12 : Int)).toNat = nt_12 := by omega
        have b3t_12 : nt_12 < p_lost.size := by have := size_list p_lost; omega
        replace H := let_hid H
        obtain ⟨t_12, ht_12, H⟩ := H
        replace H := let_hid H
        obtain ⟨t_13, ht_13, H⟩ := H
        cases t_13 with
        | false =>
          replace H := ite_f H
          replace H := let_hid H
          obtain ⟨t_22, ht_22, H⟩ := H
          replace H := guard_hid H
          obtain ⟨hl_t_23, H⟩ := H
          replace H := let_hid H
          obtain ⟨t_23, ht_23, H⟩ := H
          have ct_23 := slice_both (P := Tryd.prog) (t := 9) (k := .i64) (k' := .i64) Tryd.underlying9 ht_23 hl_t_23
          clear hl_t_23
          have hht_23 := Lib.hid ht_23
          clear ht_23
          replace H := guard_hid H
          obtain ⟨hl_t_24, H⟩ := H
          replace H := let_hid H
          obtain ⟨t_24, ht_24, H⟩ := H
          have ct_24 := cat_rule (P := Tryd.prog) ht_24 hl_t_24
          clear hl_t_24
          have hht_24 := Lib.hid ht_24
          clear ht_24
          replace H := let_hid H
          obtain ⟨t_27, ht_27, H⟩ := H
          obtain rfl := ht_22.symm.trans ht_27
          replace H := app_hid H
          go_wp2_with fail
          go_roundg m0
          case measure => omega
          case rel => exact ⟨_, _, rfl, rfl, H, HBwr0, kp_0_0, kp_0_1, kp_0_2, kp_0_3, kp_0_4, kp_0_5⟩
        | true =>
          replace H := ite_t H
          replace H := guard_hid H
          obtain ⟨hl_t_15, H⟩ := H
          replace H := let_hid H
          obtain ⟨t_15, ht_15, H⟩ := H
          have ct_15 := cat_rule (P := Tryd.prog) ht_15 hl_t_15
          clear hl_t_15
          have hht_15 := Lib.hid ht_15
          clear ht_15
          replace H := let_hid H
          obtain ⟨t_27, ht_27, H⟩ := H
          replace H := app_hid H
          go_wp2_with fail
          go_roundg m0
          case measure => omega
          case rel => exact ⟨_, _, rfl, rfl, H, HBwr0, kp_0_0, kp_0_1, kp_0_2, kp_0_3, kp_0_4, kp_0_5⟩
end Go.Proofs.YtgimcnpkngpmiaaDoor.GsL11Shown

/- loop.example/g01062/spec.l11Reads as a plain function, and the contract of the program's: where the plain one has an answer, the program has it. Conditions: slices read as lists. -/
namespace Go.Proofs.YtgimcnpkngpmiaaDoor.GsL11Reads
set_option linter.unusedVariables false
set_option linter.unusedSimpArgs false
open Go.RowKit
open Go.Proofs.YtgimcnpkngpmiaaDoor.Rowed Go.Proofs.YtgimcnpkngpmiaaDoor.Turn Go.Proofs.YtgimcnpkngpmiaaDoor.Aid Go.Proofs.YtgimcnpkngpmiaaDoor.GoP Go.Proofs.YtgimcnpkngpmiaaDoor.GoM

def l0 (a : ByteArray) (b : ByteArray) (k0 : Nat) (s : Unit) (nx0 bk0 : Unit → Option (Bool)) : Option (Bool) :=
  
  Option.bind (idx a.toList (k0 : Int)) fun (yt_14 : UInt8) =>
  letK ((yt_14.toNat : Int)) fun (t_14 : Int) =>
  Option.bind (idx b.toList (k0 : Int)) fun (yt_17 : UInt8) =>
  letK ((yt_17.toNat : Int)) fun (t_17 : Int) =>
  letK (t_14 != t_17) fun (t_18 : Bool) =>
  joinK (fun (t_24 : Bool) =>
  joinK (fun (t_30 : Bool) =>
  iteK t_30
  (some false)
  (appK nx0 ())) fun jt_30 => iteK t_24 (Option.bind (idx b.toList (k0 : Int)) fun (yt_28 : UInt8) =>
  letK ((yt_28.toNat : Int)) fun (t_28 : Int) =>
  letK (t_28 != 63) fun (t_29 : Bool) =>
  appK jt_30 t_29) (appK jt_30 false)) fun jt_24 => iteK t_18 (Option.bind (idx a.toList (k0 : Int)) fun (yt_22 : UInt8) =>
  letK ((yt_22.toNat : Int)) fun (t_22 : Int) =>
  letK (t_22 != 63) fun (t_23 : Bool) =>
  appK jt_24 t_23) (appK jt_24 false)

def e0  (s : Unit) : Option (Bool) :=
  
  some true

def P (a : ByteArray) (b : ByteArray) : Option (Bool) :=
  letK ((a.size : Int) != (b.size : Int)) fun (t_5 : Bool) =>
  iteK t_5
  (some false)
  (guardK (a.size ≤ 9223372036854775807) <|
  cntK (l0 a b) (a.size) 0 () (e0 ))

set_option maxRecDepth 100000 in
set_option maxHeartbeats 2000000 in
theorem C (a : ByteArray) (b : ByteArray)   (w : World)   {r : Bool} (H : Hid (P a b = some r)) :
    Calls Tryd.prog 44 #[.string a, .string b] w (Gives (.bool r) w) := by
  have HB := Lib.hid (Below.refl w.heap.size w)
  unfold P at H
  go_enter Tryd.func44, Tryd.ntmps44
  replace H := let_hid H
  obtain ⟨t_5, ht_5, H⟩ := H
  cases t_5 with
  | false =>
    have Hht_5 : Hid (a.size = b.size) := Lib.hid (by have := bne_eq_false_iff_eq.1 ht_5; omega)
    have nht_5 : (a.size == b.size) = true := beq_iff_eq.2 Hht_5.out
    replace H := ite_f H
    replace H := guard_hid H
    obtain ⟨hg0, H⟩ := H
    go_wp2_with fail
    go_loopg [5] (a.size) (fun m_ v5_ wr => ∃ (k0 : Nat) , k0 + m_ = a.size ∧ v5_ = .int .i64 (k0 : Int) ∧ Hid (cntK (l0 a b) m_ k0 () (e0 ) = some r) ∧ Hid (Below w.heap.size w wr))
    case atStart => exact ⟨0, by omega, rfl, H, HB⟩
    case round =>
      obtain ⟨k0, hkm0, rfl, H, HBwr0⟩ := hrel
      rename World => wr0
      cases gk with
      | zero =>
        obtain rfl : k0 = a.size := by omega
        have hc0 : decide (((a.size : Nat) : Int) < ((a.size : Nat) : Int)) = false := by simp
        replace H := cnt_zero H
        unfold e0 at H
        obtain rfl := ret_hid H
        go_wp2_with fail
        go_ret
        exact ⟨rfl, HBwr0.out⟩
      | succ m0 =>
        have hlt0 : k0 < a.size := by omega
        have hc0 : decide ((k0 : Int) < ((a.size : Nat) : Int)) = true := by simp; omega
        replace H := cnt_succ H
        unfold l0 at H
        go_wp2_with fail
        replace H := idx_hid H
        obtain ⟨nt_14, yt_14, et_14, lt_14, gt_14, H⟩ := H
        obtain rfl : k0 = nt_14 := by omega
        clear et_14
        have rt_14 := byte_rule lt_14 gt_14.out
        have b0t_14 : (0 : Int) ≤ (k0 : Int) := by omega
        have b1t_14 : (k0 : Int) < (a.size : Int) := by have := size_list a; omega
        have b2t_14 : ((k0 : Int)).toNat = k0 := by omega
        have b3t_14 : k0 < a.size := by have := size_list a; omega
        replace H := let_hid H
        obtain ⟨t_14, ht_14, H⟩ := H
        replace H := idx_hid H
        obtain ⟨nt_17, yt_17, et_17, lt_17, gt_17, H⟩ := H
        obtain rfl : k0 = nt_17 := by omega
        clear et_17
        have rt_17 := byte_rule lt_17 gt_17.out
        have b0t_17 : (0 : Int) ≤ (k0 : Int) := by omega
        have b1t_17 : (k0 : Int) < (b.size : Int) := by have := size_list b; omega
        have b2t_17 : ((k0 : Int)).toNat = k0 := by omega
        have b3t_17 : k0 < b.size := by have := size_list b; omega
        replace H := let_hid H
        obtain ⟨t_17, ht_17, H⟩ := H
        replace H := let_hid H
        obtain ⟨t_18, ht_18, H⟩ := H
        replace H := join_hid H
        cases t_18 with
        | false =>
          replace H := ite_f H
          replace H := app_hid H
          replace H := join_hid H
          replace H := ite_f H
          replace H := app_hid H
          refine wp_region_quiet_below (by kernel_rfl) (by kernel_rfl) ?_
          repeat (go_big_quiet_step (fail))
          refine wpQuiet_nil ?_
          intro Y6 hY6
          replace hY6 := below_class hY6
          have HBY6 := Lib.hid (Below.step HBwr0.out hY6)
          clear hY6
          replace H := ite_f H
          replace H := app_hid H
          go_wp2_with fail
          go_roundg m0
          case measure => omega
          case rel => exact ⟨k0 + 1, by omega, by go_num, H, HBY6⟩
        | true =>
          replace H := ite_t H
          replace H := idx_hid H
          obtain ⟨nt_22, yt_22, et_22, lt_22, gt_22, H⟩ := H
          obtain rfl : k0 = nt_22 := by omega
          clear et_22
          obtain rfl := Option.some.inj (gt_14.out.symm.trans gt_22.out)
          clear gt_22 lt_22
          replace H := let_hid H
          obtain ⟨t_22, ht_22, H⟩ := H
          obtain rfl := ht_14.symm.trans ht_22
          replace H := let_hid H
          obtain ⟨t_23, ht_23, H⟩ := H
          replace H := app_hid H
          replace H := join_hid H
          cases t_23 with
          | false =>
            replace H := ite_f H
            replace H := app_hid H
            refine wp_region_quiet_below (by kernel_rfl) (by kernel_rfl) ?_
            repeat (go_big_quiet_step (fail))
            refine wpQuiet_nil ?_
            intro Y6 hY6
            replace hY6 := below_class hY6
            have HBY6 := Lib.hid (Below.step HBwr0.out hY6)
            clear hY6
            replace H := ite_f H
            replace H := app_hid H
            go_wp2_with fail
            go_roundg m0
            case measure => omega
            case rel => exact ⟨k0 + 1, by omega, by go_num, H, HBY6⟩
          | true =>
            replace H := ite_t H
            replace H := idx_hid H
            obtain ⟨nt_28, yt_28, et_28, lt_28, gt_28, H⟩ := H
            obtain rfl : k0 = nt_28 := by omega
            clear et_28
            obtain rfl := Option.some.inj (gt_17.out.symm.trans gt_28.out)
            clear gt_28 lt_28
            replace H := let_hid H
            obtain ⟨t_28, ht_28, H⟩ := H
            obtain rfl := ht_17.symm.trans ht_28
            replace H := let_hid H
            obtain ⟨t_29, ht_29, H⟩ := H
            replace H := app_hid H
            refine wp_region_quiet_below (by kernel_rfl) (by kernel_rfl) ?_
            repeat (go_big_quiet_step (fail))
            refine wpQuiet_nil ?_
            intro Y6 hY6
            replace hY6 := below_class hY6
            have HBY6 := Lib.hid (Below.step HBwr0.out hY6)
            clear hY6
            cases t_29 with
            | false =>
              replace H := ite_f H
              replace H := app_hid H
              go_wp2_with fail
              go_roundg m0
              case measure => omega
              case rel => exact ⟨k0 + 1, by omega, by go_num, H, HBY6⟩
            | true =>
              replace H := ite_t H
              obtain rfl := ret_hid H
              go_wp2_with fail
              go_ret
              exact ⟨rfl, HBY6.out⟩
  | true =>
    have nht_5 : ¬ (a.size = b.size) := by have := bne_iff_ne.1 ht_5; omega
    replace H := ite_t H
    obtain rfl := ret_hid H
    go_wp2_with fail
    go_ret
    exact ⟨rfl, HB.out⟩
end Go.Proofs.YtgimcnpkngpmiaaDoor.GsL11Reads

/- loop.example/g01062/spec.SameTown as a plain function, and the contract of the program's: where the plain one has an answer, the program has it. Conditions: slices read as lists. -/
namespace Go.Proofs.YtgimcnpkngpmiaaDoor.GsSameTown
set_option linter.unusedVariables false
set_option linter.unusedSimpArgs false
open Go.RowKit
open Go.Proofs.YtgimcnpkngpmiaaDoor.Rowed Go.Proofs.YtgimcnpkngpmiaaDoor.Turn Go.Proofs.YtgimcnpkngpmiaaDoor.Aid Go.Proofs.YtgimcnpkngpmiaaDoor.GoP Go.Proofs.YtgimcnpkngpmiaaDoor.GoM

def P (fuel : Nat) (list : (List Go.Proofs.YtgimcnpkngpmiaaDoor.PPostmark.Postmark)) (a : Int) (b : Int) : Option (Bool × Bool) :=
  Option.bind (Go.Proofs.YtgimcnpkngpmiaaDoor.GsL11Find.P list a) fun (t_4 : Int) =>
  Option.bind (Go.Proofs.YtgimcnpkngpmiaaDoor.GsL11Find.P list b) fun (t_7 : Int) =>
  Option.bind (Go.Proofs.YtgimcnpkngpmiaaDoor.GsL11Good.P fuel list) fun (t_11 : Bool) =>
  letK (!t_11) fun (t_12 : Bool) =>
  joinK (fun (t_16 : Bool) =>
  joinK (fun (t_20 : Bool) =>
  iteK t_20
  (some (false, false))
  (Option.bind (idx list t_4) fun (yt_25 : Go.Proofs.YtgimcnpkngpmiaaDoor.PPostmark.Postmark) =>
  unPostmark yt_25 fun (t_25_id : Int) (t_25_town : ByteArray) (t_25_kind_ : Int) (t_25_first : Int) (t_25_last : Int) (t_25_lost : ByteArray) =>
  Option.bind (Go.Proofs.YtgimcnpkngpmiaaDoor.GsL11Shown.P fuel (Go.Proofs.YtgimcnpkngpmiaaDoor.PPostmark.Postmark.mk t_25_id t_25_town t_25_kind_ t_25_first t_25_last t_25_lost)) fun (t_27 : ByteArray) =>
  Option.bind (idx list t_7) fun (yt_30 : Go.Proofs.YtgimcnpkngpmiaaDoor.PPostmark.Postmark) =>
  unPostmark yt_30 fun (t_30_id : Int) (t_30_town : ByteArray) (t_30_kind_ : Int) (t_30_first : Int) (t_30_last : Int) (t_30_lost : ByteArray) =>
  Option.bind (Go.Proofs.YtgimcnpkngpmiaaDoor.GsL11Shown.P fuel (Go.Proofs.YtgimcnpkngpmiaaDoor.PPostmark.Postmark.mk t_30_id t_30_town t_30_kind_ t_30_first t_30_last t_30_lost)) fun (t_32 : ByteArray) =>
  Option.bind (Go.Proofs.YtgimcnpkngpmiaaDoor.GsL11Reads.P t_27 t_32) fun (t_33 : Bool) =>
  some (t_33, true))) fun jt_20 => iteK t_16 (appK jt_20 true) (letK (decide (t_7 < 0)) fun (t_19 : Bool) =>
  appK jt_20 t_19)) fun jt_16 => iteK t_12 (appK jt_16 true) (letK (decide (t_4 < 0)) fun (t_15 : Bool) =>
  appK jt_16 t_15)

set_option maxRecDepth 100000 in
set_option maxHeartbeats 2000000 in
theorem C (fuel : Nat) (list : (List Go.Proofs.YtgimcnpkngpmiaaDoor.PPostmark.Postmark)) (a : Int) (b : Int) (A0 : Option Addr) (c0 : Nat)  (w : World) (M0 : Hid (Cells w 6 A0 list.length (Go.Proofs.YtgimcnpkngpmiaaDoor.PPostmark.flat list))) (N0 : Hid (list.length ≤ 9223372036854775807))  {r0 : Bool} {r1 : Bool} (H : Hid (P fuel list a b = some (r0, r1))) :
    Calls Tryd.prog 31 #[.slice A0 list.length c0, .int .i64 a, .int .i64 b] w (Gives (.tuple #[.bool r0, .bool r1]) w) := by
  have HB := Lib.hid (Below.refl w.heap.size w)
  unfold P at H
  have N0o := N0.out
  go_enter Tryd.func31, Tryd.ntmps31
  replace H := bind_hid H
  obtain ⟨t_4, qt_4, H⟩ := H
  go_wp2_with fail
  go_at_call 66
  refine (Go.Proofs.YtgimcnpkngpmiaaDoor.GsL11Find.C (list) (a) A0 c0 _   (Lib.hid (Cells.below M0.out HB.out)) N0 qt_4).mono ?_
  rintro e_t_4 wt_4 ⟨rfl, bt_4⟩
  have HBwt_4 := Lib.hid (Below.step HB.out bt_4)
  clear bt_4
  replace H := bind_hid H
  obtain ⟨t_7, qt_7, H⟩ := H
  go_wp2_with fail
  go_at_call 66
  refine (Go.Proofs.YtgimcnpkngpmiaaDoor.GsL11Find.C (list) (b) A0 c0 _   (Lib.hid (Cells.below M0.out HBwt_4.out)) N0 qt_7).mono ?_
  rintro e_t_7 wt_7 ⟨rfl, bt_7⟩
  have HBwt_7 := Lib.hid (Below.step HBwt_4.out bt_7)
  clear bt_7
  replace H := bind_hid H
  obtain ⟨t_11, qt_11, H⟩ := H
  go_wp2_with fail
  go_at_call 40
  refine (Go.Proofs.YtgimcnpkngpmiaaDoor.GsL11Good.C fuel (list) A0 c0 _   (Lib.hid (Cells.below M0.out HBwt_7.out)) N0 qt_11).mono ?_
  rintro e_t_11 wt_11 ⟨rfl, bt_11⟩
  have HBwt_11 := Lib.hid (Below.step HBwt_7.out bt_11)
  clear bt_11
  cases t_11 with
  | false =>
    replace H := let_hid H
    obtain ⟨t_12, ht_12, H⟩ := H
    obtain rfl : t_12 = true := ht_12.symm
    replace H := join_hid H
    replace H := ite_t H
    replace H := app_hid H
    replace H := join_hid H
    replace H := ite_t H
    replace H := app_hid H
    replace H := ite_t H
    cases ret_hid H
    go_wp2_with fail
    go_ret2
    exact ⟨rfl, HBwt_11.out⟩
  | true =>
    replace H := let_hid H
    obtain ⟨t_12, ht_12, H⟩ := H
    obtain rfl : t_12 = false := ht_12.symm
    replace H := join_hid H
    replace H := ite_f H
    replace H := let_hid H
    obtain ⟨t_15, ht_15, H⟩ := H
    replace H := app_hid H
    replace H := join_hid H
    cases t_15 with
    | false =>
      replace H := ite_f H
      replace H := let_hid H
      obtain ⟨t_19, ht_19, H⟩ := H
      replace H := app_hid H
      cases t_19 with
      | false =>
        replace H := ite_f H
        go_wp2_with fail
        replace H := idx_hid H
        obtain ⟨nt_25, yt_25, et_25, lt_25, gt_25, H⟩ := H
        subst et_25
        have nc_541 : ¬ (nt_25 < 0) := by have := of_decide_eq_false ht_15; omega
        obtain ⟨t_25_id, t_25_town, t_25_kind_, t_25_first, t_25_last, t_25_lost⟩ := yt_25
        replace H := unPostmark_hid H
        obtain ⟨ab_t_25, ao_t_25, zt_25, At_25, z_t_25, ct_25_0, ct_25_1, ct_25_2, ct_25_3, ct_25_4, ct_25_5⟩ := Go.Proofs.YtgimcnpkngpmiaaDoor.OPostmark.at_ M0.out lt_25
        obtain rfl := Option.some.inj (gt_25.out.symm.trans z_t_25)
        subst At_25
        have ltt_25 := cell_lt ct_25_0
        replace ct_25_0 := cell_below HBwt_11.out ct_25_0
        replace ct_25_1 := cell_below HBwt_11.out ct_25_1
        replace ct_25_2 := cell_below HBwt_11.out ct_25_2
        replace ct_25_3 := cell_below HBwt_11.out ct_25_3
        replace ct_25_4 := cell_below HBwt_11.out ct_25_4
        replace ct_25_5 := cell_below HBwt_11.out ct_25_5
        clear z_t_25
        have b0t_25 : (0 : Int) ≤ (nt_25 : Int) := by omega
        have b1t_25 : (nt_25 : Int) < ((list.length : Nat) : Int) := by omega
        have b2t_25 : ((nt_25 : Int)).toNat = nt_25 := by omega
        have Hct_25_0 := Lib.hid ct_25_0
        replace ct_25_0 := cell_regrown ct_25_0
        have Hct_25_1 := Lib.hid ct_25_1
        replace ct_25_1 := cell_regrown ct_25_1
        have Hct_25_2 := Lib.hid ct_25_2
        replace ct_25_2 := cell_regrown ct_25_2
        have Hct_25_3 := Lib.hid ct_25_3
        replace ct_25_3 := cell_regrown ct_25_3
        have Hct_25_4 := Lib.hid ct_25_4
        replace ct_25_4 := cell_regrown ct_25_4
        have Hct_25_5 := Lib.hid ct_25_5
        replace ct_25_5 := cell_regrown ct_25_5
        replace H := bind_hid H
        obtain ⟨t_27, qt_27, H⟩ := H
        have nt_27 : ∀ d os, Calls Tryd.prog 45 #[.agg #[.int .i64 t_25_id, .string t_25_town, .int .i64 t_25_kind_, .int .i64 t_25_first, .int .i64 t_25_last, .string t_25_lost]] (Go.Sort.grow (redrawn wt_11 d) os) fun e w'' => e = .returned (.string t_27) ∧ ∃ p : Regrown, w'' = Go.Sort.grow (redrawn wt_11 p.d) p.os := fun d os => Calls.regrown_of (Go.Proofs.YtgimcnpkngpmiaaDoor.GsL11Shown.C fuel ((Go.Proofs.YtgimcnpkngpmiaaDoor.PPostmark.Postmark.mk t_25_id t_25_town t_25_kind_ t_25_first t_25_last t_25_lost))  _    qt_27)
        replace H := idx_hid H
        obtain ⟨nt_30, yt_30, et_30, lt_30, gt_30, H⟩ := H
        subst et_30
        have nc_542 : ¬ (nt_30 < 0) := by have := of_decide_eq_false ht_19; omega
        obtain ⟨t_30_id, t_30_town, t_30_kind_, t_30_first, t_30_last, t_30_lost⟩ := yt_30
        replace H := unPostmark_hid H
        obtain ⟨ab_t_30, ao_t_30, zt_30, At_30, z_t_30, ct_30_0, ct_30_1, ct_30_2, ct_30_3, ct_30_4, ct_30_5⟩ := Go.Proofs.YtgimcnpkngpmiaaDoor.OPostmark.at_ M0.out lt_30
        obtain rfl := Option.some.inj (gt_30.out.symm.trans z_t_30)
        simp only [Option.some.injEq, Addr.mk.injEq] at At_30
        obtain ⟨rfl, rfl, _⟩ := At_30
        have ltt_30 := cell_lt ct_30_0
        replace ct_30_0 := cell_below HBwt_11.out ct_30_0
        replace ct_30_1 := cell_below HBwt_11.out ct_30_1
        replace ct_30_2 := cell_below HBwt_11.out ct_30_2
        replace ct_30_3 := cell_below HBwt_11.out ct_30_3
        replace ct_30_4 := cell_below HBwt_11.out ct_30_4
        replace ct_30_5 := cell_below HBwt_11.out ct_30_5
        clear z_t_30
        have b0t_30 : (0 : Int) ≤ (nt_30 : Int) := by omega
        have b1t_30 : (nt_30 : Int) < ((list.length : Nat) : Int) := by omega
        have b2t_30 : ((nt_30 : Int)).toNat = nt_30 := by omega
        have Hct_30_0 := Lib.hid ct_30_0
        replace ct_30_0 := cell_regrown ct_30_0
        have Hct_30_1 := Lib.hid ct_30_1
        replace ct_30_1 := cell_regrown ct_30_1
        have Hct_30_2 := Lib.hid ct_30_2
        replace ct_30_2 := cell_regrown ct_30_2
        have Hct_30_3 := Lib.hid ct_30_3
        replace ct_30_3 := cell_regrown ct_30_3
        have Hct_30_4 := Lib.hid ct_30_4
        replace ct_30_4 := cell_regrown ct_30_4
        have Hct_30_5 := Lib.hid ct_30_5
        replace ct_30_5 := cell_regrown ct_30_5
        replace H := bind_hid H
        obtain ⟨t_32, qt_32, H⟩ := H
        have nt_32 : ∀ d os, Calls Tryd.prog 45 #[.agg #[.int .i64 t_30_id, .string t_30_town, .int .i64 t_30_kind_, .int .i64 t_30_first, .int .i64 t_30_last, .string t_30_lost]] (Go.Sort.grow (redrawn wt_11 d) os) fun e w'' => e = .returned (.string t_32) ∧ ∃ p : Regrown, w'' = Go.Sort.grow (redrawn wt_11 p.d) p.os := fun d os => Calls.regrown_of (Go.Proofs.YtgimcnpkngpmiaaDoor.GsL11Shown.C fuel ((Go.Proofs.YtgimcnpkngpmiaaDoor.PPostmark.Postmark.mk t_30_id t_30_town t_30_kind_ t_30_first t_30_last t_30_lost))  _    qt_32)
        replace H := bind_hid H
        obtain ⟨t_33, qt_33, H⟩ := H
        have nt_33 : ∀ d os, Calls Tryd.prog 44 #[.string t_27, .string t_32] (Go.Sort.grow (redrawn wt_11 d) os) fun e w'' => e = .returned (.bool t_33) ∧ ∃ p : Regrown, w'' = Go.Sort.grow (redrawn wt_11 p.d) p.os := fun d os => Calls.regrown_of (Go.Proofs.YtgimcnpkngpmiaaDoor.GsL11Reads.C (t_27) (t_32)  _    qt_33)
        refine wp_region_quiet_below (by kernel_rfl) (by kernel_rfl) ?_
        repeat (go_big_quiet_step (first | (go_at_call 45; with_reducible exact nt_27 _ _) | (go_at_call 45; with_reducible exact nt_32 _ _) | (go_at_call 45; exact nt_27 _ _) | (go_at_call 45; exact nt_32 _ _) | (go_at_call 44; exact nt_33 _ _)))
        refine wpQuiet_nil ?_
        intro Y4 hY4
        replace hY4 := below_class hY4
        clear nt_27 nt_32 nt_33
        replace ct_25_0 := Hct_25_0.out
        clear Hct_25_0
        replace ct_25_1 := Hct_25_1.out
        clear Hct_25_1
        replace ct_25_2 := Hct_25_2.out
        clear Hct_25_2
        replace ct_25_3 := Hct_25_3.out
        clear Hct_25_3
        replace ct_25_4 := Hct_25_4.out
        clear Hct_25_4
        replace ct_25_5 := Hct_25_5.out
        clear Hct_25_5
        replace ct_30_0 := Hct_30_0.out
        clear Hct_30_0
        replace ct_30_1 := Hct_30_1.out
        clear Hct_30_1
        replace ct_30_2 := Hct_30_2.out
        clear Hct_30_2
        replace ct_30_3 := Hct_30_3.out
        clear Hct_30_3
        replace ct_30_4 := Hct_30_4.out
        clear Hct_30_4
        replace ct_30_5 := Hct_30_5.out
        clear Hct_30_5
        have HBY4 := Lib.hid (Below.step HBwt_11.out hY4)
        replace ct_25_0 := cell_below hY4 ct_25_0
        replace ct_25_1 := cell_below hY4 ct_25_1
        replace ct_25_2 := cell_below hY4 ct_25_2
        replace ct_25_3 := cell_below hY4 ct_25_3
        replace ct_25_4 := cell_below hY4 ct_25_4
        replace ct_25_5 := cell_below hY4 ct_25_5
        replace ct_30_0 := cell_below hY4 ct_30_0
        replace ct_30_1 := cell_below hY4 ct_30_1
        replace ct_30_2 := cell_below hY4 ct_30_2
        replace ct_30_3 := cell_below hY4 ct_30_3
        replace ct_30_4 := cell_below hY4 ct_30_4
        replace ct_30_5 := cell_below hY4 ct_30_5
        clear hY4
        cases ret_hid H
        go_wp2_with fail
        go_ret2
        exact ⟨rfl, HBY4.out⟩
      | true =>
        replace H := ite_t H
        cases ret_hid H
        go_wp2_with fail
        go_ret2
        exact ⟨rfl, HBwt_11.out⟩
    | true =>
      replace H := ite_t H
      replace H := app_hid H
      replace H := ite_t H
      cases ret_hid H
      go_wp2_with fail
      go_ret2
      exact ⟨rfl, HBwt_11.out⟩
end Go.Proofs.YtgimcnpkngpmiaaDoor.GsSameTown

/- loop.example/g01062/spec.ShownBy as a plain function, and the contract of the program's: where the plain one has an answer, the program has it. Conditions: slices read as lists. -/
namespace Go.Proofs.YtgimcnpkngpmiaaDoor.GsShownBy
set_option linter.unusedVariables false
set_option linter.unusedSimpArgs false
open Go.RowKit
open Go.Proofs.YtgimcnpkngpmiaaDoor.Rowed Go.Proofs.YtgimcnpkngpmiaaDoor.Turn Go.Proofs.YtgimcnpkngpmiaaDoor.Aid Go.Proofs.YtgimcnpkngpmiaaDoor.GoP Go.Proofs.YtgimcnpkngpmiaaDoor.GoM

def P (fuel : Nat) (p : Go.Proofs.YtgimcnpkngpmiaaDoor.PPostmark.Postmark) : Option (ByteArray × Bool) :=
  unPostmark p fun (p_id : Int) (p_town : ByteArray) (p_kind_ : Int) (p_first : Int) (p_last : Int) (p_lost : ByteArray) =>
  Option.bind (Go.Proofs.YtgimcnpkngpmiaaDoor.GsL11One.P fuel (Go.Proofs.YtgimcnpkngpmiaaDoor.PPostmark.Postmark.mk p_id p_town p_kind_ p_first p_last p_lost)) fun (t_4 : Bool) =>
  letK (!t_4) fun (t_5 : Bool) =>
  iteK t_5
  (some ((⟨#[]⟩ : ByteArray), false))
  (Option.bind (Go.Proofs.YtgimcnpkngpmiaaDoor.GsL11Shown.P fuel (Go.Proofs.YtgimcnpkngpmiaaDoor.PPostmark.Postmark.mk p_id p_town p_kind_ p_first p_last p_lost)) fun (t_9 : ByteArray) =>
  some (t_9, true))

set_option maxRecDepth 100000 in
set_option maxHeartbeats 2000000 in
theorem C (fuel : Nat) (p : Go.Proofs.YtgimcnpkngpmiaaDoor.PPostmark.Postmark)   (w : World)   {r0 : ByteArray} {r1 : Bool} (H : Hid (P fuel p = some (r0, r1))) :
    Calls Tryd.prog 34 #[p.val] w (Gives (.tuple #[.string r0, .bool r1]) w) := by
  have HB := Lib.hid (Below.refl w.heap.size w)
  unfold P at H
  obtain ⟨p_id, p_town, p_kind_, p_first, p_last, p_lost⟩ := p
  replace H := unPostmark_hid H
  unfold Go.Proofs.YtgimcnpkngpmiaaDoor.PPostmark.Postmark.val
  go_enter Tryd.func34, Tryd.ntmps34
  obtain ⟨w_p_0, hw_p_0⟩ : ∃ x, w.alloc (.cells #[.int .i64 p_id, .string p_town, .int .i64 p_kind_, .int .i64 p_first, .int .i64 p_last, .string p_lost] 39) = x := ⟨_, rfl⟩
  have bw_p_0 : Below w.heap.size w w_p_0 := by rw [← hw_p_0]; exact (Below.refl _ _).alloc (Nat.le_refl _) _
  have HBw_p_0 := Lib.hid (Below.step HB.out bw_p_0)
  clear bw_p_0
  have kp_0_0 : w_p_0.cell? ⟨w.heap.size, 0, none⟩ = some (.int .i64 p_id) := by rw [← hw_p_0]; exact box_new _ _ _ 0 _ rfl
  have kp_0_1 : w_p_0.cell? ⟨w.heap.size, 1, none⟩ = some (.string p_town) := by rw [← hw_p_0]; exact box_new _ _ _ 1 _ rfl
  have kp_0_2 : w_p_0.cell? ⟨w.heap.size, 2, none⟩ = some (.int .i64 p_kind_) := by rw [← hw_p_0]; exact box_new _ _ _ 2 _ rfl
  have kp_0_3 : w_p_0.cell? ⟨w.heap.size, 3, none⟩ = some (.int .i64 p_first) := by rw [← hw_p_0]; exact box_new _ _ _ 3 _ rfl
  have kp_0_4 : w_p_0.cell? ⟨w.heap.size, 4, none⟩ = some (.int .i64 p_last) := by rw [← hw_p_0]; exact box_new _ _ _ 4 _ rfl
  have kp_0_5 : w_p_0.cell? ⟨w.heap.size, 5, none⟩ = some (.string p_lost) := by rw [← hw_p_0]; exact box_new _ _ _ 5 _ rfl
  replace H := bind_hid H
  obtain ⟨t_4, qt_4, H⟩ := H
  go_wp2_with fail
  go_at_call 56
  refine (Go.Proofs.YtgimcnpkngpmiaaDoor.GsL11One.C fuel ((Go.Proofs.YtgimcnpkngpmiaaDoor.PPostmark.Postmark.mk p_id p_town p_kind_ p_first p_last p_lost))  _    qt_4).mono ?_
  rintro e_t_4 wt_4 ⟨rfl, bt_4⟩
  have HBwt_4 := Lib.hid (Below.step HBw_p_0.out bt_4)
  replace kp_0_0 := cell_below bt_4 kp_0_0
  replace kp_0_1 := cell_below bt_4 kp_0_1
  replace kp_0_2 := cell_below bt_4 kp_0_2
  replace kp_0_3 := cell_below bt_4 kp_0_3
  replace kp_0_4 := cell_below bt_4 kp_0_4
  replace kp_0_5 := cell_below bt_4 kp_0_5
  clear bt_4
  cases t_4 with
  | false =>
    replace H := let_hid H
    obtain ⟨t_5, ht_5, H⟩ := H
    obtain rfl : t_5 = true := ht_5.symm
    replace H := ite_t H
    cases ret_hid H
    go_wp2_with fail
    go_ret2
    exact ⟨rfl, HBwt_4.out⟩
  | true =>
    replace H := let_hid H
    obtain ⟨t_5, ht_5, H⟩ := H
    obtain rfl : t_5 = false := ht_5.symm
    replace H := ite_f H
    replace H := bind_hid H
    obtain ⟨t_9, qt_9, H⟩ := H
    go_wp2_with fail
    go_at_call 45
    refine (Go.Proofs.YtgimcnpkngpmiaaDoor.GsL11Shown.C fuel ((Go.Proofs.YtgimcnpkngpmiaaDoor.PPostmark.Postmark.mk p_id p_town p_kind_ p_first p_last p_lost))  _    qt_9).mono ?_
    rintro e_t_9 wt_9 ⟨rfl, bt_9⟩
    have HBwt_9 := Lib.hid (Below.step HBwt_4.out bt_9)
    replace kp_0_0 := cell_below bt_9 kp_0_0
    replace kp_0_1 := cell_below bt_9 kp_0_1
    replace kp_0_2 := cell_below bt_9 kp_0_2
    replace kp_0_3 := cell_below bt_9 kp_0_3
    replace kp_0_4 := cell_below bt_9 kp_0_4
    replace kp_0_5 := cell_below bt_9 kp_0_5
    clear bt_9
    cases ret_hid H
    go_wp2_with fail
    go_ret2
    exact ⟨rfl, HBwt_9.out⟩
end Go.Proofs.YtgimcnpkngpmiaaDoor.GsShownBy

/- loop.example/g01062/spec.l1Most as a plain function, and the contract of the program's: where the plain one has an answer, the program has it. Conditions: slices read as lists. -/
namespace Go.Proofs.YtgimcnpkngpmiaaDoor.GsL1Most
set_option linter.unusedVariables false
set_option linter.unusedSimpArgs false
open Go.RowKit
open Go.Proofs.YtgimcnpkngpmiaaDoor.Rowed Go.Proofs.YtgimcnpkngpmiaaDoor.Turn Go.Proofs.YtgimcnpkngpmiaaDoor.Aid Go.Proofs.YtgimcnpkngpmiaaDoor.GoP Go.Proofs.YtgimcnpkngpmiaaDoor.GoM

def P (a : Int) (b : Int) : Option (Int) :=
  letK (decide (b < a)) fun (t_3 : Bool) =>
  iteK t_3
  (some a)
  (some b)

set_option maxRecDepth 100000 in
set_option maxHeartbeats 2000000 in
theorem C (a : Int) (b : Int)   (w : World)   {r : Int} (H : Hid (P a b = some r)) :
    Calls Tryd.prog 91 #[.int .i64 a, .int .i64 b] w (Gives (.int .i64 r) w) := by
  have HB := Lib.hid (Below.refl w.heap.size w)
  unfold P at H
  go_enter Tryd.func91, Tryd.ntmps91
  replace H := let_hid H
  obtain ⟨t_3, ht_3, H⟩ := H
  cases t_3 with
  | false =>
    replace H := ite_f H
    obtain rfl := ret_hid H
    go_wp2_with fail
    go_ret
    exact ⟨rfl, HB.out⟩
  | true =>
    replace H := ite_t H
    obtain rfl := ret_hid H
    go_wp2_with fail
    go_ret
    exact ⟨rfl, HB.out⟩

set_option maxRecDepth 100000 in
set_option maxHeartbeats 2000000 in
theorem C0 (a : Int) (b : Int)   (w : World)   {r : Int} (H : Hid (P a b = some r)) :
    Calls Tryd.prog 91 #[.int .i64 a, .int .i64 b] w (fun e w'' => e = .returned (.int .i64 r) ∧ w'' = w) := by
  have HB := Lib.hid (Below.refl w.heap.size w)
  unfold P at H
  go_enter Tryd.func91, Tryd.ntmps91
  replace H := let_hid H
  obtain ⟨t_3, ht_3, H⟩ := H
  cases t_3 with
  | false =>
    replace H := ite_f H
    obtain rfl := ret_hid H
    go_wp2_with fail
    go_ret
    exact ⟨rfl, rfl⟩
  | true =>
    replace H := ite_t H
    obtain rfl := ret_hid H
    go_wp2_with fail
    go_ret
    exact ⟨rfl, rfl⟩
end Go.Proofs.YtgimcnpkngpmiaaDoor.GsL1Most

