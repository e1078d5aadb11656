/- Texts on which the proofs of several laws stand, one behind the other (5 of 11). No condition of their own. -/
import Derived.Test.YthkaeighfjadlaaChecked
import Derived.Test.YthkaeighfjadlaaU10P1
import Derived.Test.YthkaeighfjadlaaU10P4
import Derived.Test.YthkaeighfjadlaaU10P2
import Derived.WalkKit
import Derived.WalkSpells
import Derived.WalkLawsBesides
import Derived.BigQuiet
import Derived.OwnWalk
import Derived.Deep.LoopGhost
import Derived.Deep.QuietTactic
import Derived.IntWalk
import Derived.Lib.QuietBelow
import Derived.StillTailTactics
/- loop.example/g01062/impl.earliestMinutes as a plain function, and the contract of the program's: where the plain one has an answer, the program has it. Conditions: slices read as lists. -/
namespace Go.Proofs.Ythkaeighfjadlaa.GiEarliestMinutes
set_option linter.unusedVariables false
set_option linter.unusedSimpArgs false
open Go.RowKit
open Go.Proofs.Ythkaeighfjadlaa.Rowed Go.Proofs.Ythkaeighfjadlaa.Turn Go.Proofs.Ythkaeighfjadlaa.Aid Go.Proofs.Ythkaeighfjadlaa.GoP Go.Proofs.Ythkaeighfjadlaa.GoM

def l0 (list : (List Go.Proofs.Ythkaeighfjadlaa.PMail.Mail)) (k0 : Nat) (s : (List Int)) (nx0 bk0 : (List Int) → Option (Go.Proofs.Ythkaeighfjadlaa.PIntA10.IntA10)) : Option (Go.Proofs.Ythkaeighfjadlaa.PIntA10.IntA10) :=
  letK s fun earliest_7l0 =>
  Option.bind (idx list (k0 : Int)) fun (yt_12 : Go.Proofs.Ythkaeighfjadlaa.PMail.Mail) =>
  unMail yt_12 fun (t_12_leave : Int) (t_12_from_ : Int) (t_12_to_ : Int) (t_12_arrive : Int) =>
  Option.bind (idx earliest_7l0 t_12_from_) fun (yt_18 : Int) =>
  letK (decide (yt_18 ≤ t_12_leave)) fun (t_22 : Bool) =>
  iteK t_22
  (Option.bind (idx earliest_7l0 t_12_to_) fun (yt_27 : Int) =>
  letK (min yt_27 t_12_arrive) fun (t_31 : Int) =>
  Option.bind (idx earliest_7l0 t_12_to_) fun (yt_32 : Int) =>
  letK (earliest_7l0.set (t_12_to_).toNat t_31) fun (l33_33 : (List Int)) =>
  appK nx0 (l33_33))
  (appK nx0 (earliest_7l0))

def e0  (s : (List Int)) : Option (Go.Proofs.Ythkaeighfjadlaa.PIntA10.IntA10) :=
  letK s fun earliest_7l0 =>
  some (Go.Proofs.Ythkaeighfjadlaa.PIntA10.IntA10.mk (Go.Proofs.Ythkaeighfjadlaa.GoA.nth earliest_7l0 0) (Go.Proofs.Ythkaeighfjadlaa.GoA.nth earliest_7l0 1) (Go.Proofs.Ythkaeighfjadlaa.GoA.nth earliest_7l0 2) (Go.Proofs.Ythkaeighfjadlaa.GoA.nth earliest_7l0 3) (Go.Proofs.Ythkaeighfjadlaa.GoA.nth earliest_7l0 4) (Go.Proofs.Ythkaeighfjadlaa.GoA.nth earliest_7l0 5) (Go.Proofs.Ythkaeighfjadlaa.GoA.nth earliest_7l0 6) (Go.Proofs.Ythkaeighfjadlaa.GoA.nth earliest_7l0 7) (Go.Proofs.Ythkaeighfjadlaa.GoA.nth earliest_7l0 8) (Go.Proofs.Ythkaeighfjadlaa.GoA.nth earliest_7l0 9))

def P (list : (List Go.Proofs.Ythkaeighfjadlaa.PMail.Mail)) (from_1 : Int) (minute : Int) : Option (Go.Proofs.Ythkaeighfjadlaa.PIntA10.IntA10) :=
  Option.bind (Go.Proofs.Ythkaeighfjadlaa.GiFilledWith.P 10000) fun (t_1 : Go.Proofs.Ythkaeighfjadlaa.PIntA10.IntA10) =>
  unIntA10 t_1 fun (t_1_x0 : Int) (t_1_x1 : Int) (t_1_x2 : Int) (t_1_x3 : Int) (t_1_x4 : Int) (t_1_x5 : Int) (t_1_x6 : Int) (t_1_x7 : Int) (t_1_x8 : Int) (t_1_x9 : Int) =>
  letK ([t_1_x0, t_1_x1, t_1_x2, t_1_x3, t_1_x4, t_1_x5, t_1_x6, t_1_x7, t_1_x8, t_1_x9]) fun (vearliest_2 : (List Int)) =>
  Option.bind (idx vearliest_2 from_1) fun (yt_6 : Int) =>
  letK (vearliest_2.set (from_1).toNat minute) fun (l7_7 : (List Int)) =>
  cntK (l0 list) (list.length) 0 (l7_7) (e0 )

set_option maxRecDepth 100000 in
set_option maxHeartbeats 2000000 in
theorem C (list : (List Go.Proofs.Ythkaeighfjadlaa.PMail.Mail)) (from_1 : Int) (minute : Int) (A0 : Option Addr) (c0 : Nat)  (w : World) (M0 : Hid (Cells w 4 A0 list.length (Go.Proofs.Ythkaeighfjadlaa.PMail.flat list))) (N0 : Hid (list.length ≤ 9223372036854775807))  {r : Go.Proofs.Ythkaeighfjadlaa.PIntA10.IntA10} (H : Hid (P list from_1 minute = some r)) :
    Calls Try.prog 68 #[.slice A0 list.length c0, .int .i64 from_1, .int .i64 minute] w (Gives ((Go.Proofs.Ythkaeighfjadlaa.PIntA10.IntA10.val r)) w) := by
  have HB := Lib.hid (Below.refl w.heap.size w)
  unfold P at H
  have N0o := N0.out
  go_enter Try.func68, Try.ntmps68
  obtain ⟨w_t_0, hw_t_0⟩ : ∃ x, w.alloc (.cells #[.int .i64 0, .int .i64 0, .int .i64 0, .int .i64 0, .int .i64 0, .int .i64 0, .int .i64 0, .int .i64 0, .int .i64 0, .int .i64 0] 90) = x := ⟨_, rfl⟩
  have bw_t_0 : Below w.heap.size w w_t_0 := by rw [← hw_t_0]; exact (Below.refl _ _).alloc (Nat.le_refl _) _
  have HBw_t_0 := Lib.hid (Below.step HB.out bw_t_0)
  clear bw_t_0
  have kt_0_0 : w_t_0.cell? ⟨w.heap.size, 0, none⟩ = some (.int .i64 0) := by rw [← hw_t_0]; exact box_new _ _ _ 0 _ rfl
  have kt_0_1 : w_t_0.cell? ⟨w.heap.size, 1, none⟩ = some (.int .i64 0) := by rw [← hw_t_0]; exact box_new _ _ _ 1 _ rfl
  have kt_0_2 : w_t_0.cell? ⟨w.heap.size, 2, none⟩ = some (.int .i64 0) := by rw [← hw_t_0]; exact box_new _ _ _ 2 _ rfl
  have kt_0_3 : w_t_0.cell? ⟨w.heap.size, 3, none⟩ = some (.int .i64 0) := by rw [← hw_t_0]; exact box_new _ _ _ 3 _ rfl
  have kt_0_4 : w_t_0.cell? ⟨w.heap.size, 4, none⟩ = some (.int .i64 0) := by rw [← hw_t_0]; exact box_new _ _ _ 4 _ rfl
  have kt_0_5 : w_t_0.cell? ⟨w.heap.size, 5, none⟩ = some (.int .i64 0) := by rw [← hw_t_0]; exact box_new _ _ _ 5 _ rfl
  have kt_0_6 : w_t_0.cell? ⟨w.heap.size, 6, none⟩ = some (.int .i64 0) := by rw [← hw_t_0]; exact box_new _ _ _ 6 _ rfl
  have kt_0_7 : w_t_0.cell? ⟨w.heap.size, 7, none⟩ = some (.int .i64 0) := by rw [← hw_t_0]; exact box_new _ _ _ 7 _ rfl
  have kt_0_8 : w_t_0.cell? ⟨w.heap.size, 8, none⟩ = some (.int .i64 0) := by rw [← hw_t_0]; exact box_new _ _ _ 8 _ rfl
  have kt_0_9 : w_t_0.cell? ⟨w.heap.size, 9, none⟩ = some (.int .i64 0) := by rw [← hw_t_0]; exact box_new _ _ _ 9 _ rfl
  have Ot_0 : Hid (w_t_0.ownsRow w.heap.size 90 10 (.slice (some ⟨w.heap.size, 0, none⟩) 1 1) 1 [.int .i64 0, .int .i64 0, .int .i64 0, .int .i64 0, .int .i64 0, .int .i64 0, .int .i64 0, .int .i64 0, .int .i64 0, .int .i64 0]) := Lib.hid (by rw [← hw_t_0]; exact own_laid (n := 1) HB.out.size rfl rfl (by unfold maxLen; omega))
  replace H := bind_hid H
  obtain ⟨t_1, qt_1, H⟩ := H
  obtain ⟨t_1_x0, t_1_x1, t_1_x2, t_1_x3, t_1_x4, t_1_x5, t_1_x6, t_1_x7, t_1_x8, t_1_x9⟩ := t_1
  replace H := unIntA10_hid H
  go_wp2_with fail
  go_at_call 116
  refine (Go.Proofs.Ythkaeighfjadlaa.GiFilledWith.C (10000)  _    qt_1).mono ?_
  rintro e_t_1 wt_1 ⟨rfl, bt_1⟩
  unfold Go.Proofs.Ythkaeighfjadlaa.PIntA10.IntA10.val
  have HBwt_1 := Lib.hid (Below.step HBw_t_0.out bt_1)
  replace kt_0_0 := cell_below bt_1 kt_0_0
  replace kt_0_1 := cell_below bt_1 kt_0_1
  replace kt_0_2 := cell_below bt_1 kt_0_2
  replace kt_0_3 := cell_below bt_1 kt_0_3
  replace kt_0_4 := cell_below bt_1 kt_0_4
  replace kt_0_5 := cell_below bt_1 kt_0_5
  replace kt_0_6 := cell_below bt_1 kt_0_6
  replace kt_0_7 := cell_below bt_1 kt_0_7
  replace kt_0_8 := cell_below bt_1 kt_0_8
  replace kt_0_9 := cell_below bt_1 kt_0_9
  replace Ot_0 := Lib.hid (own_below Ot_0.out bt_1)
  clear bt_1
  replace H := let_hid H
  obtain ⟨vearliest_2, hvearliest_2, H⟩ := H
  obtain ⟨w_earliest_2, hw_earliest_2⟩ : ∃ x, wt_1.alloc (.cells #[.int .i64 t_1_x0, .int .i64 t_1_x1, .int .i64 t_1_x2, .int .i64 t_1_x3, .int .i64 t_1_x4, .int .i64 t_1_x5, .int .i64 t_1_x6, .int .i64 t_1_x7, .int .i64 t_1_x8, .int .i64 t_1_x9] 90) = x := ⟨_, rfl⟩
  have bw_earliest_2 : Below wt_1.heap.size wt_1 w_earliest_2 := by rw [← hw_earliest_2]; exact (Below.refl _ _).alloc (Nat.le_refl _) _
  have hs_earliest_2 := HBwt_1.out.size
  have nearliest_2 : vearliest_2.length = 10 := by rw [← hvearliest_2]; rfl
  have Oearliest_2 : Hid (w_earliest_2.ownsRow w.heap.size 90 1 (.slice (some ⟨wt_1.heap.size, 0, none⟩) 10 10) 10 (Go.Proofs.Ythkaeighfjadlaa.HelpInt.iv vearliest_2)) := by
    rw [← hw_earliest_2, ← hvearliest_2]
    have e_ : ([.int .i64 t_1_x0, .int .i64 t_1_x1, .int .i64 t_1_x2, .int .i64 t_1_x3, .int .i64 t_1_x4, .int .i64 t_1_x5, .int .i64 t_1_x6, .int .i64 t_1_x7, .int .i64 t_1_x8, .int .i64 t_1_x9] : List Value) = Go.Proofs.Ythkaeighfjadlaa.HelpInt.iv [t_1_x0, t_1_x1, t_1_x2, t_1_x3, t_1_x4, t_1_x5, t_1_x6, t_1_x7, t_1_x8, t_1_x9] := rfl
    exact Lib.hid (own_laid (n := 10) hs_earliest_2 e_ rfl (by unfold maxLen; omega))
  clear hs_earliest_2
  have hhearliest_2 := Lib.hid hvearliest_2
  clear hvearliest_2
  replace nearliest_2 := Lib.hid nearliest_2
  have Dearliest_2_t_0 := Lib.hid (apart_box kt_0_0)
  have HBw_earliest_2 := Lib.hid (Below.step HBwt_1.out bw_earliest_2)
  have kt_0_0__169 := cell_below bw_earliest_2 kt_0_0
  have kt_0_1__170 := cell_below bw_earliest_2 kt_0_1
  have kt_0_2__171 := cell_below bw_earliest_2 kt_0_2
  have kt_0_3__172 := cell_below bw_earliest_2 kt_0_3
  have kt_0_4__173 := cell_below bw_earliest_2 kt_0_4
  have kt_0_5__174 := cell_below bw_earliest_2 kt_0_5
  have kt_0_6__175 := cell_below bw_earliest_2 kt_0_6
  have kt_0_7__176 := cell_below bw_earliest_2 kt_0_7
  have kt_0_8__177 := cell_below bw_earliest_2 kt_0_8
  have kt_0_9__178 := cell_below bw_earliest_2 kt_0_9
  replace Ot_0 := Lib.hid (own_below Ot_0.out bw_earliest_2)
  clear bw_earliest_2
  replace H := idx_hid H
  obtain ⟨nt_6, yt_6, et_6, lt_6, gt_6, H⟩ := H
  subst et_6
  have hqt_6 := nearliest_2.out
  obtain ⟨ab_t_6, ao_t_6, zt_6, At_6, z_t_6, ct_6_0⟩ := Go.Proofs.Ythkaeighfjadlaa.HelpInt.Ints.at_ (own_cells Oearliest_2.out) (k := nt_6) (by omega)
  obtain rfl := Option.some.inj (gt_6.out.symm.trans z_t_6)
  simp only [Option.some.injEq, Addr.mk.injEq] at At_6
  obtain ⟨rfl, rfl, _⟩ := At_6
  clear z_t_6
  simp only [Nat.zero_add] at ct_6_0
  have b0t_6 : (0 : Int) ≤ (nt_6 : Int) := by omega
  have b1t_6 : (nt_6 : Int) < ((10 : Nat) : Int) := by omega
  have b2t_6 : ((nt_6 : Int)).toNat = nt_6 := by omega
  clear hqt_6
  have b3t_6 : nt_6 < 10 := by have h_ := lt_6; have hn_ := nearliest_2.out; omega
  have b4t_6 : (nt_6 : Int) < (10 : Int) := by omega
  replace H := let_hid H
  obtain ⟨l7_7, hl7_7, H⟩ := H
  try simp only [Int.toNat_natCast] at hl7_7
  obtain ⟨wl7_7, hwl7_7⟩ : ∃ x, (w_earliest_2).setCell ⟨wt_1.heap.size, nt_6, none⟩ (.int .i64 minute) = x := ⟨_, rfl⟩
  have z0l7_7 := Oearliest_2.out.frozenAt (nt_6)
  have Sl7_7 := Lib.hid (own_stores [(nt_6, .int .i64 minute)] Oearliest_2.out)
  have nl7_7 : Hid (l7_7.length = 10) := Lib.hid (by rw [← hl7_7, List.length_set]; exact nearliest_2.out)
  have Pl7_7 : Hid (wl7_7.ownsRow w.heap.size 90 1 (.slice (some ⟨wt_1.heap.size, 0, none⟩) 10 10) 10 (Go.Proofs.Ythkaeighfjadlaa.HelpInt.iv l7_7)) := Lib.hid (by have e_ : ([(nt_6, .int .i64 minute)] : List (Nat × Value)).foldl (fun xs p => xs.set p.1 p.2) (Go.Proofs.Ythkaeighfjadlaa.HelpInt.iv vearliest_2) = (Go.Proofs.Ythkaeighfjadlaa.HelpInt.iv l7_7) := (by rw [← hl7_7]; first | done | simp [Go.Proofs.Ythkaeighfjadlaa.HelpInt.iv, List.map_set]); rw [← hwl7_7, ← e_]; exact Sl7_7.out.1)
  have Gl7_7 : Hid (w_earliest_2.grownBy wl7_7 (Value.slice (some ⟨wt_1.heap.size, 0, none⟩) 10 10).ownBlock) := Lib.hid (by rw [← hwl7_7]; exact Sl7_7.out.2)
  have HBwl7_7 := Lib.hid (HBw_earliest_2.out.grown Gl7_7.out HBw_earliest_2.out.size (fun q hq => (Oearliest_2.out.lt q hq).1))
  have hhl7_7 := Lib.hid hl7_7
  clear hl7_7 Sl7_7
  have kt_0_0__179 := cell_other kt_0_0__169 Gl7_7.out Dearliest_2_t_0.out
  have kt_0_1__180 := cell_other kt_0_1__170 Gl7_7.out Dearliest_2_t_0.out
  have kt_0_2__181 := cell_other kt_0_2__171 Gl7_7.out Dearliest_2_t_0.out
  have kt_0_3__182 := cell_other kt_0_3__172 Gl7_7.out Dearliest_2_t_0.out
  have kt_0_4__183 := cell_other kt_0_4__173 Gl7_7.out Dearliest_2_t_0.out
  have kt_0_5__184 := cell_other kt_0_5__174 Gl7_7.out Dearliest_2_t_0.out
  have kt_0_6__185 := cell_other kt_0_6__175 Gl7_7.out Dearliest_2_t_0.out
  have kt_0_7__186 := cell_other kt_0_7__176 Gl7_7.out Dearliest_2_t_0.out
  have kt_0_8__187 := cell_other kt_0_8__177 Gl7_7.out Dearliest_2_t_0.out
  have kt_0_9__188 := cell_other kt_0_9__178 Gl7_7.out Dearliest_2_t_0.out
  replace Ot_0 := Lib.hid (own_other Ot_0.out Gl7_7.out Dearliest_2_t_0.out)
  clear Oearliest_2 Gl7_7
  go_wp2_with fail
  clear kt_0_0 kt_0_1 kt_0_2 kt_0_3 kt_0_4 kt_0_5 kt_0_6 kt_0_7 kt_0_8 kt_0_9 z0l7_7 kt_0_0__169 kt_0_1__170 kt_0_2__171 kt_0_3__172 kt_0_4__173 kt_0_5__174 kt_0_6__175 kt_0_7__176 kt_0_8__177 kt_0_9__178 ct_6_0
  go_wp2_with fail
  go_loopg [16] (list.length) (fun m_ v16_ wr => ∃ (k0 : Nat) (earliest_7l0 : (List Int)), k0 + m_ = list.length ∧ v16_ = .int .i64 (k0 : Int) ∧ Hid (cntK (l0 list) m_ k0 (earliest_7l0) (e0 ) = some r) ∧ Hid (Below w.heap.size w wr) ∧ wr.cell? ⟨w.heap.size, 0, none⟩ = some (.int .i64 0) ∧ wr.cell? ⟨w.heap.size, 1, none⟩ = some (.int .i64 0) ∧ wr.cell? ⟨w.heap.size, 2, none⟩ = some (.int .i64 0) ∧ wr.cell? ⟨w.heap.size, 3, none⟩ = some (.int .i64 0) ∧ wr.cell? ⟨w.heap.size, 4, none⟩ = some (.int .i64 0) ∧ wr.cell? ⟨w.heap.size, 5, none⟩ = some (.int .i64 0) ∧ wr.cell? ⟨w.heap.size, 6, none⟩ = some (.int .i64 0) ∧ wr.cell? ⟨w.heap.size, 7, none⟩ = some (.int .i64 0) ∧ wr.cell? ⟨w.heap.size, 8, none⟩ = some (.int .i64 0) ∧ wr.cell? ⟨w.heap.size, 9, none⟩ = some (.int .i64 0) ∧ Hid (wr.ownsRow w.heap.size 90 10 (.slice (some ⟨w.heap.size, 0, none⟩) 1 1) 1 [.int .i64 0, .int .i64 0, .int .i64 0, .int .i64 0, .int .i64 0, .int .i64 0, .int .i64 0, .int .i64 0, .int .i64 0, .int .i64 0]) ∧ Hid (wr.ownsRow w.heap.size 90 1 (.slice (some ⟨wt_1.heap.size, 0, none⟩) 10 10) 10 (Go.Proofs.Ythkaeighfjadlaa.HelpInt.iv earliest_7l0)) ∧ Hid (earliest_7l0.length = 10) ∧ Hid (Apart (some ⟨wt_1.heap.size, 0, none⟩) (some ⟨w.heap.size, 0, none⟩)))
  case atStart => exact ⟨0, _, by omega, rfl, H, HBwl7_7, kt_0_0__179, kt_0_1__180, kt_0_2__181, kt_0_3__182, kt_0_4__183, kt_0_5__184, kt_0_6__185, kt_0_7__186, kt_0_8__187, kt_0_9__188, Ot_0, Pl7_7, Lib.hid (nl7_7.out), Lib.hid Dearliest_2_t_0.out⟩
  case round =>
    obtain ⟨k0, earliest_7l0, hkm0, rfl, H, HBwr0, kt_0_0__179, kt_0_1__180, kt_0_2__181, kt_0_3__182, kt_0_4__183, kt_0_5__184, kt_0_6__185, kt_0_7__186, kt_0_8__187, kt_0_9__188, Ot_0, Oearliest_7l0, hnearliest_7l0, Dearliest_7l0_t_0⟩ := hrel
    rename World => wr0
    cases gk with
    | zero =>
      obtain rfl : k0 = list.length := by omega
      have hc0 : decide (((list.length : Nat) : Int) < ((list.length : Nat) : Int)) = false := by simp
      replace H := cnt_zero H
      unfold e0 at H
      replace H := let_hid H
      obtain ⟨_, rfl, H⟩ := H
      have ka_189 : wr0.cell? ⟨wt_1.heap.size, 0, none⟩ = some (.int .i64 (Go.Proofs.Ythkaeighfjadlaa.GoA.nth earliest_7l0 0)) := Go.Proofs.Ythkaeighfjadlaa.GoA.row_at Oearliest_7l0.out hnearliest_7l0.out 0 (by omega)
      have ka_190 : wr0.cell? ⟨wt_1.heap.size, 1, none⟩ = some (.int .i64 (Go.Proofs.Ythkaeighfjadlaa.GoA.nth earliest_7l0 1)) := Go.Proofs.Ythkaeighfjadlaa.GoA.row_at Oearliest_7l0.out hnearliest_7l0.out 1 (by omega)
      have ka_191 : wr0.cell? ⟨wt_1.heap.size, 2, none⟩ = some (.int .i64 (Go.Proofs.Ythkaeighfjadlaa.GoA.nth earliest_7l0 2)) := Go.Proofs.Ythkaeighfjadlaa.GoA.row_at Oearliest_7l0.out hnearliest_7l0.out 2 (by omega)
      have ka_192 : wr0.cell? ⟨wt_1.heap.size, 3, none⟩ = some (.int .i64 (Go.Proofs.Ythkaeighfjadlaa.GoA.nth earliest_7l0 3)) := Go.Proofs.Ythkaeighfjadlaa.GoA.row_at Oearliest_7l0.out hnearliest_7l0.out 3 (by omega)
      have ka_193 : wr0.cell? ⟨wt_1.heap.size, 4, none⟩ = some (.int .i64 (Go.Proofs.Ythkaeighfjadlaa.GoA.nth earliest_7l0 4)) := Go.Proofs.Ythkaeighfjadlaa.GoA.row_at Oearliest_7l0.out hnearliest_7l0.out 4 (by omega)
      have ka_194 : wr0.cell? ⟨wt_1.heap.size, 5, none⟩ = some (.int .i64 (Go.Proofs.Ythkaeighfjadlaa.GoA.nth earliest_7l0 5)) := Go.Proofs.Ythkaeighfjadlaa.GoA.row_at Oearliest_7l0.out hnearliest_7l0.out 5 (by omega)
      have ka_195 : wr0.cell? ⟨wt_1.heap.size, 6, none⟩ = some (.int .i64 (Go.Proofs.Ythkaeighfjadlaa.GoA.nth earliest_7l0 6)) := Go.Proofs.Ythkaeighfjadlaa.GoA.row_at Oearliest_7l0.out hnearliest_7l0.out 6 (by omega)
      have ka_196 : wr0.cell? ⟨wt_1.heap.size, 7, none⟩ = some (.int .i64 (Go.Proofs.Ythkaeighfjadlaa.GoA.nth earliest_7l0 7)) := Go.Proofs.Ythkaeighfjadlaa.GoA.row_at Oearliest_7l0.out hnearliest_7l0.out 7 (by omega)
      have ka_197 : wr0.cell? ⟨wt_1.heap.size, 8, none⟩ = some (.int .i64 (Go.Proofs.Ythkaeighfjadlaa.GoA.nth earliest_7l0 8)) := Go.Proofs.Ythkaeighfjadlaa.GoA.row_at Oearliest_7l0.out hnearliest_7l0.out 8 (by omega)
      have ka_198 : wr0.cell? ⟨wt_1.heap.size, 9, none⟩ = some (.int .i64 (Go.Proofs.Ythkaeighfjadlaa.GoA.nth earliest_7l0 9)) := Go.Proofs.Ythkaeighfjadlaa.GoA.row_at Oearliest_7l0.out hnearliest_7l0.out 9 (by omega)
      obtain ⟨wb37_37, hwb37_37⟩ : ∃ x, ((((((((((wr0).setCell ⟨w.heap.size, 0, none⟩ (.int .i64 (Go.Proofs.Ythkaeighfjadlaa.GoA.nth earliest_7l0 0))).setCell ⟨w.heap.size, 1, none⟩ (.int .i64 (Go.Proofs.Ythkaeighfjadlaa.GoA.nth earliest_7l0 1))).setCell ⟨w.heap.size, 2, none⟩ (.int .i64 (Go.Proofs.Ythkaeighfjadlaa.GoA.nth earliest_7l0 2))).setCell ⟨w.heap.size, 3, none⟩ (.int .i64 (Go.Proofs.Ythkaeighfjadlaa.GoA.nth earliest_7l0 3))).setCell ⟨w.heap.size, 4, none⟩ (.int .i64 (Go.Proofs.Ythkaeighfjadlaa.GoA.nth earliest_7l0 4))).setCell ⟨w.heap.size, 5, none⟩ (.int .i64 (Go.Proofs.Ythkaeighfjadlaa.GoA.nth earliest_7l0 5))).setCell ⟨w.heap.size, 6, none⟩ (.int .i64 (Go.Proofs.Ythkaeighfjadlaa.GoA.nth earliest_7l0 6))).setCell ⟨w.heap.size, 7, none⟩ (.int .i64 (Go.Proofs.Ythkaeighfjadlaa.GoA.nth earliest_7l0 7))).setCell ⟨w.heap.size, 8, none⟩ (.int .i64 (Go.Proofs.Ythkaeighfjadlaa.GoA.nth earliest_7l0 8))).setCell ⟨w.heap.size, 9, none⟩ (.int .i64 (Go.Proofs.Ythkaeighfjadlaa.GoA.nth earliest_7l0 9)) = x := ⟨_, rfl⟩
      have z0b37_37 := Ot_0.out.frozenAt 0
      have z1b37_37 := Ot_0.out.frozenAt 1
      have z2b37_37 := Ot_0.out.frozenAt 2
      have z3b37_37 := Ot_0.out.frozenAt 3
      have z4b37_37 := Ot_0.out.frozenAt 4
      have z5b37_37 := Ot_0.out.frozenAt 5
      have z6b37_37 := Ot_0.out.frozenAt 6
      have z7b37_37 := Ot_0.out.frozenAt 7
      have z8b37_37 := Ot_0.out.frozenAt 8
      have z9b37_37 := Ot_0.out.frozenAt 9
      have Sb37_37 := Lib.hid (own_stores [(0, .int .i64 (Go.Proofs.Ythkaeighfjadlaa.GoA.nth earliest_7l0 0)), (1, .int .i64 (Go.Proofs.Ythkaeighfjadlaa.GoA.nth earliest_7l0 1)), (2, .int .i64 (Go.Proofs.Ythkaeighfjadlaa.GoA.nth earliest_7l0 2)), (3, .int .i64 (Go.Proofs.Ythkaeighfjadlaa.GoA.nth earliest_7l0 3)), (4, .int .i64 (Go.Proofs.Ythkaeighfjadlaa.GoA.nth earliest_7l0 4)), (5, .int .i64 (Go.Proofs.Ythkaeighfjadlaa.GoA.nth earliest_7l0 5)), (6, .int .i64 (Go.Proofs.Ythkaeighfjadlaa.GoA.nth earliest_7l0 6)), (7, .int .i64 (Go.Proofs.Ythkaeighfjadlaa.GoA.nth earliest_7l0 7)), (8, .int .i64 (Go.Proofs.Ythkaeighfjadlaa.GoA.nth earliest_7l0 8)), (9, .int .i64 (Go.Proofs.Ythkaeighfjadlaa.GoA.nth earliest_7l0 9))] Ot_0.out)
      have Pb37_37 : Hid (wb37_37.ownsRow w.heap.size 90 10 (.slice (some ⟨w.heap.size, 0, none⟩) 1 1) 1 [.int .i64 (Go.Proofs.Ythkaeighfjadlaa.GoA.nth earliest_7l0 0), .int .i64 (Go.Proofs.Ythkaeighfjadlaa.GoA.nth earliest_7l0 1), .int .i64 (Go.Proofs.Ythkaeighfjadlaa.GoA.nth earliest_7l0 2), .int .i64 (Go.Proofs.Ythkaeighfjadlaa.GoA.nth earliest_7l0 3), .int .i64 (Go.Proofs.Ythkaeighfjadlaa.GoA.nth earliest_7l0 4), .int .i64 (Go.Proofs.Ythkaeighfjadlaa.GoA.nth earliest_7l0 5), .int .i64 (Go.Proofs.Ythkaeighfjadlaa.GoA.nth earliest_7l0 6), .int .i64 (Go.Proofs.Ythkaeighfjadlaa.GoA.nth earliest_7l0 7), .int .i64 (Go.Proofs.Ythkaeighfjadlaa.GoA.nth earliest_7l0 8), .int .i64 (Go.Proofs.Ythkaeighfjadlaa.GoA.nth earliest_7l0 9)]) := Lib.hid (by rw [← hwb37_37]; exact Sb37_37.out.1)
      have Gb37_37 : Hid (wr0.grownBy wb37_37 (Value.slice (some ⟨w.heap.size, 0, none⟩) 1 1).ownBlock) := Lib.hid (by rw [← hwb37_37]; exact Sb37_37.out.2)
      have HBwb37_37 := Lib.hid (HBwr0.out.grown Gb37_37.out HBwr0.out.size (fun q hq => (Ot_0.out.lt q hq).1))
      clear Sb37_37
      replace Oearliest_7l0 := Lib.hid (own_other Oearliest_7l0.out Gb37_37.out (Apart.symm Dearliest_7l0_t_0.out))
      clear Ot_0 Gb37_37
      have kt_0_0__199 : wb37_37.cell? ⟨w.heap.size, 0, none⟩ = some (.int .i64 (Go.Proofs.Ythkaeighfjadlaa.GoA.nth earliest_7l0 0)) := Pb37_37.out.cells rfl 0 _ rfl
      have kt_0_1__200 : wb37_37.cell? ⟨w.heap.size, 1, none⟩ = some (.int .i64 (Go.Proofs.Ythkaeighfjadlaa.GoA.nth earliest_7l0 1)) := Pb37_37.out.cells rfl 1 _ rfl
      have kt_0_2__201 : wb37_37.cell? ⟨w.heap.size, 2, none⟩ = some (.int .i64 (Go.Proofs.Ythkaeighfjadlaa.GoA.nth earliest_7l0 2)) := Pb37_37.out.cells rfl 2 _ rfl
      have kt_0_3__202 : wb37_37.cell? ⟨w.heap.size, 3, none⟩ = some (.int .i64 (Go.Proofs.Ythkaeighfjadlaa.GoA.nth earliest_7l0 3)) := Pb37_37.out.cells rfl 3 _ rfl
      have kt_0_4__203 : wb37_37.cell? ⟨w.heap.size, 4, none⟩ = some (.int .i64 (Go.Proofs.Ythkaeighfjadlaa.GoA.nth earliest_7l0 4)) := Pb37_37.out.cells rfl 4 _ rfl
      have kt_0_5__204 : wb37_37.cell? ⟨w.heap.size, 5, none⟩ = some (.int .i64 (Go.Proofs.Ythkaeighfjadlaa.GoA.nth earliest_7l0 5)) := Pb37_37.out.cells rfl 5 _ rfl
      have kt_0_6__205 : wb37_37.cell? ⟨w.heap.size, 6, none⟩ = some (.int .i64 (Go.Proofs.Ythkaeighfjadlaa.GoA.nth earliest_7l0 6)) := Pb37_37.out.cells rfl 6 _ rfl
      have kt_0_7__206 : wb37_37.cell? ⟨w.heap.size, 7, none⟩ = some (.int .i64 (Go.Proofs.Ythkaeighfjadlaa.GoA.nth earliest_7l0 7)) := Pb37_37.out.cells rfl 7 _ rfl
      have kt_0_8__207 : wb37_37.cell? ⟨w.heap.size, 8, none⟩ = some (.int .i64 (Go.Proofs.Ythkaeighfjadlaa.GoA.nth earliest_7l0 8)) := Pb37_37.out.cells rfl 8 _ rfl
      have kt_0_9__208 : wb37_37.cell? ⟨w.heap.size, 9, none⟩ = some (.int .i64 (Go.Proofs.Ythkaeighfjadlaa.GoA.nth earliest_7l0 9)) := Pb37_37.out.cells rfl 9 _ rfl
      cases ret_hid H
      go_wp2_with fail
      (try simp only [Exit.inBlock, Exit.then])
      refine bodyPost_ret (v := .agg #[.int .i64 (Go.Proofs.Ythkaeighfjadlaa.GoA.nth earliest_7l0 0), .int .i64 (Go.Proofs.Ythkaeighfjadlaa.GoA.nth earliest_7l0 1), .int .i64 (Go.Proofs.Ythkaeighfjadlaa.GoA.nth earliest_7l0 2), .int .i64 (Go.Proofs.Ythkaeighfjadlaa.GoA.nth earliest_7l0 3), .int .i64 (Go.Proofs.Ythkaeighfjadlaa.GoA.nth earliest_7l0 4), .int .i64 (Go.Proofs.Ythkaeighfjadlaa.GoA.nth earliest_7l0 5), .int .i64 (Go.Proofs.Ythkaeighfjadlaa.GoA.nth earliest_7l0 6), .int .i64 (Go.Proofs.Ythkaeighfjadlaa.GoA.nth earliest_7l0 7), .int .i64 (Go.Proofs.Ythkaeighfjadlaa.GoA.nth earliest_7l0 8), .int .i64 (Go.Proofs.Ythkaeighfjadlaa.GoA.nth earliest_7l0 9)]) ?hr_ ?hd_ ?_
      case hd_ => rfl
      case hr_ => simp [results, Try.results68, kt_0_0__199, kt_0_1__200, kt_0_2__201, kt_0_3__202, kt_0_4__203, kt_0_5__204, kt_0_6__205, kt_0_7__206, kt_0_8__207, kt_0_9__208, go_sem]
      exact ⟨rfl, HBwb37_37.out⟩
    | succ m0 =>
      have hlt0 : k0 < list.length := by omega
      have hc0 : decide ((k0 : Int) < ((list.length : Nat) : Int)) = true := by simp; omega
      replace H := cnt_succ H
      unfold l0 at H
      replace H := let_hid H
      obtain ⟨_, rfl, H⟩ := H
      replace H := idx_hid H
      obtain ⟨nt_12, yt_12, et_12, lt_12, gt_12, H⟩ := H
      obtain rfl : k0 = nt_12 := by omega
      clear et_12
      obtain ⟨t_12_leave, t_12_from_, t_12_to_, t_12_arrive⟩ := yt_12
      replace H := unMail_hid H
      obtain ⟨ab_t_12, ao_t_12, zt_12, At_12, z_t_12, ct_12_0, ct_12_1, ct_12_2, ct_12_3⟩ := Go.Proofs.Ythkaeighfjadlaa.OMail.at_ M0.out lt_12
      obtain rfl := Option.some.inj (gt_12.out.symm.trans z_t_12)
      subst At_12
      have ltt_12 := cell_lt ct_12_0
      replace ct_12_0 := cell_below HBwr0.out ct_12_0
      replace ct_12_1 := cell_below HBwr0.out ct_12_1
      replace ct_12_2 := cell_below HBwr0.out ct_12_2
      replace ct_12_3 := cell_below HBwr0.out ct_12_3
      clear z_t_12
      have b0t_12 : (0 : Int) ≤ (k0 : Int) := by omega
      have b1t_12 : (k0 : Int) < ((list.length : Nat) : Int) := by omega
      have b2t_12 : ((k0 : Int)).toNat = k0 := by omega
      obtain ⟨w_x_14, hw_x_14⟩ : ∃ x, wr0.alloc (.cells #[.int .i64 t_12_leave, .int .i64 t_12_from_, .int .i64 t_12_to_, .int .i64 t_12_arrive] 93) = x := ⟨_, rfl⟩
      have bw_x_14 : Below wr0.heap.size wr0 w_x_14 := by rw [← hw_x_14]; exact (Below.refl _ _).alloc (Nat.le_refl _) _
      have Dx_14_earliest_7l0 := Lib.hid (apart_fresh Oearliest_7l0.out)
      have Dx_14_t_0 := Lib.hid (apart_box kt_0_0__179)
      have HBw_x_14 := Lib.hid (Below.step HBwr0.out bw_x_14)
      have kt_0_0__209 := cell_below bw_x_14 kt_0_0__179
      have kt_0_1__210 := cell_below bw_x_14 kt_0_1__180
      have kt_0_2__211 := cell_below bw_x_14 kt_0_2__181
      have kt_0_3__212 := cell_below bw_x_14 kt_0_3__182
      have kt_0_4__213 := cell_below bw_x_14 kt_0_4__183
      have kt_0_5__214 := cell_below bw_x_14 kt_0_5__184
      have kt_0_6__215 := cell_below bw_x_14 kt_0_6__185
      have kt_0_7__216 := cell_below bw_x_14 kt_0_7__186
      have kt_0_8__217 := cell_below bw_x_14 kt_0_8__187
      have kt_0_9__218 := cell_below bw_x_14 kt_0_9__188
      have ct_12_0__219 := cell_below bw_x_14 ct_12_0
      have ct_12_1__220 := cell_below bw_x_14 ct_12_1
      have ct_12_2__221 := cell_below bw_x_14 ct_12_2
      have ct_12_3__222 := cell_below bw_x_14 ct_12_3
      replace Oearliest_7l0 := Lib.hid (own_below Oearliest_7l0.out bw_x_14)
      replace Ot_0 := Lib.hid (own_below Ot_0.out bw_x_14)
      clear bw_x_14
      have kx_14_0 : w_x_14.cell? ⟨wr0.heap.size, 0, none⟩ = some (.int .i64 t_12_leave) := by rw [← hw_x_14]; exact box_new _ _ _ 0 _ rfl
      have kx_14_1 : w_x_14.cell? ⟨wr0.heap.size, 1, none⟩ = some (.int .i64 t_12_from_) := by rw [← hw_x_14]; exact box_new _ _ _ 1 _ rfl
      have kx_14_2 : w_x_14.cell? ⟨wr0.heap.size, 2, none⟩ = some (.int .i64 t_12_to_) := by rw [← hw_x_14]; exact box_new _ _ _ 2 _ rfl
      have kx_14_3 : w_x_14.cell? ⟨wr0.heap.size, 3, none⟩ = some (.int .i64 t_12_arrive) := by rw [← hw_x_14]; exact box_new _ _ _ 3 _ rfl
      go_wp2_with fail
      clear kt_0_0__179 kt_0_1__180 kt_0_2__181 kt_0_3__182 kt_0_4__183 kt_0_5__184 kt_0_6__185 kt_0_7__186 kt_0_8__187 kt_0_9__188 ct_12_0 ct_12_1 ct_12_2 ct_12_3
      have Hkt_0_0__209 := Lib.hid kt_0_0__209
      replace kt_0_0__209 := cell_regrown kt_0_0__209
      have Hkt_0_1__210 := Lib.hid kt_0_1__210
      replace kt_0_1__210 := cell_regrown kt_0_1__210
      have Hkt_0_2__211 := Lib.hid kt_0_2__211
      replace kt_0_2__211 := cell_regrown kt_0_2__211
      have Hkt_0_3__212 := Lib.hid kt_0_3__212
      replace kt_0_3__212 := cell_regrown kt_0_3__212
      have Hkt_0_4__213 := Lib.hid kt_0_4__213
      replace kt_0_4__213 := cell_regrown kt_0_4__213
      have Hkt_0_5__214 := Lib.hid kt_0_5__214
      replace kt_0_5__214 := cell_regrown kt_0_5__214
      have Hkt_0_6__215 := Lib.hid kt_0_6__215
      replace kt_0_6__215 := cell_regrown kt_0_6__215
      have Hkt_0_7__216 := Lib.hid kt_0_7__216
      replace kt_0_7__216 := cell_regrown kt_0_7__216
      have Hkt_0_8__217 := Lib.hid kt_0_8__217
      replace kt_0_8__217 := cell_regrown kt_0_8__217
      have Hkt_0_9__218 := Lib.hid kt_0_9__218
      replace kt_0_9__218 := cell_regrown kt_0_9__218
      have Hct_12_0__219 := Lib.hid ct_12_0__219
      replace ct_12_0__219 := cell_regrown ct_12_0__219
      have Hct_12_1__220 := Lib.hid ct_12_1__220
      replace ct_12_1__220 := cell_regrown ct_12_1__220
      have Hct_12_2__221 := Lib.hid ct_12_2__221
      replace ct_12_2__221 := cell_regrown ct_12_2__221
      have Hct_12_3__222 := Lib.hid ct_12_3__222
      replace ct_12_3__222 := cell_regrown ct_12_3__222
      have Hkx_14_0 := Lib.hid kx_14_0
      replace kx_14_0 := cell_regrown kx_14_0
      have Hkx_14_1 := Lib.hid kx_14_1
      replace kx_14_1 := cell_regrown kx_14_1
      have Hkx_14_2 := Lib.hid kx_14_2
      replace kx_14_2 := cell_regrown kx_14_2
      have Hkx_14_3 := Lib.hid kx_14_3
      replace kx_14_3 := cell_regrown kx_14_3
      replace H := idx_hid H
      obtain ⟨nt_18, yt_18, et_18, lt_18, gt_18, H⟩ := H
      subst et_18
      have hqt_18 := hnearliest_7l0.out
      obtain ⟨ab_t_18, ao_t_18, zt_18, At_18, z_t_18, ct_18_0⟩ := Go.Proofs.Ythkaeighfjadlaa.HelpInt.Ints.at_ (own_cells Oearliest_7l0.out) (k := nt_18) (by omega)
      obtain rfl := Option.some.inj (gt_18.out.symm.trans z_t_18)
      simp only [Option.some.injEq, Addr.mk.injEq] at At_18
      obtain ⟨rfl, rfl, _⟩ := At_18
      clear z_t_18
      simp only [Nat.zero_add] at ct_18_0
      have b0t_18 : (0 : Int) ≤ (nt_18 : Int) := by omega
      have b1t_18 : (nt_18 : Int) < ((10 : Nat) : Int) := by omega
      have b2t_18 : ((nt_18 : Int)).toNat = nt_18 := by omega
      clear hqt_18
      have Hct_18_0 := Lib.hid ct_18_0
      replace ct_18_0 := cell_regrown ct_18_0
      have b3t_18 : nt_18 < 10 := by have h_ := lt_18; have hn_ := hnearliest_7l0.out; omega
      have b4t_18 : (nt_18 : Int) < (10 : Int) := by omega
      replace H := let_hid H
      obtain ⟨t_22, ht_22, H⟩ := H
      refine wp_region_quiet_below (by kernel_rfl) (by kernel_rfl) ?_
      repeat (go_big_quiet_step (fail))
      refine wpQuiet_nil ?_
      intro Y6 hY6
      replace hY6 := below_class hY6
      replace kt_0_0__209 := Hkt_0_0__209.out
      clear Hkt_0_0__209
      replace kt_0_1__210 := Hkt_0_1__210.out
      clear Hkt_0_1__210
      replace kt_0_2__211 := Hkt_0_2__211.out
      clear Hkt_0_2__211
      replace kt_0_3__212 := Hkt_0_3__212.out
      clear Hkt_0_3__212
      replace kt_0_4__213 := Hkt_0_4__213.out
      clear Hkt_0_4__213
      replace kt_0_5__214 := Hkt_0_5__214.out
      clear Hkt_0_5__214
      replace kt_0_6__215 := Hkt_0_6__215.out
      clear Hkt_0_6__215
      replace kt_0_7__216 := Hkt_0_7__216.out
      clear Hkt_0_7__216
      replace kt_0_8__217 := Hkt_0_8__217.out
      clear Hkt_0_8__217
      replace kt_0_9__218 := Hkt_0_9__218.out
      clear Hkt_0_9__218
      replace ct_12_0__219 := Hct_12_0__219.out
      clear Hct_12_0__219
      replace ct_12_1__220 := Hct_12_1__220.out
      clear Hct_12_1__220
      replace ct_12_2__221 := Hct_12_2__221.out
      clear Hct_12_2__221
      replace ct_12_3__222 := Hct_12_3__222.out
      clear Hct_12_3__222
      replace kx_14_0 := Hkx_14_0.out
      clear Hkx_14_0
      replace kx_14_1 := Hkx_14_1.out
      clear Hkx_14_1
      replace kx_14_2 := Hkx_14_2.out
      clear Hkx_14_2
      replace kx_14_3 := Hkx_14_3.out
      clear Hkx_14_3
      replace ct_18_0 := Hct_18_0.out
      clear Hct_18_0
      have HBY6 := Lib.hid (Below.step HBw_x_14.out hY6)
      replace kt_0_0__209 := cell_below hY6 kt_0_0__209
      replace kt_0_1__210 := cell_below hY6 kt_0_1__210
      replace kt_0_2__211 := cell_below hY6 kt_0_2__211
      replace kt_0_3__212 := cell_below hY6 kt_0_3__212
      replace kt_0_4__213 := cell_below hY6 kt_0_4__213
      replace kt_0_5__214 := cell_below hY6 kt_0_5__214
      replace kt_0_6__215 := cell_below hY6 kt_0_6__215
      replace kt_0_7__216 := cell_below hY6 kt_0_7__216
      replace kt_0_8__217 := cell_below hY6 kt_0_8__217
      replace kt_0_9__218 := cell_below hY6 kt_0_9__218
      replace ct_12_0__219 := cell_below hY6 ct_12_0__219
      replace ct_12_1__220 := cell_below hY6 ct_12_1__220
      replace ct_12_2__221 := cell_below hY6 ct_12_2__221
      replace ct_12_3__222 := cell_below hY6 ct_12_3__222
      replace kx_14_0 := cell_below hY6 kx_14_0
      replace kx_14_1 := cell_below hY6 kx_14_1
      replace kx_14_2 := cell_below hY6 kx_14_2
      replace kx_14_3 := cell_below hY6 kx_14_3
      replace ct_18_0 := cell_below hY6 ct_18_0
      replace Oearliest_7l0 := Lib.hid (own_below Oearliest_7l0.out hY6)
      replace Ot_0 := Lib.hid (own_below Ot_0.out hY6)
      clear hY6
      cases t_22 with
      | false =>
        replace H := ite_f H
        replace H := app_hid H
        go_wp2_with fail
        go_roundg m0
        case measure => omega
        case rel => exact ⟨k0 + 1, _, by omega, by go_num, H, HBY6, kt_0_0__209, kt_0_1__210, kt_0_2__211, kt_0_3__212, kt_0_4__213, kt_0_5__214, kt_0_6__215, kt_0_7__216, kt_0_8__217, kt_0_9__218, Ot_0, Oearliest_7l0, Lib.hid (hnearliest_7l0.out), Lib.hid Dearliest_7l0_t_0.out⟩
      | true =>
        replace H := ite_t H
        go_wp2_with fail
        obtain ⟨Z7, hZ7⟩ : ∃ x, Y6.drew = x := ⟨_, rfl⟩
        have bd7 : Below Y6.heap.size Y6 Z7 := by rw [← hZ7]; exact (Below.refl _ _).drew
        have HBZ7 := Lib.hid (Below.step HBY6.out bd7)
        replace kt_0_0__209 := cell_below bd7 kt_0_0__209
        replace kt_0_1__210 := cell_below bd7 kt_0_1__210
        replace kt_0_2__211 := cell_below bd7 kt_0_2__211
        replace kt_0_3__212 := cell_below bd7 kt_0_3__212
        replace kt_0_4__213 := cell_below bd7 kt_0_4__213
        replace kt_0_5__214 := cell_below bd7 kt_0_5__214
        replace kt_0_6__215 := cell_below bd7 kt_0_6__215
        replace kt_0_7__216 := cell_below bd7 kt_0_7__216
        replace kt_0_8__217 := cell_below bd7 kt_0_8__217
        replace kt_0_9__218 := cell_below bd7 kt_0_9__218
        replace ct_12_0__219 := cell_below bd7 ct_12_0__219
        replace ct_12_1__220 := cell_below bd7 ct_12_1__220
        replace ct_12_2__221 := cell_below bd7 ct_12_2__221
        replace ct_12_3__222 := cell_below bd7 ct_12_3__222
        replace kx_14_0 := cell_below bd7 kx_14_0
        replace kx_14_1 := cell_below bd7 kx_14_1
        replace kx_14_2 := cell_below bd7 kx_14_2
        replace kx_14_3 := cell_below bd7 kx_14_3
        replace ct_18_0 := cell_below bd7 ct_18_0
        replace Oearliest_7l0 := Lib.hid (own_below Oearliest_7l0.out bd7)
        replace Ot_0 := Lib.hid (own_below Ot_0.out bd7)
        clear bd7
        replace H := idx_hid H
        obtain ⟨nt_27, yt_27, et_27, lt_27, gt_27, H⟩ := H
        subst et_27
        have hqt_27 := hnearliest_7l0.out
        obtain ⟨ab_t_27, ao_t_27, zt_27, At_27, z_t_27, ct_27_0⟩ := Go.Proofs.Ythkaeighfjadlaa.HelpInt.Ints.at_ (own_cells Oearliest_7l0.out) (k := nt_27) (by omega)
        obtain rfl := Option.some.inj (gt_27.out.symm.trans z_t_27)
        simp only [Option.some.injEq, Addr.mk.injEq] at At_27
        obtain ⟨rfl, rfl, _⟩ := At_27
        clear z_t_27
        simp only [Nat.zero_add] at ct_27_0
        have b0t_27 : (0 : Int) ≤ (nt_27 : Int) := by omega
        have b1t_27 : (nt_27 : Int) < ((10 : Nat) : Int) := by omega
        have b2t_27 : ((nt_27 : Int)).toNat = nt_27 := by omega
        clear hqt_27
        have b3t_27 : nt_27 < 10 := by have h_ := lt_27; have hn_ := hnearliest_7l0.out; omega
        have b4t_27 : (nt_27 : Int) < (10 : Int) := by omega
        replace H := let_hid H
        obtain ⟨t_31, ht_31, H⟩ := H
        replace H := idx_hid H
        obtain ⟨nt_32, yt_32, et_32, lt_32, gt_32, H⟩ := H
        obtain rfl : nt_27 = nt_32 := by omega
        clear et_32
        obtain rfl := Option.some.inj (gt_27.out.symm.trans gt_32.out)
        clear gt_32 lt_32
        have b3t_32 : nt_27 < 10 := by have h_ := lt_27; have hn_ := hnearliest_7l0.out; omega
        have b4t_32 : (nt_27 : Int) < (10 : Int) := by omega
        refine wp_region_still_tail 10 (by kernel_rfl) (by kernel_rfl) ?_
        simp only [List.take_succ_cons, List.take_zero, List.drop_succ_cons, List.drop_zero]
        change wpStill _ _ Y6.drew _ _ _
        rw [hZ7]
        repeat still_step
        refine wpStill_nil ?_
        change wpList _ _ _ _ _ Y6.drew
        rw [hZ7]
        clear hZ7
        replace H := let_hid H
        obtain ⟨l33_33, hl33_33, H⟩ := H
        try simp only [Int.toNat_natCast] at hl33_33
        obtain ⟨wl33_33, hwl33_33⟩ : ∃ x, (Z7).setCell ⟨wt_1.heap.size, nt_27, none⟩ (.int .i64 t_31) = x := ⟨_, rfl⟩
        have z0l33_33 := Oearliest_7l0.out.frozenAt (nt_27)
        have Sl33_33 := Lib.hid (own_stores [(nt_27, .int .i64 t_31)] Oearliest_7l0.out)
        have nl33_33 : Hid (l33_33.length = 10) := Lib.hid (by rw [← hl33_33, List.length_set]; exact hnearliest_7l0.out)
        have Pl33_33 : Hid (wl33_33.ownsRow w.heap.size 90 1 (.slice (some ⟨wt_1.heap.size, 0, none⟩) 10 10) 10 (Go.Proofs.Ythkaeighfjadlaa.HelpInt.iv l33_33)) := Lib.hid (by have e_ : ([(nt_27, .int .i64 t_31)] : List (Nat × Value)).foldl (fun xs p => xs.set p.1 p.2) (Go.Proofs.Ythkaeighfjadlaa.HelpInt.iv earliest_7l0) = (Go.Proofs.Ythkaeighfjadlaa.HelpInt.iv l33_33) := (by rw [← hl33_33]; first | done | simp [Go.Proofs.Ythkaeighfjadlaa.HelpInt.iv, List.map_set]); rw [← hwl33_33, ← e_]; exact Sl33_33.out.1)
        have Gl33_33 : Hid (Z7.grownBy wl33_33 (Value.slice (some ⟨wt_1.heap.size, 0, none⟩) 10 10).ownBlock) := Lib.hid (by rw [← hwl33_33]; exact Sl33_33.out.2)
        have HBwl33_33 := Lib.hid (HBZ7.out.grown Gl33_33.out HBZ7.out.size (fun q hq => (Oearliest_7l0.out.lt q hq).1))
        have hhl33_33 := Lib.hid hl33_33
        clear hl33_33 Sl33_33
        have kt_0_0__223 := cell_other kt_0_0__209 Gl33_33.out Dearliest_7l0_t_0.out
        have kt_0_1__224 := cell_other kt_0_1__210 Gl33_33.out Dearliest_7l0_t_0.out
        have kt_0_2__225 := cell_other kt_0_2__211 Gl33_33.out Dearliest_7l0_t_0.out
        have kt_0_3__226 := cell_other kt_0_3__212 Gl33_33.out Dearliest_7l0_t_0.out
        have kt_0_4__227 := cell_other kt_0_4__213 Gl33_33.out Dearliest_7l0_t_0.out
        have kt_0_5__228 := cell_other kt_0_5__214 Gl33_33.out Dearliest_7l0_t_0.out
        have kt_0_6__229 := cell_other kt_0_6__215 Gl33_33.out Dearliest_7l0_t_0.out
        have kt_0_7__230 := cell_other kt_0_7__216 Gl33_33.out Dearliest_7l0_t_0.out
        have kt_0_8__231 := cell_other kt_0_8__217 Gl33_33.out Dearliest_7l0_t_0.out
        have kt_0_9__232 := cell_other kt_0_9__218 Gl33_33.out Dearliest_7l0_t_0.out
        have ct_12_0__233 := cell_other ct_12_0__219 Gl33_33.out (apart_old Oearliest_7l0.out ltt_12)
        have ct_12_1__234 := cell_other ct_12_1__220 Gl33_33.out (apart_old Oearliest_7l0.out ltt_12)
        have ct_12_2__235 := cell_other ct_12_2__221 Gl33_33.out (apart_old Oearliest_7l0.out ltt_12)
        have ct_12_3__236 := cell_other ct_12_3__222 Gl33_33.out (apart_old Oearliest_7l0.out ltt_12)
        have kx_14_0__237 := cell_other kx_14_0 Gl33_33.out (Apart.symm Dx_14_earliest_7l0.out)
        have kx_14_1__238 := cell_other kx_14_1 Gl33_33.out (Apart.symm Dx_14_earliest_7l0.out)
        have kx_14_2__239 := cell_other kx_14_2 Gl33_33.out (Apart.symm Dx_14_earliest_7l0.out)
        have kx_14_3__240 := cell_other kx_14_3 Gl33_33.out (Apart.symm Dx_14_earliest_7l0.out)
        replace Ot_0 := Lib.hid (own_other Ot_0.out Gl33_33.out Dearliest_7l0_t_0.out)
        clear Oearliest_7l0 Gl33_33
        replace H := app_hid H
        go_wp2_with fail
        clear z0l33_33 kt_0_0__209 kt_0_1__210 kt_0_2__211 kt_0_3__212 kt_0_4__213 kt_0_5__214 kt_0_6__215 kt_0_7__216 kt_0_8__217 kt_0_9__218 ct_12_0__219 ct_12_1__220 ct_12_2__221 ct_12_3__222 kx_14_0 kx_14_1 kx_14_2 kx_14_3 ct_18_0 ct_27_0
        go_roundg m0
        case measure => omega
        case rel => exact ⟨k0 + 1, _, by omega, by go_num, H, HBwl33_33, kt_0_0__223, kt_0_1__224, kt_0_2__225, kt_0_3__226, kt_0_4__227, kt_0_5__228, kt_0_6__229, kt_0_7__230, kt_0_8__231, kt_0_9__232, Ot_0, Pl33_33, Lib.hid (nl33_33.out), Lib.hid Dearliest_7l0_t_0.out⟩
end Go.Proofs.Ythkaeighfjadlaa.GiEarliestMinutes

/- loop.example/g01062/impl.EarliestAt as a plain function, and the contract of the program's: where the plain one has an answer, the program has it. Conditions: slices read as lists. -/
namespace Go.Proofs.Ythkaeighfjadlaa.GiEarliestAt
set_option linter.unusedVariables false
set_option linter.unusedSimpArgs false
open Go.RowKit
open Go.Proofs.Ythkaeighfjadlaa.Rowed Go.Proofs.Ythkaeighfjadlaa.Turn Go.Proofs.Ythkaeighfjadlaa.Aid Go.Proofs.Ythkaeighfjadlaa.GoP Go.Proofs.Ythkaeighfjadlaa.GoM

def P (list : (List Go.Proofs.Ythkaeighfjadlaa.PMail.Mail)) (from_1 : Int) (minute : Int) (to_3 : Int) : Option (Int × Bool) :=
  Option.bind (Go.Proofs.Ythkaeighfjadlaa.GiCanBegin.P list from_1 minute) fun (t_5 : Bool) =>
  letK (!t_5) fun (t_6 : Bool) =>
  joinK (fun (t_11 : Bool) =>
  iteK t_11
  (some (0, false))
  (Option.bind (Go.Proofs.Ythkaeighfjadlaa.GiEarliestMinutes.P list from_1 minute) fun (t_17 : Go.Proofs.Ythkaeighfjadlaa.PIntA10.IntA10) =>
  unIntA10 t_17 fun (t_17_x0 : Int) (t_17_x1 : Int) (t_17_x2 : Int) (t_17_x3 : Int) (t_17_x4 : Int) (t_17_x5 : Int) (t_17_x6 : Int) (t_17_x7 : Int) (t_17_x8 : Int) (t_17_x9 : Int) =>
  Option.bind (idx [t_17_x0, t_17_x1, t_17_x2, t_17_x3, t_17_x4, t_17_x5, t_17_x6, t_17_x7, t_17_x8, t_17_x9] to_3) fun (yt_19 : Int) =>
  letK (yt_19 == 10000) fun (t_22 : Bool) =>
  iteK t_22
  (some (0, false))
  (some (yt_19, true)))) fun jt_11 => iteK t_6 (appK jt_11 true) (Option.bind (Go.Proofs.Ythkaeighfjadlaa.GiIsPostOffice.P to_3) fun (t_9 : Bool) =>
  letK (!t_9) fun (t_10 : Bool) =>
  appK jt_11 t_10)

set_option maxRecDepth 100000 in
set_option maxHeartbeats 2000000 in
theorem C (list : (List Go.Proofs.Ythkaeighfjadlaa.PMail.Mail)) (from_1 : Int) (minute : Int) (to_3 : Int) (A0 : Option Addr) (c0 : Nat)  (w : World) (M0 : Hid (Cells w 4 A0 list.length (Go.Proofs.Ythkaeighfjadlaa.PMail.flat list))) (N0 : Hid (list.length ≤ 9223372036854775807))  {r0 : Int} {r1 : Bool} (H : Hid (P list from_1 minute to_3 = some (r0, r1))) :
    Calls Try.prog 15 #[.slice A0 list.length c0, .int .i64 from_1, .int .i64 minute, .int .i64 to_3] w (Gives (.tuple #[.int .i64 r0, .bool r1]) w) := by
  have HB := Lib.hid (Below.refl w.heap.size w)
  unfold P at H
  have N0o := N0.out
  go_enter Try.func15, Try.ntmps15
  replace H := bind_hid H
  obtain ⟨t_5, qt_5, H⟩ := H
  go_wp2_with fail
  go_at_call 66
  refine (Go.Proofs.Ythkaeighfjadlaa.GiCanBegin.C (list) (from_1) (minute) A0 c0 _   (Lib.hid (Cells.below M0.out HB.out)) N0 qt_5).mono ?_
  rintro e_t_5 wt_5 ⟨rfl, bt_5⟩
  have HBwt_5 := Lib.hid (Below.step HB.out bt_5)
  clear bt_5
  cases t_5 with
  | false =>
    replace H := let_hid H
    obtain ⟨t_6, ht_6, H⟩ := H
    obtain rfl : t_6 = true := ht_6.symm
    replace H := join_hid H
    replace H := ite_t H
    replace H := app_hid H
    replace H := ite_t H
    cases ret_hid H
    go_wp2_with fail
    go_ret2
    exact ⟨rfl, HBwt_5.out⟩
  | true =>
    replace H := let_hid H
    obtain ⟨t_6, ht_6, H⟩ := H
    obtain rfl : t_6 = false := ht_6.symm
    replace H := join_hid H
    replace H := ite_f H
    replace H := bind_hid H
    obtain ⟨t_9, qt_9, H⟩ := H
    go_wp2_with fail
    go_at_call 67
    refine (Go.Proofs.Ythkaeighfjadlaa.GiIsPostOffice.C (to_3)  _    qt_9).mono ?_
    rintro e_t_9 wt_9 ⟨rfl, bt_9⟩
    have HBwt_9 := Lib.hid (Below.step HBwt_5.out bt_9)
    clear bt_9
    cases t_9 with
    | false =>
      replace H := let_hid H
      obtain ⟨t_10, ht_10, H⟩ := H
      obtain rfl : t_10 = true := ht_10.symm
      replace H := app_hid H
      replace H := ite_t H
      cases ret_hid H
      go_wp2_with fail
      go_ret2
      exact ⟨rfl, HBwt_9.out⟩
    | true =>
      replace H := let_hid H
      obtain ⟨t_10, ht_10, H⟩ := H
      obtain rfl : t_10 = false := ht_10.symm
      replace H := app_hid H
      replace H := ite_f H
      replace H := bind_hid H
      obtain ⟨t_17, qt_17, H⟩ := H
      obtain ⟨t_17_x0, t_17_x1, t_17_x2, t_17_x3, t_17_x4, t_17_x5, t_17_x6, t_17_x7, t_17_x8, t_17_x9⟩ := t_17
      replace H := unIntA10_hid H
      go_wp2_with fail
      go_at_call 68
      refine (Go.Proofs.Ythkaeighfjadlaa.GiEarliestMinutes.C (list) (from_1) (minute) A0 c0 _   (Lib.hid (Cells.below M0.out HBwt_9.out)) N0 qt_17).mono ?_
      rintro e_t_17 wt_17 ⟨rfl, bt_17⟩
      unfold Go.Proofs.Ythkaeighfjadlaa.PIntA10.IntA10.val
      have HBwt_17 := Lib.hid (Below.step HBwt_9.out bt_17)
      clear bt_17
      replace H := idx_hid H
      obtain ⟨nt_19, yt_19, et_19, lt_19, gt_19, H⟩ := H
      subst et_19
      have it_19 : ∀ w, (Instr.index 90 (.agg #[.int .i64 t_17_x0, .int .i64 t_17_x1, .int .i64 t_17_x2, .int .i64 t_17_x3, .int .i64 t_17_x4, .int .i64 t_17_x5, .int .i64 t_17_x6, .int .i64 t_17_x7, .int .i64 t_17_x8, .int .i64 t_17_x9]) (.int .i64 (nt_19 : Int))).run Try.prog w = .ok (.int .i64 yt_19) w := by
        intro w
        have hl := lt_19
        have hg := gt_19.out
        clear gt_19 H
        rcases nt_19 with _ | _ | _ | _ | _ | _ | _ | _ | _ | _ | _
        · obtain rfl := Option.some.inj hg; rfl
        · obtain rfl := Option.some.inj hg; rfl
        · obtain rfl := Option.some.inj hg; rfl
        · obtain rfl := Option.some.inj hg; rfl
        · obtain rfl := Option.some.inj hg; rfl
        · obtain rfl := Option.some.inj hg; rfl
        · obtain rfl := Option.some.inj hg; rfl
        · obtain rfl := Option.some.inj hg; rfl
        · obtain rfl := Option.some.inj hg; rfl
        · obtain rfl := Option.some.inj hg; rfl
        · simp at hl; omega
      replace H := let_hid H
      obtain ⟨t_22, ht_22, H⟩ := H
      cases t_22 with
      | false =>
        replace H := ite_f H
        cases ret_hid H
        go_wp2_with fail
        go_ret2
        exact ⟨rfl, HBwt_17.out⟩
      | true =>
        replace H := ite_t H
        cases ret_hid H
        go_wp2_with fail
        go_ret2
        exact ⟨rfl, HBwt_17.out⟩
end Go.Proofs.Ythkaeighfjadlaa.GiEarliestAt

/- loop.example/g01062/impl.latestMinutes as a plain function, and the contract of the program's: where the plain one has an answer, the program has it. Conditions: slices read as lists. -/
namespace Go.Proofs.Ythkaeighfjadlaa.GiLatestMinutes
set_option linter.unusedVariables false
set_option linter.unusedSimpArgs false
open Go.RowKit
open Go.Proofs.Ythkaeighfjadlaa.Rowed Go.Proofs.Ythkaeighfjadlaa.Turn Go.Proofs.Ythkaeighfjadlaa.Aid Go.Proofs.Ythkaeighfjadlaa.GoP Go.Proofs.Ythkaeighfjadlaa.GoM

def l0 (list : (List Go.Proofs.Ythkaeighfjadlaa.PMail.Mail)) (s : (List Int) × Int) (nx0 bk0 : (List Int) × Int → Option (Go.Proofs.Ythkaeighfjadlaa.PIntA10.IntA10)) : Option (Go.Proofs.Ythkaeighfjadlaa.PIntA10.IntA10) :=
  unp2 s fun latest_7l0 i_8l0 =>
  letK (decide (0 ≤ i_8l0)) fun (t_13 : Bool) =>
  iteK t_13
  (Option.bind (idx list i_8l0) fun (yt_16 : Go.Proofs.Ythkaeighfjadlaa.PMail.Mail) =>
  unMail yt_16 fun (t_16_leave : Int) (t_16_from_ : Int) (t_16_to_ : Int) (t_16_arrive : Int) =>
  Option.bind (idx latest_7l0 t_16_to_) fun (yt_24 : Int) =>
  letK (decide (t_16_arrive ≤ yt_24)) fun (t_26 : Bool) =>
  iteK t_26
  (Option.bind (idx latest_7l0 t_16_from_) fun (yt_31 : Int) =>
  letK (max yt_31 t_16_leave) fun (t_35 : Int) =>
  Option.bind (idx latest_7l0 t_16_from_) fun (yt_36 : Int) =>
  letK (latest_7l0.set (t_16_from_).toNat t_35) fun (l37_37 : (List Int)) =>
  letK (IntKind.i64.wrap (i_8l0 - 1)) fun (t_39 : Int) =>
  appK nx0 (l37_37, t_39))
  (letK (IntKind.i64.wrap (i_8l0 - 1)) fun (t_39 : Int) =>
  appK nx0 (latest_7l0, t_39)))
  (appK bk0 (latest_7l0, i_8l0))

def e0  (s : (List Int) × Int) : Option (Go.Proofs.Ythkaeighfjadlaa.PIntA10.IntA10) :=
  unp2 s fun latest_7l0 i_8l0 =>
  some (Go.Proofs.Ythkaeighfjadlaa.PIntA10.IntA10.mk (Go.Proofs.Ythkaeighfjadlaa.GoA.nth latest_7l0 0) (Go.Proofs.Ythkaeighfjadlaa.GoA.nth latest_7l0 1) (Go.Proofs.Ythkaeighfjadlaa.GoA.nth latest_7l0 2) (Go.Proofs.Ythkaeighfjadlaa.GoA.nth latest_7l0 3) (Go.Proofs.Ythkaeighfjadlaa.GoA.nth latest_7l0 4) (Go.Proofs.Ythkaeighfjadlaa.GoA.nth latest_7l0 5) (Go.Proofs.Ythkaeighfjadlaa.GoA.nth latest_7l0 6) (Go.Proofs.Ythkaeighfjadlaa.GoA.nth latest_7l0 7) (Go.Proofs.Ythkaeighfjadlaa.GoA.nth latest_7l0 8) (Go.Proofs.Ythkaeighfjadlaa.GoA.nth latest_7l0 9))

def P (fuel : Nat) (list : (List Go.Proofs.Ythkaeighfjadlaa.PMail.Mail)) (to_1 : Int) (by_2 : Int) : Option (Go.Proofs.Ythkaeighfjadlaa.PIntA10.IntA10) :=
  Option.bind (Go.Proofs.Ythkaeighfjadlaa.GiFilledWith.P (-1)) fun (t_1 : Go.Proofs.Ythkaeighfjadlaa.PIntA10.IntA10) =>
  unIntA10 t_1 fun (t_1_x0 : Int) (t_1_x1 : Int) (t_1_x2 : Int) (t_1_x3 : Int) (t_1_x4 : Int) (t_1_x5 : Int) (t_1_x6 : Int) (t_1_x7 : Int) (t_1_x8 : Int) (t_1_x9 : Int) =>
  letK ([t_1_x0, t_1_x1, t_1_x2, t_1_x3, t_1_x4, t_1_x5, t_1_x6, t_1_x7, t_1_x8, t_1_x9]) fun (vlatest_2 : (List Int)) =>
  Option.bind (idx vlatest_2 to_1) fun (yt_6 : Int) =>
  letK (vlatest_2.set (to_1).toNat by_2) fun (l7_7 : (List Int)) =>
  letK (IntKind.i64.wrap ((list.length : Int) - 1)) fun (t_10 : Int) =>
  loopK (l0 list) fuel (l7_7, t_10) (e0 )

set_option maxRecDepth 100000 in
set_option maxHeartbeats 2000000 in
theorem C (fuel : Nat) (list : (List Go.Proofs.Ythkaeighfjadlaa.PMail.Mail)) (to_1 : Int) (by_2 : Int) (A0 : Option Addr) (c0 : Nat)  (w : World) (M0 : Hid (Cells w 4 A0 list.length (Go.Proofs.Ythkaeighfjadlaa.PMail.flat list))) (N0 : Hid (list.length ≤ 9223372036854775807))  {r : Go.Proofs.Ythkaeighfjadlaa.PIntA10.IntA10} (H : Hid (P fuel list to_1 by_2 = some r)) :
    Calls Try.prog 61 #[.slice A0 list.length c0, .int .i64 to_1, .int .i64 by_2] w (Gives ((Go.Proofs.Ythkaeighfjadlaa.PIntA10.IntA10.val r)) w) := by
  have HB := Lib.hid (Below.refl w.heap.size w)
  unfold P at H
  have N0o := N0.out
  go_enter Try.func61, Try.ntmps61
  obtain ⟨w_t_0, hw_t_0⟩ : ∃ x, w.alloc (.cells #[.int .i64 0, .int .i64 0, .int .i64 0, .int .i64 0, .int .i64 0, .int .i64 0, .int .i64 0, .int .i64 0, .int .i64 0, .int .i64 0] 90) = x := ⟨_, rfl⟩
  have bw_t_0 : Below w.heap.size w w_t_0 := by rw [← hw_t_0]; exact (Below.refl _ _).alloc (Nat.le_refl _) _
  have HBw_t_0 := Lib.hid (Below.step HB.out bw_t_0)
  clear bw_t_0
  have kt_0_0 : w_t_0.cell? ⟨w.heap.size, 0, none⟩ = some (.int .i64 0) := by rw [← hw_t_0]; exact box_new _ _ _ 0 _ rfl
  have kt_0_1 : w_t_0.cell? ⟨w.heap.size, 1, none⟩ = some (.int .i64 0) := by rw [← hw_t_0]; exact box_new _ _ _ 1 _ rfl
  have kt_0_2 : w_t_0.cell? ⟨w.heap.size, 2, none⟩ = some (.int .i64 0) := by rw [← hw_t_0]; exact box_new _ _ _ 2 _ rfl
  have kt_0_3 : w_t_0.cell? ⟨w.heap.size, 3, none⟩ = some (.int .i64 0) := by rw [← hw_t_0]; exact box_new _ _ _ 3 _ rfl
  have kt_0_4 : w_t_0.cell? ⟨w.heap.size, 4, none⟩ = some (.int .i64 0) := by rw [← hw_t_0]; exact box_new _ _ _ 4 _ rfl
  have kt_0_5 : w_t_0.cell? ⟨w.heap.size, 5, none⟩ = some (.int .i64 0) := by rw [← hw_t_0]; exact box_new _ _ _ 5 _ rfl
  have kt_0_6 : w_t_0.cell? ⟨w.heap.size, 6, none⟩ = some (.int .i64 0) := by rw [← hw_t_0]; exact box_new _ _ _ 6 _ rfl
  have kt_0_7 : w_t_0.cell? ⟨w.heap.size, 7, none⟩ = some (.int .i64 0) := by rw [← hw_t_0]; exact box_new _ _ _ 7 _ rfl
  have kt_0_8 : w_t_0.cell? ⟨w.heap.size, 8, none⟩ = some (.int .i64 0) := by rw [← hw_t_0]; exact box_new _ _ _ 8 _ rfl
  have kt_0_9 : w_t_0.cell? ⟨w.heap.size, 9, none⟩ = some (.int .i64 0) := by rw [← hw_t_0]; exact box_new _ _ _ 9 _ rfl
  have Ot_0 : Hid (w_t_0.ownsRow w.heap.size 90 10 (.slice (some ⟨w.heap.size, 0, none⟩) 1 1) 1 [.int .i64 0, .int .i64 0, .int .i64 0, .int .i64 0, .int .i64 0, .int .i64 0, .int .i64 0, .int .i64 0, .int .i64 0, .int .i64 0]) := Lib.hid (by rw [← hw_t_0]; exact own_laid (n := 1) HB.out.size rfl rfl (by unfold maxLen; omega))
  replace H := bind_hid H
  obtain ⟨t_1, qt_1, H⟩ := H
  obtain ⟨t_1_x0, t_1_x1, t_1_x2, t_1_x3, t_1_x4, t_1_x5, t_1_x6, t_1_x7, t_1_x8, t_1_x9⟩ := t_1
  replace H := unIntA10_hid H
  go_wp2_with fail
  go_at_call 116
  refine (Go.Proofs.Ythkaeighfjadlaa.GiFilledWith.C ((-1))  _    qt_1).mono ?_
  rintro e_t_1 wt_1 ⟨rfl, bt_1⟩
  unfold Go.Proofs.Ythkaeighfjadlaa.PIntA10.IntA10.val
  have HBwt_1 := Lib.hid (Below.step HBw_t_0.out bt_1)
  replace kt_0_0 := cell_below bt_1 kt_0_0
  replace kt_0_1 := cell_below bt_1 kt_0_1
  replace kt_0_2 := cell_below bt_1 kt_0_2
  replace kt_0_3 := cell_below bt_1 kt_0_3
  replace kt_0_4 := cell_below bt_1 kt_0_4
  replace kt_0_5 := cell_below bt_1 kt_0_5
  replace kt_0_6 := cell_below bt_1 kt_0_6
  replace kt_0_7 := cell_below bt_1 kt_0_7
  replace kt_0_8 := cell_below bt_1 kt_0_8
  replace kt_0_9 := cell_below bt_1 kt_0_9
  replace Ot_0 := Lib.hid (own_below Ot_0.out bt_1)
  clear bt_1
  replace H := let_hid H
  obtain ⟨vlatest_2, hvlatest_2, H⟩ := H
  obtain ⟨w_latest_2, hw_latest_2⟩ : ∃ x, wt_1.alloc (.cells #[.int .i64 t_1_x0, .int .i64 t_1_x1, .int .i64 t_1_x2, .int .i64 t_1_x3, .int .i64 t_1_x4, .int .i64 t_1_x5, .int .i64 t_1_x6, .int .i64 t_1_x7, .int .i64 t_1_x8, .int .i64 t_1_x9] 90) = x := ⟨_, rfl⟩
  have bw_latest_2 : Below wt_1.heap.size wt_1 w_latest_2 := by rw [← hw_latest_2]; exact (Below.refl _ _).alloc (Nat.le_refl _) _
  have hs_latest_2 := HBwt_1.out.size
  have nlatest_2 : vlatest_2.length = 10 := by rw [← hvlatest_2]; rfl
  have Olatest_2 : Hid (w_latest_2.ownsRow w.heap.size 90 1 (.slice (some ⟨wt_1.heap.size, 0, none⟩) 10 10) 10 (Go.Proofs.Ythkaeighfjadlaa.HelpInt.iv vlatest_2)) := by
    rw [← hw_latest_2, ← hvlatest_2]
    have e_ : ([.int .i64 t_1_x0, .int .i64 t_1_x1, .int .i64 t_1_x2, .int .i64 t_1_x3, .int .i64 t_1_x4, .int .i64 t_1_x5, .int .i64 t_1_x6, .int .i64 t_1_x7, .int .i64 t_1_x8, .int .i64 t_1_x9] : List Value) = Go.Proofs.Ythkaeighfjadlaa.HelpInt.iv [t_1_x0, t_1_x1, t_1_x2, t_1_x3, t_1_x4, t_1_x5, t_1_x6, t_1_x7, t_1_x8, t_1_x9] := rfl
    exact Lib.hid (own_laid (n := 10) hs_latest_2 e_ rfl (by unfold maxLen; omega))
  clear hs_latest_2
  have hhlatest_2 := Lib.hid hvlatest_2
  clear hvlatest_2
  replace nlatest_2 := Lib.hid nlatest_2
  have Dlatest_2_t_0 := Lib.hid (apart_box kt_0_0)
  have HBw_latest_2 := Lib.hid (Below.step HBwt_1.out bw_latest_2)
  have kt_0_0__241 := cell_below bw_latest_2 kt_0_0
  have kt_0_1__242 := cell_below bw_latest_2 kt_0_1
  have kt_0_2__243 := cell_below bw_latest_2 kt_0_2
  have kt_0_3__244 := cell_below bw_latest_2 kt_0_3
  have kt_0_4__245 := cell_below bw_latest_2 kt_0_4
  have kt_0_5__246 := cell_below bw_latest_2 kt_0_5
  have kt_0_6__247 := cell_below bw_latest_2 kt_0_6
  have kt_0_7__248 := cell_below bw_latest_2 kt_0_7
  have kt_0_8__249 := cell_below bw_latest_2 kt_0_8
  have kt_0_9__250 := cell_below bw_latest_2 kt_0_9
  replace Ot_0 := Lib.hid (own_below Ot_0.out bw_latest_2)
  clear bw_latest_2
  replace H := idx_hid H
  obtain ⟨nt_6, yt_6, et_6, lt_6, gt_6, H⟩ := H
  subst et_6
  have hqt_6 := nlatest_2.out
  obtain ⟨ab_t_6, ao_t_6, zt_6, At_6, z_t_6, ct_6_0⟩ := Go.Proofs.Ythkaeighfjadlaa.HelpInt.Ints.at_ (own_cells Olatest_2.out) (k := nt_6) (by omega)
  obtain rfl := Option.some.inj (gt_6.out.symm.trans z_t_6)
  simp only [Option.some.injEq, Addr.mk.injEq] at At_6
  obtain ⟨rfl, rfl, _⟩ := At_6
  clear z_t_6
  simp only [Nat.zero_add] at ct_6_0
  have b0t_6 : (0 : Int) ≤ (nt_6 : Int) := by omega
  have b1t_6 : (nt_6 : Int) < ((10 : Nat) : Int) := by omega
  have b2t_6 : ((nt_6 : Int)).toNat = nt_6 := by omega
  clear hqt_6
  have b3t_6 : nt_6 < 10 := by have h_ := lt_6; have hn_ := nlatest_2.out; omega
  have b4t_6 : (nt_6 : Int) < (10 : Int) := by omega
  replace H := let_hid H
  obtain ⟨l7_7, hl7_7, H⟩ := H
  try simp only [Int.toNat_natCast] at hl7_7
  obtain ⟨wl7_7, hwl7_7⟩ : ∃ x, (w_latest_2).setCell ⟨wt_1.heap.size, nt_6, none⟩ (.int .i64 by_2) = x := ⟨_, rfl⟩
  have z0l7_7 := Olatest_2.out.frozenAt (nt_6)
  have Sl7_7 := Lib.hid (own_stores [(nt_6, .int .i64 by_2)] Olatest_2.out)
  have nl7_7 : Hid (l7_7.length = 10) := Lib.hid (by rw [← hl7_7, List.length_set]; exact nlatest_2.out)
  have Pl7_7 : Hid (wl7_7.ownsRow w.heap.size 90 1 (.slice (some ⟨wt_1.heap.size, 0, none⟩) 10 10) 10 (Go.Proofs.Ythkaeighfjadlaa.HelpInt.iv l7_7)) := Lib.hid (by have e_ : ([(nt_6, .int .i64 by_2)] : List (Nat × Value)).foldl (fun xs p => xs.set p.1 p.2) (Go.Proofs.Ythkaeighfjadlaa.HelpInt.iv vlatest_2) = (Go.Proofs.Ythkaeighfjadlaa.HelpInt.iv l7_7) := (by rw [← hl7_7]; first | done | simp [Go.Proofs.Ythkaeighfjadlaa.HelpInt.iv, List.map_set]); rw [← hwl7_7, ← e_]; exact Sl7_7.out.1)
  have Gl7_7 : Hid (w_latest_2.grownBy wl7_7 (Value.slice (some ⟨wt_1.heap.size, 0, none⟩) 10 10).ownBlock) := Lib.hid (by rw [← hwl7_7]; exact Sl7_7.out.2)
  have HBwl7_7 := Lib.hid (HBw_latest_2.out.grown Gl7_7.out HBw_latest_2.out.size (fun q hq => (Olatest_2.out.lt q hq).1))
  have hhl7_7 := Lib.hid hl7_7
  clear hl7_7 Sl7_7
  have kt_0_0__251 := cell_other kt_0_0__241 Gl7_7.out Dlatest_2_t_0.out
  have kt_0_1__252 := cell_other kt_0_1__242 Gl7_7.out Dlatest_2_t_0.out
  have kt_0_2__253 := cell_other kt_0_2__243 Gl7_7.out Dlatest_2_t_0.out
  have kt_0_3__254 := cell_other kt_0_3__244 Gl7_7.out Dlatest_2_t_0.out
  have kt_0_4__255 := cell_other kt_0_4__245 Gl7_7.out Dlatest_2_t_0.out
  have kt_0_5__256 := cell_other kt_0_5__246 Gl7_7.out Dlatest_2_t_0.out
  have kt_0_6__257 := cell_other kt_0_6__247 Gl7_7.out Dlatest_2_t_0.out
  have kt_0_7__258 := cell_other kt_0_7__248 Gl7_7.out Dlatest_2_t_0.out
  have kt_0_8__259 := cell_other kt_0_8__249 Gl7_7.out Dlatest_2_t_0.out
  have kt_0_9__260 := cell_other kt_0_9__250 Gl7_7.out Dlatest_2_t_0.out
  replace Ot_0 := Lib.hid (own_other Ot_0.out Gl7_7.out Dlatest_2_t_0.out)
  clear Olatest_2 Gl7_7
  replace H := let_hid H
  obtain ⟨t_10, ht_10, H⟩ := H
  try have hv_t_10 : (list.length : Int) - 1 = t_10 := by rw [← ht_10]; exact (IntWalk.i64_in _ (by omega)).symm
  try have hv2_t_10 : IntKind.i64.wrap t_10 = t_10 := by rw [← hv_t_10]; exact IntWalk.i64_in _ (by omega)
  go_wp2_with fail
  clear kt_0_0 kt_0_1 kt_0_2 kt_0_3 kt_0_4 kt_0_5 kt_0_6 kt_0_7 kt_0_8 kt_0_9 z0l7_7 kt_0_0__241 kt_0_1__242 kt_0_2__243 kt_0_3__244 kt_0_4__245 kt_0_5__246 kt_0_6__247 kt_0_7__248 kt_0_8__249 kt_0_9__250 ct_6_0
  go_wp2_with fail
  go_loopg [8] (fuel) (fun m_ v8_ wr => ∃ (latest_7l0 : (List Int)) (i_8l0 : Int), v8_ = .int .i64 i_8l0 ∧ Hid (loopK (l0 list) m_ (latest_7l0, i_8l0) (e0 ) = some r) ∧ Hid (Below w.heap.size w wr) ∧ wr.cell? ⟨w.heap.size, 0, none⟩ = some (.int .i64 0) ∧ wr.cell? ⟨w.heap.size, 1, none⟩ = some (.int .i64 0) ∧ wr.cell? ⟨w.heap.size, 2, none⟩ = some (.int .i64 0) ∧ wr.cell? ⟨w.heap.size, 3, none⟩ = some (.int .i64 0) ∧ wr.cell? ⟨w.heap.size, 4, none⟩ = some (.int .i64 0) ∧ wr.cell? ⟨w.heap.size, 5, none⟩ = some (.int .i64 0) ∧ wr.cell? ⟨w.heap.size, 6, none⟩ = some (.int .i64 0) ∧ wr.cell? ⟨w.heap.size, 7, none⟩ = some (.int .i64 0) ∧ wr.cell? ⟨w.heap.size, 8, none⟩ = some (.int .i64 0) ∧ wr.cell? ⟨w.heap.size, 9, none⟩ = some (.int .i64 0) ∧ Hid (wr.ownsRow w.heap.size 90 10 (.slice (some ⟨w.heap.size, 0, none⟩) 1 1) 1 [.int .i64 0, .int .i64 0, .int .i64 0, .int .i64 0, .int .i64 0, .int .i64 0, .int .i64 0, .int .i64 0, .int .i64 0, .int .i64 0]) ∧ Hid (wr.ownsRow w.heap.size 90 1 (.slice (some ⟨wt_1.heap.size, 0, none⟩) 10 10) 10 (Go.Proofs.Ythkaeighfjadlaa.HelpInt.iv latest_7l0)) ∧ Hid (latest_7l0.length = 10) ∧ Hid (Apart (some ⟨wt_1.heap.size, 0, none⟩) (some ⟨w.heap.size, 0, none⟩)))
  case atStart => exact ⟨_, _, rfl, H, HBwl7_7, kt_0_0__251, kt_0_1__252, kt_0_2__253, kt_0_3__254, kt_0_4__255, kt_0_5__256, kt_0_6__257, kt_0_7__258, kt_0_8__259, kt_0_9__260, Ot_0, Pl7_7, Lib.hid (nl7_7.out), Lib.hid Dlatest_2_t_0.out⟩
  case round =>
    obtain ⟨latest_7l0, i_8l0, rfl, H, HBwr0, kt_0_0__251, kt_0_1__252, kt_0_2__253, kt_0_3__254, kt_0_4__255, kt_0_5__256, kt_0_6__257, kt_0_7__258, kt_0_8__259, kt_0_9__260, Ot_0, Olatest_7l0, hnlatest_7l0, Dlatest_7l0_t_0⟩ := hrel
    rename World => wr0
    cases gk with
    | zero => exact (loop_zero H).elim
    | succ m0 =>
      replace H := loop_succ H
      unfold l0 at H
      replace H := unp2_hid H
      replace H := let_hid H
      obtain ⟨t_13, ht_13, H⟩ := H
      cases t_13 with
      | false =>
        replace H := ite_f H
        replace H := app_hid H
        unfold e0 at H
        replace H := unp2_hid H
        have ka_261 : wr0.cell? ⟨wt_1.heap.size, 0, none⟩ = some (.int .i64 (Go.Proofs.Ythkaeighfjadlaa.GoA.nth latest_7l0 0)) := Go.Proofs.Ythkaeighfjadlaa.GoA.row_at Olatest_7l0.out hnlatest_7l0.out 0 (by omega)
        have ka_262 : wr0.cell? ⟨wt_1.heap.size, 1, none⟩ = some (.int .i64 (Go.Proofs.Ythkaeighfjadlaa.GoA.nth latest_7l0 1)) := Go.Proofs.Ythkaeighfjadlaa.GoA.row_at Olatest_7l0.out hnlatest_7l0.out 1 (by omega)
        have ka_263 : wr0.cell? ⟨wt_1.heap.size, 2, none⟩ = some (.int .i64 (Go.Proofs.Ythkaeighfjadlaa.GoA.nth latest_7l0 2)) := Go.Proofs.Ythkaeighfjadlaa.GoA.row_at Olatest_7l0.out hnlatest_7l0.out 2 (by omega)
        have ka_264 : wr0.cell? ⟨wt_1.heap.size, 3, none⟩ = some (.int .i64 (Go.Proofs.Ythkaeighfjadlaa.GoA.nth latest_7l0 3)) := Go.Proofs.Ythkaeighfjadlaa.GoA.row_at Olatest_7l0.out hnlatest_7l0.out 3 (by omega)
        have ka_265 : wr0.cell? ⟨wt_1.heap.size, 4, none⟩ = some (.int .i64 (Go.Proofs.Ythkaeighfjadlaa.GoA.nth latest_7l0 4)) := Go.Proofs.Ythkaeighfjadlaa.GoA.row_at Olatest_7l0.out hnlatest_7l0.out 4 (by omega)
        have ka_266 : wr0.cell? ⟨wt_1.heap.size, 5, none⟩ = some (.int .i64 (Go.Proofs.Ythkaeighfjadlaa.GoA.nth latest_7l0 5)) := Go.Proofs.Ythkaeighfjadlaa.GoA.row_at Olatest_7l0.out hnlatest_7l0.out 5 (by omega)
        have ka_267 : wr0.cell? ⟨wt_1.heap.size, 6, none⟩ = some (.int .i64 (Go.Proofs.Ythkaeighfjadlaa.GoA.nth latest_7l0 6)) := Go.Proofs.Ythkaeighfjadlaa.GoA.row_at Olatest_7l0.out hnlatest_7l0.out 6 (by omega)
        have ka_268 : wr0.cell? ⟨wt_1.heap.size, 7, none⟩ = some (.int .i64 (Go.Proofs.Ythkaeighfjadlaa.GoA.nth latest_7l0 7)) := Go.Proofs.Ythkaeighfjadlaa.GoA.row_at Olatest_7l0.out hnlatest_7l0.out 7 (by omega)
        have ka_269 : wr0.cell? ⟨wt_1.heap.size, 8, none⟩ = some (.int .i64 (Go.Proofs.Ythkaeighfjadlaa.GoA.nth latest_7l0 8)) := Go.Proofs.Ythkaeighfjadlaa.GoA.row_at Olatest_7l0.out hnlatest_7l0.out 8 (by omega)
        have ka_270 : wr0.cell? ⟨wt_1.heap.size, 9, none⟩ = some (.int .i64 (Go.Proofs.Ythkaeighfjadlaa.GoA.nth latest_7l0 9)) := Go.Proofs.Ythkaeighfjadlaa.GoA.row_at Olatest_7l0.out hnlatest_7l0.out 9 (by omega)
        obtain ⟨wb42_42, hwb42_42⟩ : ∃ x, ((((((((((wr0).setCell ⟨w.heap.size, 0, none⟩ (.int .i64 (Go.Proofs.Ythkaeighfjadlaa.GoA.nth latest_7l0 0))).setCell ⟨w.heap.size, 1, none⟩ (.int .i64 (Go.Proofs.Ythkaeighfjadlaa.GoA.nth latest_7l0 1))).setCell ⟨w.heap.size, 2, none⟩ (.int .i64 (Go.Proofs.Ythkaeighfjadlaa.GoA.nth latest_7l0 2))).setCell ⟨w.heap.size, 3, none⟩ (.int .i64 (Go.Proofs.Ythkaeighfjadlaa.GoA.nth latest_7l0 3))).setCell ⟨w.heap.size, 4, none⟩ (.int .i64 (Go.Proofs.Ythkaeighfjadlaa.GoA.nth latest_7l0 4))).setCell ⟨w.heap.size, 5, none⟩ (.int .i64 (Go.Proofs.Ythkaeighfjadlaa.GoA.nth latest_7l0 5))).setCell ⟨w.heap.size, 6, none⟩ (.int .i64 (Go.Proofs.Ythkaeighfjadlaa.GoA.nth latest_7l0 6))).setCell ⟨w.heap.size, 7, none⟩ (.int .i64 (Go.Proofs.Ythkaeighfjadlaa.GoA.nth latest_7l0 7))).setCell ⟨w.heap.size, 8, none⟩ (.int .i64 (Go.Proofs.Ythkaeighfjadlaa.GoA.nth latest_7l0 8))).setCell ⟨w.heap.size, 9, none⟩ (.int .i64 (Go.Proofs.Ythkaeighfjadlaa.GoA.nth latest_7l0 9)) = x := ⟨_, rfl⟩
        have z0b42_42 := Ot_0.out.frozenAt 0
        have z1b42_42 := Ot_0.out.frozenAt 1
        have z2b42_42 := Ot_0.out.frozenAt 2
        have z3b42_42 := Ot_0.out.frozenAt 3
        have z4b42_42 := Ot_0.out.frozenAt 4
        have z5b42_42 := Ot_0.out.frozenAt 5
        have z6b42_42 := Ot_0.out.frozenAt 6
        have z7b42_42 := Ot_0.out.frozenAt 7
        have z8b42_42 := Ot_0.out.frozenAt 8
        have z9b42_42 := Ot_0.out.frozenAt 9
        have Sb42_42 := Lib.hid (own_stores [(0, .int .i64 (Go.Proofs.Ythkaeighfjadlaa.GoA.nth latest_7l0 0)), (1, .int .i64 (Go.Proofs.Ythkaeighfjadlaa.GoA.nth latest_7l0 1)), (2, .int .i64 (Go.Proofs.Ythkaeighfjadlaa.GoA.nth latest_7l0 2)), (3, .int .i64 (Go.Proofs.Ythkaeighfjadlaa.GoA.nth latest_7l0 3)), (4, .int .i64 (Go.Proofs.Ythkaeighfjadlaa.GoA.nth latest_7l0 4)), (5, .int .i64 (Go.Proofs.Ythkaeighfjadlaa.GoA.nth latest_7l0 5)), (6, .int .i64 (Go.Proofs.Ythkaeighfjadlaa.GoA.nth latest_7l0 6)), (7, .int .i64 (Go.Proofs.Ythkaeighfjadlaa.GoA.nth latest_7l0 7)), (8, .int .i64 (Go.Proofs.Ythkaeighfjadlaa.GoA.nth latest_7l0 8)), (9, .int .i64 (Go.Proofs.Ythkaeighfjadlaa.GoA.nth latest_7l0 9))] Ot_0.out)
        have Pb42_42 : Hid (wb42_42.ownsRow w.heap.size 90 10 (.slice (some ⟨w.heap.size, 0, none⟩) 1 1) 1 [.int .i64 (Go.Proofs.Ythkaeighfjadlaa.GoA.nth latest_7l0 0), .int .i64 (Go.Proofs.Ythkaeighfjadlaa.GoA.nth latest_7l0 1), .int .i64 (Go.Proofs.Ythkaeighfjadlaa.GoA.nth latest_7l0 2), .int .i64 (Go.Proofs.Ythkaeighfjadlaa.GoA.nth latest_7l0 3), .int .i64 (Go.Proofs.Ythkaeighfjadlaa.GoA.nth latest_7l0 4), .int .i64 (Go.Proofs.Ythkaeighfjadlaa.GoA.nth latest_7l0 5), .int .i64 (Go.Proofs.Ythkaeighfjadlaa.GoA.nth latest_7l0 6), .int .i64 (Go.Proofs.Ythkaeighfjadlaa.GoA.nth latest_7l0 7), .int .i64 (Go.Proofs.Ythkaeighfjadlaa.GoA.nth latest_7l0 8), .int .i64 (Go.Proofs.Ythkaeighfjadlaa.GoA.nth latest_7l0 9)]) := Lib.hid (by rw [← hwb42_42]; exact Sb42_42.out.1)
        have Gb42_42 : Hid (wr0.grownBy wb42_42 (Value.slice (some ⟨w.heap.size, 0, none⟩) 1 1).ownBlock) := Lib.hid (by rw [← hwb42_42]; exact Sb42_42.out.2)
        have HBwb42_42 := Lib.hid (HBwr0.out.grown Gb42_42.out HBwr0.out.size (fun q hq => (Ot_0.out.lt q hq).1))
        clear Sb42_42
        replace Olatest_7l0 := Lib.hid (own_other Olatest_7l0.out Gb42_42.out (Apart.symm Dlatest_7l0_t_0.out))
        clear Ot_0 Gb42_42
        have kt_0_0__271 : wb42_42.cell? ⟨w.heap.size, 0, none⟩ = some (.int .i64 (Go.Proofs.Ythkaeighfjadlaa.GoA.nth latest_7l0 0)) := Pb42_42.out.cells rfl 0 _ rfl
        have kt_0_1__272 : wb42_42.cell? ⟨w.heap.size, 1, none⟩ = some (.int .i64 (Go.Proofs.Ythkaeighfjadlaa.GoA.nth latest_7l0 1)) := Pb42_42.out.cells rfl 1 _ rfl
        have kt_0_2__273 : wb42_42.cell? ⟨w.heap.size, 2, none⟩ = some (.int .i64 (Go.Proofs.Ythkaeighfjadlaa.GoA.nth latest_7l0 2)) := Pb42_42.out.cells rfl 2 _ rfl
        have kt_0_3__274 : wb42_42.cell? ⟨w.heap.size, 3, none⟩ = some (.int .i64 (Go.Proofs.Ythkaeighfjadlaa.GoA.nth latest_7l0 3)) := Pb42_42.out.cells rfl 3 _ rfl
        have kt_0_4__275 : wb42_42.cell? ⟨w.heap.size, 4, none⟩ = some (.int .i64 (Go.Proofs.Ythkaeighfjadlaa.GoA.nth latest_7l0 4)) := Pb42_42.out.cells rfl 4 _ rfl
        have kt_0_5__276 : wb42_42.cell? ⟨w.heap.size, 5, none⟩ = some (.int .i64 (Go.Proofs.Ythkaeighfjadlaa.GoA.nth latest_7l0 5)) := Pb42_42.out.cells rfl 5 _ rfl
        have kt_0_6__277 : wb42_42.cell? ⟨w.heap.size, 6, none⟩ = some (.int .i64 (Go.Proofs.Ythkaeighfjadlaa.GoA.nth latest_7l0 6)) := Pb42_42.out.cells rfl 6 _ rfl
        have kt_0_7__278 : wb42_42.cell? ⟨w.heap.size, 7, none⟩ = some (.int .i64 (Go.Proofs.Ythkaeighfjadlaa.GoA.nth latest_7l0 7)) := Pb42_42.out.cells rfl 7 _ rfl
        have kt_0_8__279 : wb42_42.cell? ⟨w.heap.size, 8, none⟩ = some (.int .i64 (Go.Proofs.Ythkaeighfjadlaa.GoA.nth latest_7l0 8)) := Pb42_42.out.cells rfl 8 _ rfl
        have kt_0_9__280 : wb42_42.cell? ⟨w.heap.size, 9, none⟩ = some (.int .i64 (Go.Proofs.Ythkaeighfjadlaa.GoA.nth latest_7l0 9)) := Pb42_42.out.cells rfl 9 _ rfl
        cases ret_hid H
        go_wp2_with fail
        (try simp only [Exit.inBlock, Exit.then])
        refine bodyPost_ret (v := .agg #[.int .i64 (Go.Proofs.Ythkaeighfjadlaa.GoA.nth latest_7l0 0), .int .i64 (Go.Proofs.Ythkaeighfjadlaa.GoA.nth latest_7l0 1), .int .i64 (Go.Proofs.Ythkaeighfjadlaa.GoA.nth latest_7l0 2), .int .i64 (Go.Proofs.Ythkaeighfjadlaa.GoA.nth latest_7l0 3), .int .i64 (Go.Proofs.Ythkaeighfjadlaa.GoA.nth latest_7l0 4), .int .i64 (Go.Proofs.Ythkaeighfjadlaa.GoA.nth latest_7l0 5), .int .i64 (Go.Proofs.Ythkaeighfjadlaa.GoA.nth latest_7l0 6), .int .i64 (Go.Proofs.Ythkaeighfjadlaa.GoA.nth latest_7l0 7), .int .i64 (Go.Proofs.Ythkaeighfjadlaa.GoA.nth latest_7l0 8), .int .i64 (Go.Proofs.Ythkaeighfjadlaa.GoA.nth latest_7l0 9)]) ?hr_ ?hd_ ?_
        case hd_ => rfl
        case hr_ => simp [results, Try.results61, kt_0_0__271, kt_0_1__272, kt_0_2__273, kt_0_3__274, kt_0_4__275, kt_0_5__276, kt_0_6__277, kt_0_7__278, kt_0_8__279, kt_0_9__280, go_sem]
        exact ⟨rfl, HBwb42_42.out⟩
      | true =>
        replace H := ite_t H
        replace H := idx_hid H
        obtain ⟨nt_16, yt_16, et_16, lt_16, gt_16, H⟩ := H
        subst et_16
        have nc_281 : 0 ≤ nt_16 := by have := of_decide_eq_true ht_13; omega
        obtain ⟨t_16_leave, t_16_from_, t_16_to_, t_16_arrive⟩ := yt_16
        replace H := unMail_hid H
        obtain ⟨ab_t_16, ao_t_16, zt_16, At_16, z_t_16, ct_16_0, ct_16_1, ct_16_2, ct_16_3⟩ := Go.Proofs.Ythkaeighfjadlaa.OMail.at_ M0.out lt_16
        obtain rfl := Option.some.inj (gt_16.out.symm.trans z_t_16)
        subst At_16
        have ltt_16 := cell_lt ct_16_0
        replace ct_16_0 := cell_below HBwr0.out ct_16_0
        replace ct_16_1 := cell_below HBwr0.out ct_16_1
        replace ct_16_2 := cell_below HBwr0.out ct_16_2
        replace ct_16_3 := cell_below HBwr0.out ct_16_3
        clear z_t_16
        have b0t_16 : (0 : Int) ≤ (nt_16 : Int) := by omega
        have b1t_16 : (nt_16 : Int) < ((list.length : Nat) : Int) := by omega
        have b2t_16 : ((nt_16 : Int)).toNat = nt_16 := by omega
        obtain ⟨w_x_18, hw_x_18⟩ : ∃ x, wr0.alloc (.cells #[.int .i64 t_16_leave, .int .i64 t_16_from_, .int .i64 t_16_to_, .int .i64 t_16_arrive] 93) = x := ⟨_, rfl⟩
        have bw_x_18 : Below wr0.heap.size wr0 w_x_18 := by rw [← hw_x_18]; exact (Below.refl _ _).alloc (Nat.le_refl _) _
        have Dx_18_latest_7l0 := Lib.hid (apart_fresh Olatest_7l0.out)
        have Dx_18_t_0 := Lib.hid (apart_box kt_0_0__251)
        have HBw_x_18 := Lib.hid (Below.step HBwr0.out bw_x_18)
        have kt_0_0__282 := cell_below bw_x_18 kt_0_0__251
        have kt_0_1__283 := cell_below bw_x_18 kt_0_1__252
        have kt_0_2__284 := cell_below bw_x_18 kt_0_2__253
        have kt_0_3__285 := cell_below bw_x_18 kt_0_3__254
        have kt_0_4__286 := cell_below bw_x_18 kt_0_4__255
        have kt_0_5__287 := cell_below bw_x_18 kt_0_5__256
        have kt_0_6__288 := cell_below bw_x_18 kt_0_6__257
        have kt_0_7__289 := cell_below bw_x_18 kt_0_7__258
        have kt_0_8__290 := cell_below bw_x_18 kt_0_8__259
        have kt_0_9__291 := cell_below bw_x_18 kt_0_9__260
        have ct_16_0__292 := cell_below bw_x_18 ct_16_0
        have ct_16_1__293 := cell_below bw_x_18 ct_16_1
        have ct_16_2__294 := cell_below bw_x_18 ct_16_2
        have ct_16_3__295 := cell_below bw_x_18 ct_16_3
        replace Olatest_7l0 := Lib.hid (own_below Olatest_7l0.out bw_x_18)
        replace Ot_0 := Lib.hid (own_below Ot_0.out bw_x_18)
        clear bw_x_18
        have kx_18_0 : w_x_18.cell? ⟨wr0.heap.size, 0, none⟩ = some (.int .i64 t_16_leave) := by rw [← hw_x_18]; exact box_new _ _ _ 0 _ rfl
        have kx_18_1 : w_x_18.cell? ⟨wr0.heap.size, 1, none⟩ = some (.int .i64 t_16_from_) := by rw [← hw_x_18]; exact box_new _ _ _ 1 _ rfl
        have kx_18_2 : w_x_18.cell? ⟨wr0.heap.size, 2, none⟩ = some (.int .i64 t_16_to_) := by rw [← hw_x_18]; exact box_new _ _ _ 2 _ rfl
        have kx_18_3 : w_x_18.cell? ⟨wr0.heap.size, 3, none⟩ = some (.int .i64 t_16_arrive) := by rw [← hw_x_18]; exact box_new _ _ _ 3 _ rfl
        go_wp2_with fail
        clear kt_0_0__251 kt_0_1__252 kt_0_2__253 kt_0_3__254 kt_0_4__255 kt_0_5__256 kt_0_6__257 kt_0_7__258 kt_0_8__259 kt_0_9__260 ct_16_0 ct_16_1 ct_16_2 ct_16_3
        have Hkt_0_0__282 := Lib.hid kt_0_0__282
        replace kt_0_0__282 := cell_regrown kt_0_0__282
        have Hkt_0_1__283 := Lib.hid kt_0_1__283
        replace kt_0_1__283 := cell_regrown kt_0_1__283
        have Hkt_0_2__284 := Lib.hid kt_0_2__284
        replace kt_0_2__284 := cell_regrown kt_0_2__284
        have Hkt_0_3__285 := Lib.hid kt_0_3__285
        replace kt_0_3__285 := cell_regrown kt_0_3__285
        have Hkt_0_4__286 := Lib.hid kt_0_4__286
        replace kt_0_4__286 := cell_regrown kt_0_4__286
        have Hkt_0_5__287 := Lib.hid kt_0_5__287
        replace kt_0_5__287 := cell_regrown kt_0_5__287
        have Hkt_0_6__288 := Lib.hid kt_0_6__288
        replace kt_0_6__288 := cell_regrown kt_0_6__288
        have Hkt_0_7__289 := Lib.hid kt_0_7__289
        replace kt_0_7__289 := cell_regrown kt_0_7__289
        have Hkt_0_8__290 := Lib.hid kt_0_8__290
        replace kt_0_8__290 := cell_regrown kt_0_8__290
        have Hkt_0_9__291 := Lib.hid kt_0_9__291
        replace kt_0_9__291 := cell_regrown kt_0_9__291
        have Hct_16_0__292 := Lib.hid ct_16_0__292
        replace ct_16_0__292 := cell_regrown ct_16_0__292
        have Hct_16_1__293 := Lib.hid ct_16_1__293
        replace ct_16_1__293 := cell_regrown ct_16_1__293
        have Hct_16_2__294 := Lib.hid ct_16_2__294
        replace ct_16_2__294 := cell_regrown ct_16_2__294
        have Hct_16_3__295 := Lib.hid ct_16_3__295
        replace ct_16_3__295 := cell_regrown ct_16_3__295
        have Hkx_18_0 := Lib.hid kx_18_0
        replace kx_18_0 := cell_regrown kx_18_0
        have Hkx_18_1 := Lib.hid kx_18_1
        replace kx_18_1 := cell_regrown kx_18_1
        have Hkx_18_2 := Lib.hid kx_18_2
        replace kx_18_2 := cell_regrown kx_18_2
        have Hkx_18_3 := Lib.hid kx_18_3
        replace kx_18_3 := cell_regrown kx_18_3
        replace H := idx_hid H
        obtain ⟨nt_24, yt_24, et_24, lt_24, gt_24, H⟩ := H
        subst et_24
        have hqt_24 := hnlatest_7l0.out
        obtain ⟨ab_t_24, ao_t_24, zt_24, At_24, z_t_24, ct_24_0⟩ := Go.Proofs.Ythkaeighfjadlaa.HelpInt.Ints.at_ (own_cells Olatest_7l0.out) (k := nt_24) (by omega)
        obtain rfl := Option.some.inj (gt_24.out.symm.trans z_t_24)
        simp only [Option.some.injEq, Addr.mk.injEq] at At_24
        obtain ⟨rfl, rfl, _⟩ := At_24
        clear z_t_24
        simp only [Nat.zero_add] at ct_24_0
        have b0t_24 : (0 : Int) ≤ (nt_24 : Int) := by omega
        have b1t_24 : (nt_24 : Int) < ((10 : Nat) : Int) := by omega
        have b2t_24 : ((nt_24 : Int)).toNat = nt_24 := by omega
        clear hqt_24
        have Hct_24_0 := Lib.hid ct_24_0
        replace ct_24_0 := cell_regrown ct_24_0
        have b3t_24 : nt_24 < 10 := by have h_ := lt_24; have hn_ := hnlatest_7l0.out; omega
        have b4t_24 : (nt_24 : Int) < (10 : Int) := by omega
        replace H := let_hid H
        obtain ⟨t_26, ht_26, H⟩ := H
        refine wp_region_quiet_below (by kernel_rfl) (by kernel_rfl) ?_
        repeat (go_big_quiet_step (fail))
        refine wpQuiet_nil ?_
        intro Y7 hY7
        replace hY7 := below_class hY7
        replace kt_0_0__282 := Hkt_0_0__282.out
        clear Hkt_0_0__282
        replace kt_0_1__283 := Hkt_0_1__283.out
        clear Hkt_0_1__283
        replace kt_0_2__284 := Hkt_0_2__284.out
        clear Hkt_0_2__284
        replace kt_0_3__285 := Hkt_0_3__285.out
        clear Hkt_0_3__285
        replace kt_0_4__286 := Hkt_0_4__286.out
        clear Hkt_0_4__286
        replace kt_0_5__287 := Hkt_0_5__287.out
        clear Hkt_0_5__287
        replace kt_0_6__288 := Hkt_0_6__288.out
        clear Hkt_0_6__288
        replace kt_0_7__289 := Hkt_0_7__289.out
        clear Hkt_0_7__289
        replace kt_0_8__290 := Hkt_0_8__290.out
        clear Hkt_0_8__290
        replace kt_0_9__291 := Hkt_0_9__291.out
        clear Hkt_0_9__291
        replace ct_16_0__292 := Hct_16_0__292.out
        clear Hct_16_0__292
        replace ct_16_1__293 := Hct_16_1__293.out
        clear Hct_16_1__293
        replace ct_16_2__294 := Hct_16_2__294.out
        clear Hct_16_2__294
        replace ct_16_3__295 := Hct_16_3__295.out
        clear Hct_16_3__295
        replace kx_18_0 := Hkx_18_0.out
        clear Hkx_18_0
        replace kx_18_1 := Hkx_18_1.out
        clear Hkx_18_1
        replace kx_18_2 := Hkx_18_2.out
        clear Hkx_18_2
        replace kx_18_3 := Hkx_18_3.out
        clear Hkx_18_3
        replace ct_24_0 := Hct_24_0.out
        clear Hct_24_0
        have HBY7 := Lib.hid (Below.step HBw_x_18.out hY7)
        replace kt_0_0__282 := cell_below hY7 kt_0_0__282
        replace kt_0_1__283 := cell_below hY7 kt_0_1__283
        replace kt_0_2__284 := cell_below hY7 kt_0_2__284
        replace kt_0_3__285 := cell_below hY7 kt_0_3__285
        replace kt_0_4__286 := cell_below hY7 kt_0_4__286
        replace kt_0_5__287 := cell_below hY7 kt_0_5__287
        replace kt_0_6__288 := cell_below hY7 kt_0_6__288
        replace kt_0_7__289 := cell_below hY7 kt_0_7__289
        replace kt_0_8__290 := cell_below hY7 kt_0_8__290
        replace kt_0_9__291 := cell_below hY7 kt_0_9__291
        replace ct_16_0__292 := cell_below hY7 ct_16_0__292
        replace ct_16_1__293 := cell_below hY7 ct_16_1__293
        replace ct_16_2__294 := cell_below hY7 ct_16_2__294
        replace ct_16_3__295 := cell_below hY7 ct_16_3__295
        replace kx_18_0 := cell_below hY7 kx_18_0
        replace kx_18_1 := cell_below hY7 kx_18_1
        replace kx_18_2 := cell_below hY7 kx_18_2
        replace kx_18_3 := cell_below hY7 kx_18_3
        replace ct_24_0 := cell_below hY7 ct_24_0
        replace Olatest_7l0 := Lib.hid (own_below Olatest_7l0.out hY7)
        replace Ot_0 := Lib.hid (own_below Ot_0.out hY7)
        clear hY7
        cases t_26 with
        | false =>
          replace H := ite_f H
          replace H := let_hid H
          obtain ⟨t_39, ht_39, H⟩ := H
          replace H := app_hid H
          go_wp2_with fail
          go_roundg m0
          case measure => omega
          case rel => exact ⟨_, _, rfl, H, HBY7, kt_0_0__282, kt_0_1__283, kt_0_2__284, kt_0_3__285, kt_0_4__286, kt_0_5__287, kt_0_6__288, kt_0_7__289, kt_0_8__290, kt_0_9__291, Ot_0, Olatest_7l0, Lib.hid (hnlatest_7l0.out), Lib.hid Dlatest_7l0_t_0.out⟩
        | true =>
          replace H := ite_t H
          go_wp2_with fail
          obtain ⟨Z8, hZ8⟩ : ∃ x, Y7.drew = x := ⟨_, rfl⟩
          have bd8 : Below Y7.heap.size Y7 Z8 := by rw [← hZ8]; exact (Below.refl _ _).drew
          have HBZ8 := Lib.hid (Below.step HBY7.out bd8)
          replace kt_0_0__282 := cell_below bd8 kt_0_0__282
          replace kt_0_1__283 := cell_below bd8 kt_0_1__283
          replace kt_0_2__284 := cell_below bd8 kt_0_2__284
          replace kt_0_3__285 := cell_below bd8 kt_0_3__285
          replace kt_0_4__286 := cell_below bd8 kt_0_4__286
          replace kt_0_5__287 := cell_below bd8 kt_0_5__287
          replace kt_0_6__288 := cell_below bd8 kt_0_6__288
          replace kt_0_7__289 := cell_below bd8 kt_0_7__289
          replace kt_0_8__290 := cell_below bd8 kt_0_8__290
          replace kt_0_9__291 := cell_below bd8 kt_0_9__291
          replace ct_16_0__292 := cell_below bd8 ct_16_0__292
          replace ct_16_1__293 := cell_below bd8 ct_16_1__293
          replace ct_16_2__294 := cell_below bd8 ct_16_2__294
          replace ct_16_3__295 := cell_below bd8 ct_16_3__295
          replace kx_18_0 := cell_below bd8 kx_18_0
          replace kx_18_1 := cell_below bd8 kx_18_1
          replace kx_18_2 := cell_below bd8 kx_18_2
          replace kx_18_3 := cell_below bd8 kx_18_3
          replace ct_24_0 := cell_below bd8 ct_24_0
          replace Olatest_7l0 := Lib.hid (own_below Olatest_7l0.out bd8)
          replace Ot_0 := Lib.hid (own_below Ot_0.out bd8)
          clear bd8
          replace H := idx_hid H
          obtain ⟨nt_31, yt_31, et_31, lt_31, gt_31, H⟩ := H
          subst et_31
          have hqt_31 := hnlatest_7l0.out
          obtain ⟨ab_t_31, ao_t_31, zt_31, At_31, z_t_31, ct_31_0⟩ := Go.Proofs.Ythkaeighfjadlaa.HelpInt.Ints.at_ (own_cells Olatest_7l0.out) (k := nt_31) (by omega)
          obtain rfl := Option.some.inj (gt_31.out.symm.trans z_t_31)
          simp only [Option.some.injEq, Addr.mk.injEq] at At_31
          obtain ⟨rfl, rfl, _⟩ := At_31
          clear z_t_31
          simp only [Nat.zero_add] at ct_31_0
          have b0t_31 : (0 : Int) ≤ (nt_31 : Int) := by omega
          have b1t_31 : (nt_31 : Int) < ((10 : Nat) : Int) := by omega
          have b2t_31 : ((nt_31 : Int)).toNat = nt_31 := by omega
          clear hqt_31
          have b3t_31 : nt_31 < 10 := by have h_ := lt_31; have hn_ := hnlatest_7l0.out; omega
          have b4t_31 : (nt_31 : Int) < (10 : Int) := by omega
          replace H := let_hid H
          obtain ⟨t_35, ht_35, H⟩ := H
          replace H := idx_hid H
          obtain ⟨nt_36, yt_36, et_36, lt_36, gt_36, H⟩ := H
          obtain rfl : nt_31 = nt_36 := by omega
          clear et_36
          obtain rfl := Option.some.inj (gt_31.out.symm.trans gt_36.out)
          clear gt_36 lt_36
          have b3t_36 : nt_31 < 10 := by have h_ := lt_31; have hn_ := hnlatest_7l0.out; omega
          have b4t_36 : (nt_31 : Int) < (10 : Int) := by omega
          refine wp_region_still_tail 10 (by kernel_rfl) (by kernel_rfl) ?_
          simp only [List.take_succ_cons, List.take_zero, List.drop_succ_cons, List.drop_zero]
          change wpStill _ _ Y7.drew _ _ _
          rw [hZ8]
          repeat still_step
          refine wpStill_nil ?_
          change wpList _ _ _ _ _ Y7.drew
          rw [hZ8]
          clear hZ8
          replace H := let_hid H
          obtain ⟨l37_37, hl37_37, H⟩ := H
          try simp only [Int.toNat_natCast] at hl37_37
          obtain ⟨wl37_37, hwl37_37⟩ : ∃ x, (Z8).setCell ⟨wt_1.heap.size, nt_31, none⟩ (.int .i64 t_35) = x := ⟨_, rfl⟩
          have z0l37_37 := Olatest_7l0.out.frozenAt (nt_31)
          have Sl37_37 := Lib.hid (own_stores [(nt_31, .int .i64 t_35)] Olatest_7l0.out)
          have nl37_37 : Hid (l37_37.length = 10) := Lib.hid (by rw [← hl37_37, List.length_set]; exact hnlatest_7l0.out)
          have Pl37_37 : Hid (wl37_37.ownsRow w.heap.size 90 1 (.slice (some ⟨wt_1.heap.size, 0, none⟩) 10 10) 10 (Go.Proofs.Ythkaeighfjadlaa.HelpInt.iv l37_37)) := Lib.hid (by have e_ : ([(nt_31, .int .i64 t_35)] : List (Nat × Value)).foldl (fun xs p => xs.set p.1 p.2) (Go.Proofs.Ythkaeighfjadlaa.HelpInt.iv latest_7l0) = (Go.Proofs.Ythkaeighfjadlaa.HelpInt.iv l37_37) := (by rw [← hl37_37]; first | done | simp [Go.Proofs.Ythkaeighfjadlaa.HelpInt.iv, List.map_set]); rw [← hwl37_37, ← e_]; exact Sl37_37.out.1)
          have Gl37_37 : Hid (Z8.grownBy wl37_37 (Value.slice (some ⟨wt_1.heap.size, 0, none⟩) 10 10).ownBlock) := Lib.hid (by rw [← hwl37_37]; exact Sl37_37.out.2)
          have HBwl37_37 := Lib.hid (HBZ8.out.grown Gl37_37.out HBZ8.out.size (fun q hq => (Olatest_7l0.out.lt q hq).1))
          have hhl37_37 := Lib.hid hl37_37
          clear hl37_37 Sl37_37
          have kt_0_0__296 := cell_other kt_0_0__282 Gl37_37.out Dlatest_7l0_t_0.out
          have kt_0_1__297 := cell_other kt_0_1__283 Gl37_37.out Dlatest_7l0_t_0.out
          have kt_0_2__298 := cell_other kt_0_2__284 Gl37_37.out Dlatest_7l0_t_0.out
          have kt_0_3__299 := cell_other kt_0_3__285 Gl37_37.out Dlatest_7l0_t_0.out
          have kt_0_4__300 := cell_other kt_0_4__286 Gl37_37.out Dlatest_7l0_t_0.out
          have kt_0_5__301 := cell_other kt_0_5__287 Gl37_37.out Dlatest_7l0_t_0.out
          have kt_0_6__302 := cell_other kt_0_6__288 Gl37_37.out Dlatest_7l0_t_0.out
          have kt_0_7__303 := cell_other kt_0_7__289 Gl37_37.out Dlatest_7l0_t_0.out
          have kt_0_8__304 := cell_other kt_0_8__290 Gl37_37.out Dlatest_7l0_t_0.out
          have kt_0_9__305 := cell_other kt_0_9__291 Gl37_37.out Dlatest_7l0_t_0.out
          have ct_16_0__306 := cell_other ct_16_0__292 Gl37_37.out (apart_old Olatest_7l0.out ltt_16)
          have ct_16_1__307 := cell_other ct_16_1__293 Gl37_37.out (apart_old Olatest_7l0.out ltt_16)
          have ct_16_2__308 := cell_other ct_16_2__294 Gl37_37.out (apart_old Olatest_7l0.out ltt_16)
          have ct_16_3__309 := cell_other ct_16_3__295 Gl37_37.out (apart_old Olatest_7l0.out ltt_16)
          have kx_18_0__310 := cell_other kx_18_0 Gl37_37.out (Apart.symm Dx_18_latest_7l0.out)
          have kx_18_1__311 := cell_other kx_18_1 Gl37_37.out (Apart.symm Dx_18_latest_7l0.out)
          have kx_18_2__312 := cell_other kx_18_2 Gl37_37.out (Apart.symm Dx_18_latest_7l0.out)
          have kx_18_3__313 := cell_other kx_18_3 Gl37_37.out (Apart.symm Dx_18_latest_7l0.out)
          replace Ot_0 := Lib.hid (own_other Ot_0.out Gl37_37.out Dlatest_7l0_t_0.out)
          clear Olatest_7l0 Gl37_37
          replace H := let_hid H
          obtain ⟨t_39, ht_39, H⟩ := H
          replace H := app_hid H
          go_wp2_with fail
          clear z0l37_37 kt_0_0__282 kt_0_1__283 kt_0_2__284 kt_0_3__285 kt_0_4__286 kt_0_5__287 kt_0_6__288 kt_0_7__289 kt_0_8__290 kt_0_9__291 ct_16_0__292 ct_16_1__293 ct_16_2__294 ct_16_3__295 kx_18_0 kx_18_1 kx_18_2 kx_18_3 ct_24_0 ct_31_0
          go_roundg m0
          case measure => omega
          case rel => exact ⟨_, _, rfl, H, HBwl37_37, kt_0_0__296, kt_0_1__297, kt_0_2__298, kt_0_3__299, kt_0_4__300, kt_0_5__301, kt_0_6__302, kt_0_7__303, kt_0_8__304, kt_0_9__305, Ot_0, Pl37_37, Lib.hid (nl37_37.out), Lib.hid Dlatest_7l0_t_0.out⟩
end Go.Proofs.Ythkaeighfjadlaa.GiLatestMinutes

/- loop.example/g01062/impl.canTake as a plain function, and the contract of the program's: where the plain one has an answer, the program has it. Conditions: slices read as lists. -/
namespace Go.Proofs.Ythkaeighfjadlaa.GiCanTake
set_option linter.unusedVariables false
set_option linter.unusedSimpArgs false
open Go.RowKit
open Go.Proofs.Ythkaeighfjadlaa.Rowed Go.Proofs.Ythkaeighfjadlaa.Turn Go.Proofs.Ythkaeighfjadlaa.Aid Go.Proofs.Ythkaeighfjadlaa.GoP Go.Proofs.Ythkaeighfjadlaa.GoM

def P (x : Go.Proofs.Ythkaeighfjadlaa.PMail.Mail) (office : Int) (minute : Int) : Option (Bool) :=
  unMail x fun (x_leave : Int) (x_from_ : Int) (x_to_ : Int) (x_arrive : Int) =>
  letK (x_from_ == office) fun (t_5 : Bool) =>
  joinK (fun (t_11 : Bool) =>
  some t_11) fun jt_11 => iteK t_5 (letK (decide (minute ≤ x_leave)) fun (t_10 : Bool) =>
  appK jt_11 t_10) (appK jt_11 false)

set_option maxRecDepth 100000 in
set_option maxHeartbeats 2000000 in
theorem C (x : Go.Proofs.Ythkaeighfjadlaa.PMail.Mail) (office : Int) (minute : Int)   (w : World)   {r : Bool} (H : Hid (P x office minute = some r)) :
    Calls Try.prog 72 #[x.val, .int .i64 office, .int .i64 minute] w (Gives (.bool r) w) := by
  have HB := Lib.hid (Below.refl w.heap.size w)
  unfold P at H
  obtain ⟨x_leave, x_from_, x_to_, x_arrive⟩ := x
  replace H := unMail_hid H
  unfold Go.Proofs.Ythkaeighfjadlaa.PMail.Mail.val
  go_enter Try.func72, Try.ntmps72
  obtain ⟨w_x_0, hw_x_0⟩ : ∃ x, w.alloc (.cells #[.int .i64 x_leave, .int .i64 x_from_, .int .i64 x_to_, .int .i64 x_arrive] 93) = x := ⟨_, rfl⟩
  have bw_x_0 : Below w.heap.size w w_x_0 := by rw [← hw_x_0]; exact (Below.refl _ _).alloc (Nat.le_refl _) _
  have HBw_x_0 := Lib.hid (Below.step HB.out bw_x_0)
  clear bw_x_0
  have kx_0_0 : w_x_0.cell? ⟨w.heap.size, 0, none⟩ = some (.int .i64 x_leave) := by rw [← hw_x_0]; exact box_new _ _ _ 0 _ rfl
  have kx_0_1 : w_x_0.cell? ⟨w.heap.size, 1, none⟩ = some (.int .i64 x_from_) := by rw [← hw_x_0]; exact box_new _ _ _ 1 _ rfl
  have kx_0_2 : w_x_0.cell? ⟨w.heap.size, 2, none⟩ = some (.int .i64 x_to_) := by rw [← hw_x_0]; exact box_new _ _ _ 2 _ rfl
  have kx_0_3 : w_x_0.cell? ⟨w.heap.size, 3, none⟩ = some (.int .i64 x_arrive) := by rw [← hw_x_0]; exact box_new _ _ _ 3 _ rfl
  replace H := let_hid H
  obtain ⟨t_5, ht_5, H⟩ := H
  replace H := join_hid H
  cases t_5 with
  | false =>
    replace H := ite_f H
    replace H := app_hid H
    obtain rfl := ret_hid H
    go_wp2_with fail
    go_ret
    exact ⟨rfl, HBw_x_0.out⟩
  | true =>
    replace H := ite_t H
    replace H := let_hid H
    obtain ⟨t_10, ht_10, H⟩ := H
    replace H := app_hid H
    obtain rfl := ret_hid H
    go_wp2_with fail
    go_ret
    exact ⟨rfl, HBw_x_0.out⟩
end Go.Proofs.Ythkaeighfjadlaa.GiCanTake

