/- Texts on which the proofs of several laws stand, one behind the other (16 of 21). No condition of their own. -/
import Derived.Test.YtlljmgphgmklcaaC10P1
import Derived.Test.YtlljmgphgmklcaaChecked
import Derived.Test.YtlljmgphgmklcaaC10P2
import Derived.Test.YtlljmgphgmklcaaC10P4
import Derived.Test.YtlljmgphgmklcaaC10P7
import Derived.Test.YtlljmgphgmklcaaC10P6
import Derived.Test.YtlljmgphgmklcaaC10P3
import Derived.WalkKit
import Derived.WalkSpells
import Derived.WalkLawsBesides
import Derived.BigQuiet
import Derived.OwnWalk
import Derived.Deep.LoopGhost
import Derived.Deep.QuietTactic
import Derived.IntWalk
import Derived.Lib.QuietBelow
import Derived.Test.YtlljmgphgmklcaaC10P8
/- Plain words on the arrays of 6 numbers: the cells, a list of them as cells one after the other. No condition. -/
namespace Go.Proofs.Ytlljmgphgmklcaa.PIntA6
set_option linter.unusedVariables false
set_option maxRecDepth 100000

structure IntA6 where
  x0 : Int
  x1 : Int
  x2 : Int
  x3 : Int
  x4 : Int
  x5 : Int
def IntA6.cells (s : IntA6) : List Value := [.int .i64 s.x0, .int .i64 s.x1, .int .i64 s.x2, .int .i64 s.x3, .int .i64 s.x4, .int .i64 s.x5]
def IntA6.val (s : IntA6) : Value := .agg #[.int .i64 s.x0, .int .i64 s.x1, .int .i64 s.x2, .int .i64 s.x3, .int .i64 s.x4, .int .i64 s.x5]
def IntA6.list (s : IntA6) : List Int := [s.x0, s.x1, s.x2, s.x3, s.x4, s.x5]
/-- the array with v at j -/
def IntA6.put (s : IntA6) (j v : Int) : IntA6 := if j = 0 then ⟨v, s.x1, s.x2, s.x3, s.x4, s.x5⟩ else if j = 1 then ⟨s.x0, v, s.x2, s.x3, s.x4, s.x5⟩ else if j = 2 then ⟨s.x0, s.x1, v, s.x3, s.x4, s.x5⟩ else if j = 3 then ⟨s.x0, s.x1, s.x2, v, s.x4, s.x5⟩ else if j = 4 then ⟨s.x0, s.x1, s.x2, s.x3, v, s.x5⟩ else ⟨s.x0, s.x1, s.x2, s.x3, s.x4, v⟩
theorem cells_put (s : IntA6) {n : Nat} (h : n < 6) (v : Int) : s.cells.set n (.int .i64 v) = (s.put (n : Int) v).cells := by
  rcases n with _ | _ | _ | _ | _ | _ | n
  · rfl
  · rfl
  · rfl
  · rfl
  · rfl
  · rfl
  · omega
theorem cell_at {w : World} {b q : Nat} {x0 x1 x2 x3 x4 x5 y : Int} {n : Nat} (h0 : w.cell? ⟨b, q, none⟩ = some (.int .i64 x0)) (h1 : w.cell? ⟨b, q + 1, none⟩ = some (.int .i64 x1)) (h2 : w.cell? ⟨b, q + 2, none⟩ = some (.int .i64 x2)) (h3 : w.cell? ⟨b, q + 3, none⟩ = some (.int .i64 x3)) (h4 : w.cell? ⟨b, q + 4, none⟩ = some (.int .i64 x4)) (h5 : w.cell? ⟨b, q + 5, none⟩ = some (.int .i64 x5)) (g : [x0, x1, x2, x3, x4, x5][n]? = some y) : w.cell? ⟨b, q + n, none⟩ = some (.int .i64 y) := by
  rcases n with _ | _ | _ | _ | _ | _ | n
  · obtain rfl := Option.some.inj g; exact h0
  · obtain rfl := Option.some.inj g; exact h1
  · obtain rfl := Option.some.inj g; exact h2
  · obtain rfl := Option.some.inj g; exact h3
  · obtain rfl := Option.some.inj g; exact h4
  · obtain rfl := Option.some.inj g; exact h5
  · simp at g
/-- the cells of a list of arrays, one after the other -/
def flat (l : List IntA6) : List Value := l.flatMap IntA6.cells
theorem flat_nil : flat [] = [] := rfl
theorem flat_cons (s : IntA6) (l : List IntA6) : flat (s :: l) = s.cells ++ flat l := by simp [flat]
theorem flat_snoc (l : List IntA6) (s : IntA6) : flat (l ++ [s]) = flat l ++ s.cells := by simp [flat]
theorem flat_len (l : List IntA6) : (flat l).length = l.length * 6 := by
  induction l with
  | nil => rfl
  | cons s l ih => rw [flat_cons, List.length_append, ih]; simp [IntA6.cells]; omega
theorem flat_at : ∀ (l : List IntA6) (k : Nat) (s : IntA6), l[k]? = some s → ∀ j, j < 6 → (flat l)[k * 6 + j]? = s.cells[j]?
  | [], k, s, h, _, _ => by simp at h
  | r :: l, 0, s, h, j, hj => by
    obtain rfl : r = s := by simpa using h
    rw [flat_cons, List.getElem?_append_left (by simp [IntA6.cells]; omega)]; simp
  | r :: l, k + 1, s, h, j, hj => by
    rw [flat_cons, List.getElem?_append_right (by simp [IntA6.cells]; omega), show (k + 1) * 6 + j - r.cells.length = k * 6 + j by simp [IntA6.cells]; omega]
    exact flat_at l k s (by simpa using h) j hj
end Go.Proofs.Ytlljmgphgmklcaa.PIntA6

/- A record IntA6 opened into its fields. No condition. -/
namespace Go.Proofs.Ytlljmgphgmklcaa.GoP
set_option linter.unusedVariables false
open Go.RowKit
def unIntA6 {ρ : Type} (s : Go.Proofs.Ytlljmgphgmklcaa.PIntA6.IntA6) (f : Int → Int → Int → Int → Int → Int → Option ρ) : Option ρ := f s.x0 s.x1 s.x2 s.x3 s.x4 s.x5
theorem unIntA6_hid {ρ : Type} {x0 : Int} {x1 : Int} {x2 : Int} {x3 : Int} {x4 : Int} {x5 : Int} {f : Int → Int → Int → Int → Int → Int → Option ρ} {r : ρ} (H : Hid (unIntA6 ⟨x0, x1, x2, x3, x4, x5⟩ f = some r)) : Hid (f x0 x1 x2 x3 x4 x5 = some r) := H
end Go.Proofs.Ytlljmgphgmklcaa.GoP

/- loop.example/g01062/spec.FaultCounts as a plain function, and the contract of the program's: where the plain one has an answer, the program has it. Conditions: slices read as lists. -/
namespace Go.Proofs.Ytlljmgphgmklcaa.GsFaultCounts
set_option linter.unusedVariables false
set_option linter.unusedSimpArgs false
open Go.RowKit
open Go.Proofs.Ytlljmgphgmklcaa.Rowed Go.Proofs.Ytlljmgphgmklcaa.Turn Go.Proofs.Ytlljmgphgmklcaa.Aid Go.Proofs.Ytlljmgphgmklcaa.GoP Go.Proofs.Ytlljmgphgmklcaa.GoM

def l0 (rates : (List Go.Proofs.Ytlljmgphgmklcaa.PRate.Rate)) (mails : (List Go.Proofs.Ytlljmgphgmklcaa.PMail.Mail)) (list : (List Go.Proofs.Ytlljmgphgmklcaa.PCover.Cover)) (k0 : Nat) (s : (List Int)) (nx0 bk0 : (List Int) → Option (Go.Proofs.Ytlljmgphgmklcaa.PIntA6.IntA6 × Bool)) : Option (Go.Proofs.Ytlljmgphgmklcaa.PIntA6.IntA6 × Bool) :=
  letK s fun out_8l0 =>
  Option.bind (idx list (k0 : Int)) fun (yt_30 : Go.Proofs.Ytlljmgphgmklcaa.PCover.Cover) =>
  unCover yt_30 fun (t_30_id : Int) (t_30_day : Int) (t_30_zone : Int) (t_30_grams : Int) (t_30_paid : Int) (t_30_from_ : Int) (t_30_to_ : Int) (t_30_leave : Int) (t_30_arrive : Int) =>
  Option.bind (Go.Proofs.Ytlljmgphgmklcaa.GsL10Fault.P rates mails (Go.Proofs.Ytlljmgphgmklcaa.PCover.Cover.mk t_30_id t_30_day t_30_zone t_30_grams t_30_paid t_30_from_ t_30_to_ t_30_leave t_30_arrive)) fun (t_32 : Int) =>
  Option.bind (idx out_8l0 t_32) fun (yt_36 : Int) =>
  letK (IntKind.i64.wrap (yt_36 + 1)) fun (t_38 : Int) =>
  Option.bind (idx out_8l0 t_32) fun (yt_39 : Int) =>
  letK (out_8l0.set (t_32).toNat t_38) fun (l40_40 : (List Int)) =>
  appK nx0 (l40_40)

def e0  (s : (List Int)) : Option (Go.Proofs.Ytlljmgphgmklcaa.PIntA6.IntA6 × Bool) :=
  letK s fun out_8l0 =>
  some ((Go.Proofs.Ytlljmgphgmklcaa.PIntA6.IntA6.mk (Go.Proofs.Ytlljmgphgmklcaa.GoA.nth out_8l0 0) (Go.Proofs.Ytlljmgphgmklcaa.GoA.nth out_8l0 1) (Go.Proofs.Ytlljmgphgmklcaa.GoA.nth out_8l0 2) (Go.Proofs.Ytlljmgphgmklcaa.GoA.nth out_8l0 3) (Go.Proofs.Ytlljmgphgmklcaa.GoA.nth out_8l0 4) (Go.Proofs.Ytlljmgphgmklcaa.GoA.nth out_8l0 5)), true)

def P (fuel : Nat) (rates : (List Go.Proofs.Ytlljmgphgmklcaa.PRate.Rate)) (mails : (List Go.Proofs.Ytlljmgphgmklcaa.PMail.Mail)) (list : (List Go.Proofs.Ytlljmgphgmklcaa.PCover.Cover)) : Option (Go.Proofs.Ytlljmgphgmklcaa.PIntA6.IntA6 × Bool) :=
  letK ([0, 0, 0, 0, 0, 0]) fun (vout_3 : (List Int)) =>
  Option.bind (Go.Proofs.Ytlljmgphgmklcaa.GsL8Good.P fuel rates) fun (t_6 : Bool) =>
  letK (!t_6) fun (t_7 : Bool) =>
  joinK (fun (t_12 : Bool) =>
  joinK (fun (t_17 : Bool) =>
  iteK t_17
  (some ((Go.Proofs.Ytlljmgphgmklcaa.PIntA6.IntA6.mk (Go.Proofs.Ytlljmgphgmklcaa.GoA.nth vout_3 0) (Go.Proofs.Ytlljmgphgmklcaa.GoA.nth vout_3 1) (Go.Proofs.Ytlljmgphgmklcaa.GoA.nth vout_3 2) (Go.Proofs.Ytlljmgphgmklcaa.GoA.nth vout_3 3) (Go.Proofs.Ytlljmgphgmklcaa.GoA.nth vout_3 4) (Go.Proofs.Ytlljmgphgmklcaa.GoA.nth vout_3 5)), false))
  (cntK (l0 rates mails list) (list.length) 0 (vout_3) (e0 ))) fun jt_17 => iteK t_12 (appK jt_17 true) (Option.bind (Go.Proofs.Ytlljmgphgmklcaa.GsL10Good.P list) fun (t_15 : Bool) =>
  letK (!t_15) fun (t_16 : Bool) =>
  appK jt_17 t_16)) fun jt_12 => iteK t_7 (appK jt_12 true) (Option.bind (Go.Proofs.Ytlljmgphgmklcaa.GsL9Good.P mails) fun (t_10 : Bool) =>
  letK (!t_10) fun (t_11 : Bool) =>
  appK jt_12 t_11)

set_option maxRecDepth 100000 in
set_option maxHeartbeats 2000000 in
theorem C (fuel : Nat) (rates : (List Go.Proofs.Ytlljmgphgmklcaa.PRate.Rate)) (mails : (List Go.Proofs.Ytlljmgphgmklcaa.PMail.Mail)) (list : (List Go.Proofs.Ytlljmgphgmklcaa.PCover.Cover)) (A0 : Option Addr) (c0 : Nat) (A1 : Option Addr) (c1 : Nat) (A2 : Option Addr) (c2 : Nat)  (w : World) (M0 : Hid (Cells w 5 A0 rates.length (Go.Proofs.Ytlljmgphgmklcaa.PRate.flat rates))) (N0 : Hid (rates.length ≤ 9223372036854775807)) (M1 : Hid (Cells w 4 A1 mails.length (Go.Proofs.Ytlljmgphgmklcaa.PMail.flat mails))) (N1 : Hid (mails.length ≤ 9223372036854775807)) (M2 : Hid (Cells w 9 A2 list.length (Go.Proofs.Ytlljmgphgmklcaa.PCover.flat list))) (N2 : Hid (list.length ≤ 9223372036854775807))  {r0 : Go.Proofs.Ytlljmgphgmklcaa.PIntA6.IntA6} {r1 : Bool} (H : Hid (P fuel rates mails list = some (r0, r1))) :
    Calls Try.prog 40 #[.slice A0 rates.length c0, .slice A1 mails.length c1, .slice A2 list.length c2] w (Gives (.tuple #[(Go.Proofs.Ytlljmgphgmklcaa.PIntA6.IntA6.val r0), .bool r1]) w) := by
  have HB := Lib.hid (Below.refl w.heap.size w)
  unfold P at H
  have N0o := N0.out
  have N1o := N1.out
  have N2o := N2.out
  go_enter Try.func40, Try.ntmps40
  obtain ⟨w_t_0, hw_t_0⟩ : ∃ x, w.alloc (.cells #[.int .i64 0, .int .i64 0, .int .i64 0, .int .i64 0, .int .i64 0, .int .i64 0] 57) = x := ⟨_, rfl⟩
  have bw_t_0 : Below w.heap.size w w_t_0 := by rw [← hw_t_0]; exact (Below.refl _ _).alloc (Nat.le_refl _) _
  have HBw_t_0 := Lib.hid (Below.step HB.out bw_t_0)
  clear bw_t_0
  have kt_0_0 : w_t_0.cell? ⟨w.heap.size, 0, none⟩ = some (.int .i64 0) := by rw [← hw_t_0]; exact box_new _ _ _ 0 _ rfl
  have kt_0_1 : w_t_0.cell? ⟨w.heap.size, 1, none⟩ = some (.int .i64 0) := by rw [← hw_t_0]; exact box_new _ _ _ 1 _ rfl
  have kt_0_2 : w_t_0.cell? ⟨w.heap.size, 2, none⟩ = some (.int .i64 0) := by rw [← hw_t_0]; exact box_new _ _ _ 2 _ rfl
  have kt_0_3 : w_t_0.cell? ⟨w.heap.size, 3, none⟩ = some (.int .i64 0) := by rw [← hw_t_0]; exact box_new _ _ _ 3 _ rfl
  have kt_0_4 : w_t_0.cell? ⟨w.heap.size, 4, none⟩ = some (.int .i64 0) := by rw [← hw_t_0]; exact box_new _ _ _ 4 _ rfl
  have kt_0_5 : w_t_0.cell? ⟨w.heap.size, 5, none⟩ = some (.int .i64 0) := by rw [← hw_t_0]; exact box_new _ _ _ 5 _ rfl
  have Ot_0 : Hid (w_t_0.ownsRow w.heap.size 57 6 (.slice (some ⟨w.heap.size, 0, none⟩) 1 1) 1 [.int .i64 0, .int .i64 0, .int .i64 0, .int .i64 0, .int .i64 0, .int .i64 0]) := Lib.hid (by rw [← hw_t_0]; exact own_laid (n := 1) HB.out.size rfl rfl (by unfold maxLen; omega))
  go_wp2_with fail
  replace H := let_hid H
  obtain ⟨vout_3, hvout_3, H⟩ := H
  obtain ⟨w_out_3, hw_out_3⟩ : ∃ x, w_t_0.alloc (.cells #[.int .i64 0, .int .i64 0, .int .i64 0, .int .i64 0, .int .i64 0, .int .i64 0] 57) = x := ⟨_, rfl⟩
  have bw_out_3 : Below w_t_0.heap.size w_t_0 w_out_3 := by rw [← hw_out_3]; exact (Below.refl _ _).alloc (Nat.le_refl _) _
  have hs_out_3 := HBw_t_0.out.size
  have nout_3 : vout_3.length = 6 := by rw [← hvout_3]; rfl
  have Oout_3 : Hid (w_out_3.ownsRow w.heap.size 57 1 (.slice (some ⟨w_t_0.heap.size, 0, none⟩) 6 6) 6 (Go.Proofs.Ytlljmgphgmklcaa.HelpInt.iv vout_3)) := by
    rw [← hw_out_3, ← hvout_3]
    have e_ : ([.int .i64 0, .int .i64 0, .int .i64 0, .int .i64 0, .int .i64 0, .int .i64 0] : List Value) = Go.Proofs.Ytlljmgphgmklcaa.HelpInt.iv [0, 0, 0, 0, 0, 0] := rfl
    exact Lib.hid (own_laid (n := 6) hs_out_3 e_ rfl (by unfold maxLen; omega))
  clear hs_out_3
  have hhout_3 := Lib.hid hvout_3
  clear hvout_3
  replace nout_3 := Lib.hid nout_3
  have Dout_3_t_0 := Lib.hid (apart_box kt_0_0)
  have HBw_out_3 := Lib.hid (Below.step HBw_t_0.out bw_out_3)
  have kt_0_0__512 := cell_below bw_out_3 kt_0_0
  have kt_0_1__513 := cell_below bw_out_3 kt_0_1
  have kt_0_2__514 := cell_below bw_out_3 kt_0_2
  have kt_0_3__515 := cell_below bw_out_3 kt_0_3
  have kt_0_4__516 := cell_below bw_out_3 kt_0_4
  have kt_0_5__517 := cell_below bw_out_3 kt_0_5
  replace Ot_0 := Lib.hid (own_below Ot_0.out bw_out_3)
  clear bw_out_3
  try simp only [hw_out_3]
  replace H := bind_hid H
  obtain ⟨t_6, qt_6, H⟩ := H
  go_wp2_with fail
  clear kt_0_0 kt_0_1 kt_0_2 kt_0_3 kt_0_4 kt_0_5
  go_at_call 89
  refine (Go.Proofs.Ytlljmgphgmklcaa.GsL8Good.C fuel (rates) A0 c0 _   (Lib.hid (Cells.below M0.out HBw_out_3.out)) N0 qt_6).mono ?_
  rintro e_t_6 wt_6 ⟨rfl, bt_6⟩
  have HBwt_6 := Lib.hid (Below.step HBw_out_3.out bt_6)
  replace kt_0_0__512 := cell_below bt_6 kt_0_0__512
  replace kt_0_1__513 := cell_below bt_6 kt_0_1__513
  replace kt_0_2__514 := cell_below bt_6 kt_0_2__514
  replace kt_0_3__515 := cell_below bt_6 kt_0_3__515
  replace kt_0_4__516 := cell_below bt_6 kt_0_4__516
  replace kt_0_5__517 := cell_below bt_6 kt_0_5__517
  replace Oout_3 := Lib.hid (own_below Oout_3.out bt_6)
  replace Ot_0 := Lib.hid (own_below Ot_0.out bt_6)
  clear bt_6
  cases t_6 with
  | false =>
    replace H := let_hid H
    obtain ⟨t_7, ht_7, H⟩ := H
    obtain rfl : t_7 = true := ht_7.symm
    replace H := join_hid H
    replace H := ite_t H
    replace H := app_hid H
    replace H := join_hid H
    replace H := ite_t H
    replace H := app_hid H
    replace H := ite_t H
    have ka_518 : wt_6.cell? ⟨w_t_0.heap.size, 0, none⟩ = some (.int .i64 (Go.Proofs.Ytlljmgphgmklcaa.GoA.nth vout_3 0)) := Go.Proofs.Ytlljmgphgmklcaa.GoA.row_at Oout_3.out nout_3.out 0 (by omega)
    have ka_519 : wt_6.cell? ⟨w_t_0.heap.size, 1, none⟩ = some (.int .i64 (Go.Proofs.Ytlljmgphgmklcaa.GoA.nth vout_3 1)) := Go.Proofs.Ytlljmgphgmklcaa.GoA.row_at Oout_3.out nout_3.out 1 (by omega)
    have ka_520 : wt_6.cell? ⟨w_t_0.heap.size, 2, none⟩ = some (.int .i64 (Go.Proofs.Ytlljmgphgmklcaa.GoA.nth vout_3 2)) := Go.Proofs.Ytlljmgphgmklcaa.GoA.row_at Oout_3.out nout_3.out 2 (by omega)
    have ka_521 : wt_6.cell? ⟨w_t_0.heap.size, 3, none⟩ = some (.int .i64 (Go.Proofs.Ytlljmgphgmklcaa.GoA.nth vout_3 3)) := Go.Proofs.Ytlljmgphgmklcaa.GoA.row_at Oout_3.out nout_3.out 3 (by omega)
    have ka_522 : wt_6.cell? ⟨w_t_0.heap.size, 4, none⟩ = some (.int .i64 (Go.Proofs.Ytlljmgphgmklcaa.GoA.nth vout_3 4)) := Go.Proofs.Ytlljmgphgmklcaa.GoA.row_at Oout_3.out nout_3.out 4 (by omega)
    have ka_523 : wt_6.cell? ⟨w_t_0.heap.size, 5, none⟩ = some (.int .i64 (Go.Proofs.Ytlljmgphgmklcaa.GoA.nth vout_3 5)) := Go.Proofs.Ytlljmgphgmklcaa.GoA.row_at Oout_3.out nout_3.out 5 (by omega)
    obtain ⟨wb19_19, hwb19_19⟩ : ∃ x, ((((((wt_6).setCell ⟨w.heap.size, 0, none⟩ (.int .i64 (Go.Proofs.Ytlljmgphgmklcaa.GoA.nth vout_3 0))).setCell ⟨w.heap.size, 1, none⟩ (.int .i64 (Go.Proofs.Ytlljmgphgmklcaa.GoA.nth vout_3 1))).setCell ⟨w.heap.size, 2, none⟩ (.int .i64 (Go.Proofs.Ytlljmgphgmklcaa.GoA.nth vout_3 2))).setCell ⟨w.heap.size, 3, none⟩ (.int .i64 (Go.Proofs.Ytlljmgphgmklcaa.GoA.nth vout_3 3))).setCell ⟨w.heap.size, 4, none⟩ (.int .i64 (Go.Proofs.Ytlljmgphgmklcaa.GoA.nth vout_3 4))).setCell ⟨w.heap.size, 5, none⟩ (.int .i64 (Go.Proofs.Ytlljmgphgmklcaa.GoA.nth vout_3 5)) = x := ⟨_, rfl⟩
    have z0b19_19 := Ot_0.out.frozenAt 0
    have z1b19_19 := Ot_0.out.frozenAt 1
    have z2b19_19 := Ot_0.out.frozenAt 2
    have z3b19_19 := Ot_0.out.frozenAt 3
    have z4b19_19 := Ot_0.out.frozenAt 4
    have z5b19_19 := Ot_0.out.frozenAt 5
    have Sb19_19 := Lib.hid (own_stores [(0, .int .i64 (Go.Proofs.Ytlljmgphgmklcaa.GoA.nth vout_3 0)), (1, .int .i64 (Go.Proofs.Ytlljmgphgmklcaa.GoA.nth vout_3 1)), (2, .int .i64 (Go.Proofs.Ytlljmgphgmklcaa.GoA.nth vout_3 2)), (3, .int .i64 (Go.Proofs.Ytlljmgphgmklcaa.GoA.nth vout_3 3)), (4, .int .i64 (Go.Proofs.Ytlljmgphgmklcaa.GoA.nth vout_3 4)), (5, .int .i64 (Go.Proofs.Ytlljmgphgmklcaa.GoA.nth vout_3 5))] Ot_0.out)
    have Pb19_19 : Hid (wb19_19.ownsRow w.heap.size 57 6 (.slice (some ⟨w.heap.size, 0, none⟩) 1 1) 1 [.int .i64 (Go.Proofs.Ytlljmgphgmklcaa.GoA.nth vout_3 0), .int .i64 (Go.Proofs.Ytlljmgphgmklcaa.GoA.nth vout_3 1), .int .i64 (Go.Proofs.Ytlljmgphgmklcaa.GoA.nth vout_3 2), .int .i64 (Go.Proofs.Ytlljmgphgmklcaa.GoA.nth vout_3 3), .int .i64 (Go.Proofs.Ytlljmgphgmklcaa.GoA.nth vout_3 4), .int .i64 (Go.Proofs.Ytlljmgphgmklcaa.GoA.nth vout_3 5)]) := Lib.hid (by rw [← hwb19_19]; exact Sb19_19.out.1)
    have Gb19_19 : Hid (wt_6.grownBy wb19_19 (Value.slice (some ⟨w.heap.size, 0, none⟩) 1 1).ownBlock) := Lib.hid (by rw [← hwb19_19]; exact Sb19_19.out.2)
    have HBwb19_19 := Lib.hid (HBwt_6.out.grown Gb19_19.out HBwt_6.out.size (fun q hq => (Ot_0.out.lt q hq).1))
    clear Sb19_19
    replace Oout_3 := Lib.hid (own_other Oout_3.out Gb19_19.out (Apart.symm Dout_3_t_0.out))
    clear Ot_0 Gb19_19
    have kt_0_0__524 : wb19_19.cell? ⟨w.heap.size, 0, none⟩ = some (.int .i64 (Go.Proofs.Ytlljmgphgmklcaa.GoA.nth vout_3 0)) := Pb19_19.out.cells rfl 0 _ rfl
    have kt_0_1__525 : wb19_19.cell? ⟨w.heap.size, 1, none⟩ = some (.int .i64 (Go.Proofs.Ytlljmgphgmklcaa.GoA.nth vout_3 1)) := Pb19_19.out.cells rfl 1 _ rfl
    have kt_0_2__526 : wb19_19.cell? ⟨w.heap.size, 2, none⟩ = some (.int .i64 (Go.Proofs.Ytlljmgphgmklcaa.GoA.nth vout_3 2)) := Pb19_19.out.cells rfl 2 _ rfl
    have kt_0_3__527 : wb19_19.cell? ⟨w.heap.size, 3, none⟩ = some (.int .i64 (Go.Proofs.Ytlljmgphgmklcaa.GoA.nth vout_3 3)) := Pb19_19.out.cells rfl 3 _ rfl
    have kt_0_4__528 : wb19_19.cell? ⟨w.heap.size, 4, none⟩ = some (.int .i64 (Go.Proofs.Ytlljmgphgmklcaa.GoA.nth vout_3 4)) := Pb19_19.out.cells rfl 4 _ rfl
    have kt_0_5__529 : wb19_19.cell? ⟨w.heap.size, 5, none⟩ = some (.int .i64 (Go.Proofs.Ytlljmgphgmklcaa.GoA.nth vout_3 5)) := Pb19_19.out.cells rfl 5 _ rfl
    cases ret_hid H
    go_wp2_with fail
    (try simp only [Exit.inBlock, Exit.then])
    refine bodyPost_ret (v := .tuple #[.agg #[.int .i64 (Go.Proofs.Ytlljmgphgmklcaa.GoA.nth vout_3 0), .int .i64 (Go.Proofs.Ytlljmgphgmklcaa.GoA.nth vout_3 1), .int .i64 (Go.Proofs.Ytlljmgphgmklcaa.GoA.nth vout_3 2), .int .i64 (Go.Proofs.Ytlljmgphgmklcaa.GoA.nth vout_3 3), .int .i64 (Go.Proofs.Ytlljmgphgmklcaa.GoA.nth vout_3 4), .int .i64 (Go.Proofs.Ytlljmgphgmklcaa.GoA.nth vout_3 5)], .bool false]) ?hr_ ?hd_ ?_
    case hd_ => rfl
    case hr_ => simp [results, Try.results40, kt_0_0__524, kt_0_1__525, kt_0_2__526, kt_0_3__527, kt_0_4__528, kt_0_5__529, go_sem]
    exact ⟨rfl, HBwb19_19.out⟩
  | true =>
    replace H := let_hid H
    obtain ⟨t_7, ht_7, H⟩ := H
    obtain rfl : t_7 = false := ht_7.symm
    replace H := join_hid H
    replace H := ite_f H
    replace H := bind_hid H
    obtain ⟨t_10, qt_10, H⟩ := H
    go_wp2_with fail
    go_at_call 90
    refine (Go.Proofs.Ytlljmgphgmklcaa.GsL9Good.C (mails) A1 c1 _   (Lib.hid (Cells.below M1.out HBwt_6.out)) N1 qt_10).mono ?_
    rintro e_t_10 wt_10 ⟨rfl, bt_10⟩
    have HBwt_10 := Lib.hid (Below.step HBwt_6.out bt_10)
    replace kt_0_0__512 := cell_below bt_10 kt_0_0__512
    replace kt_0_1__513 := cell_below bt_10 kt_0_1__513
    replace kt_0_2__514 := cell_below bt_10 kt_0_2__514
    replace kt_0_3__515 := cell_below bt_10 kt_0_3__515
    replace kt_0_4__516 := cell_below bt_10 kt_0_4__516
    replace kt_0_5__517 := cell_below bt_10 kt_0_5__517
    replace Oout_3 := Lib.hid (own_below Oout_3.out bt_10)
    replace Ot_0 := Lib.hid (own_below Ot_0.out bt_10)
    clear bt_10
    cases t_10 with
    | false =>
      replace H := let_hid H
      obtain ⟨t_11, ht_11, H⟩ := H
      obtain rfl : t_11 = true := ht_11.symm
      replace H := app_hid H
      replace H := join_hid H
      replace H := ite_t H
      replace H := app_hid H
      replace H := ite_t H
      have ka_530 : wt_10.cell? ⟨w_t_0.heap.size, 0, none⟩ = some (.int .i64 (Go.Proofs.Ytlljmgphgmklcaa.GoA.nth vout_3 0)) := Go.Proofs.Ytlljmgphgmklcaa.GoA.row_at Oout_3.out nout_3.out 0 (by omega)
      have ka_531 : wt_10.cell? ⟨w_t_0.heap.size, 1, none⟩ = some (.int .i64 (Go.Proofs.Ytlljmgphgmklcaa.GoA.nth vout_3 1)) := Go.Proofs.Ytlljmgphgmklcaa.GoA.row_at Oout_3.out nout_3.out 1 (by omega)
      have ka_532 : wt_10.cell? ⟨w_t_0.heap.size, 2, none⟩ = some (.int .i64 (Go.Proofs.Ytlljmgphgmklcaa.GoA.nth vout_3 2)) := Go.Proofs.Ytlljmgphgmklcaa.GoA.row_at Oout_3.out nout_3.out 2 (by omega)
      have ka_533 : wt_10.cell? ⟨w_t_0.heap.size, 3, none⟩ = some (.int .i64 (Go.Proofs.Ytlljmgphgmklcaa.GoA.nth vout_3 3)) := Go.Proofs.Ytlljmgphgmklcaa.GoA.row_at Oout_3.out nout_3.out 3 (by omega)
      have ka_534 : wt_10.cell? ⟨w_t_0.heap.size, 4, none⟩ = some (.int .i64 (Go.Proofs.Ytlljmgphgmklcaa.GoA.nth vout_3 4)) := Go.Proofs.Ytlljmgphgmklcaa.GoA.row_at Oout_3.out nout_3.out 4 (by omega)
      have ka_535 : wt_10.cell? ⟨w_t_0.heap.size, 5, none⟩ = some (.int .i64 (Go.Proofs.Ytlljmgphgmklcaa.GoA.nth vout_3 5)) := Go.Proofs.Ytlljmgphgmklcaa.GoA.row_at Oout_3.out nout_3.out 5 (by omega)
      obtain ⟨wb19_19, hwb19_19⟩ : ∃ x, ((((((wt_10).setCell ⟨w.heap.size, 0, none⟩ (.int .i64 (Go.Proofs.Ytlljmgphgmklcaa.GoA.nth vout_3 0))).setCell ⟨w.heap.size, 1, none⟩ (.int .i64 (Go.Proofs.Ytlljmgphgmklcaa.GoA.nth vout_3 1))).setCell ⟨w.heap.size, 2, none⟩ (.int .i64 (Go.Proofs.Ytlljmgphgmklcaa.GoA.nth vout_3 2))).setCell ⟨w.heap.size, 3, none⟩ (.int .i64 (Go.Proofs.Ytlljmgphgmklcaa.GoA.nth vout_3 3))).setCell ⟨w.heap.size, 4, none⟩ (.int .i64 (Go.Proofs.Ytlljmgphgmklcaa.GoA.nth vout_3 4))).setCell ⟨w.heap.size, 5, none⟩ (.int .i64 (Go.Proofs.Ytlljmgphgmklcaa.GoA.nth vout_3 5)) = x := ⟨_, rfl⟩
      have z0b19_19 := Ot_0.out.frozenAt 0
      have z1b19_19 := Ot_0.out.frozenAt 1
      have z2b19_19 := Ot_0.out.frozenAt 2
      have z3b19_19 := Ot_0.out.frozenAt 3
      have z4b19_19 := Ot_0.out.frozenAt 4
      have z5b19_19 := Ot_0.out.frozenAt 5
      have Sb19_19 := Lib.hid (own_stores [(0, .int .i64 (Go.Proofs.Ytlljmgphgmklcaa.GoA.nth vout_3 0)), (1, .int .i64 (Go.Proofs.Ytlljmgphgmklcaa.GoA.nth vout_3 1)), (2, .int .i64 (Go.Proofs.Ytlljmgphgmklcaa.GoA.nth vout_3 2)), (3, .int .i64 (Go.Proofs.Ytlljmgphgmklcaa.GoA.nth vout_3 3)), (4, .int .i64 (Go.Proofs.Ytlljmgphgmklcaa.GoA.nth vout_3 4)), (5, .int .i64 (Go.Proofs.Ytlljmgphgmklcaa.GoA.nth vout_3 5))] Ot_0.out)
      have Pb19_19 : Hid (wb19_19.ownsRow w.heap.size 57 6 (.slice (some ⟨w.heap.size, 0, none⟩) 1 1) 1 [.int .i64 (Go.Proofs.Ytlljmgphgmklcaa.GoA.nth vout_3 0), .int .i64 (Go.Proofs.Ytlljmgphgmklcaa.GoA.nth vout_3 1), .int .i64 (Go.Proofs.Ytlljmgphgmklcaa.GoA.nth vout_3 2), .int .i64 (Go.Proofs.Ytlljmgphgmklcaa.GoA.nth vout_3 3), .int .i64 (Go.Proofs.Ytlljmgphgmklcaa.GoA.nth vout_3 4), .int .i64 (Go.Proofs.Ytlljmgphgmklcaa.GoA.nth vout_3 5)]) := Lib.hid (by rw [← hwb19_19]; exact Sb19_19.out.1)
      have Gb19_19 : Hid (wt_10.grownBy wb19_19 (Value.slice (some ⟨w.heap.size, 0, none⟩) 1 1).ownBlock) := Lib.hid (by rw [← hwb19_19]; exact Sb19_19.out.2)
      have HBwb19_19 := Lib.hid (HBwt_10.out.grown Gb19_19.out HBwt_10.out.size (fun q hq => (Ot_0.out.lt q hq).1))
      clear Sb19_19
      replace Oout_3 := Lib.hid (own_other Oout_3.out Gb19_19.out (Apart.symm Dout_3_t_0.out))
      clear Ot_0 Gb19_19
      have kt_0_0__536 : wb19_19.cell? ⟨w.heap.size, 0, none⟩ = some (.int .i64 (Go.Proofs.Ytlljmgphgmklcaa.GoA.nth vout_3 0)) := Pb19_19.out.cells rfl 0 _ rfl
      have kt_0_1__537 : wb19_19.cell? ⟨w.heap.size, 1, none⟩ = some (.int .i64 (Go.Proofs.Ytlljmgphgmklcaa.GoA.nth vout_3 1)) := Pb19_19.out.cells rfl 1 _ rfl
      have kt_0_2__538 : wb19_19.cell? ⟨w.heap.size, 2, none⟩ = some (.int .i64 (Go.Proofs.Ytlljmgphgmklcaa.GoA.nth vout_3 2)) := Pb19_19.out.cells rfl 2 _ rfl
      have kt_0_3__539 : wb19_19.cell? ⟨w.heap.size, 3, none⟩ = some (.int .i64 (Go.Proofs.Ytlljmgphgmklcaa.GoA.nth vout_3 3)) := Pb19_19.out.cells rfl 3 _ rfl
      have kt_0_4__540 : wb19_19.cell? ⟨w.heap.size, 4, none⟩ = some (.int .i64 (Go.Proofs.Ytlljmgphgmklcaa.GoA.nth vout_3 4)) := Pb19_19.out.cells rfl 4 _ rfl
      have kt_0_5__541 : wb19_19.cell? ⟨w.heap.size, 5, none⟩ = some (.int .i64 (Go.Proofs.Ytlljmgphgmklcaa.GoA.nth vout_3 5)) := Pb19_19.out.cells rfl 5 _ rfl
      cases ret_hid H
      go_wp2_with fail
      (try simp only [Exit.inBlock, Exit.then])
      refine bodyPost_ret (v := .tuple #[.agg #[.int .i64 (Go.Proofs.Ytlljmgphgmklcaa.GoA.nth vout_3 0), .int .i64 (Go.Proofs.Ytlljmgphgmklcaa.GoA.nth vout_3 1), .int .i64 (Go.Proofs.Ytlljmgphgmklcaa.GoA.nth vout_3 2), .int .i64 (Go.Proofs.Ytlljmgphgmklcaa.GoA.nth vout_3 3), .int .i64 (Go.Proofs.Ytlljmgphgmklcaa.GoA.nth vout_3 4), .int .i64 (Go.Proofs.Ytlljmgphgmklcaa.GoA.nth vout_3 5)], .bool false]) ?hr_ ?hd_ ?_
      case hd_ => rfl
      case hr_ => simp [results, Try.results40, kt_0_0__536, kt_0_1__537, kt_0_2__538, kt_0_3__539, kt_0_4__540, kt_0_5__541, go_sem]
      exact ⟨rfl, HBwb19_19.out⟩
    | true =>
      replace H := let_hid H
      obtain ⟨t_11, ht_11, H⟩ := H
      obtain rfl : t_11 = false := ht_11.symm
      replace H := app_hid H
      replace H := join_hid H
      replace H := ite_f H
      replace H := bind_hid H
      obtain ⟨t_15, qt_15, H⟩ := H
      go_wp2_with fail
      go_at_call 85
      refine (Go.Proofs.Ytlljmgphgmklcaa.GsL10Good.C (list) A2 c2 _   (Lib.hid (Cells.below M2.out HBwt_10.out)) N2 qt_15).mono ?_
      rintro e_t_15 wt_15 ⟨rfl, bt_15⟩
      have HBwt_15 := Lib.hid (Below.step HBwt_10.out bt_15)
      replace kt_0_0__512 := cell_below bt_15 kt_0_0__512
      replace kt_0_1__513 := cell_below bt_15 kt_0_1__513
      replace kt_0_2__514 := cell_below bt_15 kt_0_2__514
      replace kt_0_3__515 := cell_below bt_15 kt_0_3__515
      replace kt_0_4__516 := cell_below bt_15 kt_0_4__516
      replace kt_0_5__517 := cell_below bt_15 kt_0_5__517
      replace Oout_3 := Lib.hid (own_below Oout_3.out bt_15)
      replace Ot_0 := Lib.hid (own_below Ot_0.out bt_15)
      clear bt_15
      cases t_15 with
      | false =>
        replace H := let_hid H
        obtain ⟨t_16, ht_16, H⟩ := H
        obtain rfl : t_16 = true := ht_16.symm
        replace H := app_hid H
        replace H := ite_t H
        have ka_542 : wt_15.cell? ⟨w_t_0.heap.size, 0, none⟩ = some (.int .i64 (Go.Proofs.Ytlljmgphgmklcaa.GoA.nth vout_3 0)) := Go.Proofs.Ytlljmgphgmklcaa.GoA.row_at Oout_3.out nout_3.out 0 (by omega)
        have ka_543 : wt_15.cell? ⟨w_t_0.heap.size, 1, none⟩ = some (.int .i64 (Go.Proofs.Ytlljmgphgmklcaa.GoA.nth vout_3 1)) := Go.Proofs.Ytlljmgphgmklcaa.GoA.row_at Oout_3.out nout_3.out 1 (by omega)
        have ka_544 : wt_15.cell? ⟨w_t_0.heap.size, 2, none⟩ = some (.int .i64 (Go.Proofs.Ytlljmgphgmklcaa.GoA.nth vout_3 2)) := Go.Proofs.Ytlljmgphgmklcaa.GoA.row_at Oout_3.out nout_3.out 2 (by omega)
        have ka_545 : wt_15.cell? ⟨w_t_0.heap.size, 3, none⟩ = some (.int .i64 (Go.Proofs.Ytlljmgphgmklcaa.GoA.nth vout_3 3)) := Go.Proofs.Ytlljmgphgmklcaa.GoA.row_at Oout_3.out nout_3.out 3 (by omega)
        have ka_546 : wt_15.cell? ⟨w_t_0.heap.size, 4, none⟩ = some (.int .i64 (Go.Proofs.Ytlljmgphgmklcaa.GoA.nth vout_3 4)) := Go.Proofs.Ytlljmgphgmklcaa.GoA.row_at Oout_3.out nout_3.out 4 (by omega)
        have ka_547 : wt_15.cell? ⟨w_t_0.heap.size, 5, none⟩ = some (.int .i64 (Go.Proofs.Ytlljmgphgmklcaa.GoA.nth vout_3 5)) := Go.Proofs.Ytlljmgphgmklcaa.GoA.row_at Oout_3.out nout_3.out 5 (by omega)
        obtain ⟨wb19_19, hwb19_19⟩ : ∃ x, ((((((wt_15).setCell ⟨w.heap.size, 0, none⟩ (.int .i64 (Go.Proofs.Ytlljmgphgmklcaa.GoA.nth vout_3 0))).setCell ⟨w.heap.size, 1, none⟩ (.int .i64 (Go.Proofs.Ytlljmgphgmklcaa.GoA.nth vout_3 1))).setCell ⟨w.heap.size, 2, none⟩ (.int .i64 (Go.Proofs.Ytlljmgphgmklcaa.GoA.nth vout_3 2))).setCell ⟨w.heap.size, 3, none⟩ (.int .i64 (Go.Proofs.Ytlljmgphgmklcaa.GoA.nth vout_3 3))).setCell ⟨w.heap.size, 4, none⟩ (.int .i64 (Go.Proofs.Ytlljmgphgmklcaa.GoA.nth vout_3 4))).setCell ⟨w.heap.size, 5, none⟩ (.int .i64 (Go.Proofs.Ytlljmgphgmklcaa.GoA.nth vout_3 5)) = x := ⟨_, rfl⟩
        have z0b19_19 := Ot_0.out.frozenAt 0
        have z1b19_19 := Ot_0.out.frozenAt 1
        have z2b19_19 := Ot_0.out.frozenAt 2
        have z3b19_19 := Ot_0.out.frozenAt 3
        have z4b19_19 := Ot_0.out.frozenAt 4
        have z5b19_19 := Ot_0.out.frozenAt 5
        have Sb19_19 := Lib.hid (own_stores [(0, .int .i64 (Go.Proofs.Ytlljmgphgmklcaa.GoA.nth vout_3 0)), (1, .int .i64 (Go.Proofs.Ytlljmgphgmklcaa.GoA.nth vout_3 1)), (2, .int .i64 (Go.Proofs.Ytlljmgphgmklcaa.GoA.nth vout_3 2)), (3, .int .i64 (Go.Proofs.Ytlljmgphgmklcaa.GoA.nth vout_3 3)), (4, .int .i64 (Go.Proofs.Ytlljmgphgmklcaa.GoA.nth vout_3 4)), (5, .int .i64 (Go.Proofs.Ytlljmgphgmklcaa.GoA.nth vout_3 5))] Ot_0.out)
        have Pb19_19 : Hid (wb19_19.ownsRow w.heap.size 57 6 (.slice (some ⟨w.heap.size, 0, none⟩) 1 1) 1 [.int .i64 (Go.Proofs.Ytlljmgphgmklcaa.GoA.nth vout_3 0), .int .i64 (Go.Proofs.Ytlljmgphgmklcaa.GoA.nth vout_3 1), .int .i64 (Go.Proofs.Ytlljmgphgmklcaa.GoA.nth vout_3 2), .int .i64 (Go.Proofs.Ytlljmgphgmklcaa.GoA.nth vout_3 3), .int .i64 (Go.Proofs.Ytlljmgphgmklcaa.GoA.nth vout_3 4), .int .i64 (Go.Proofs.Ytlljmgphgmklcaa.GoA.nth vout_3 5)]) := Lib.hid (by rw [← hwb19_19]; exact Sb19_19.out.1)
        have Gb19_19 : Hid (wt_15.grownBy wb19_19 (Value.slice (some ⟨w.heap.size, 0, none⟩) 1 1).ownBlock) := Lib.hid (by rw [← hwb19_19]; exact Sb19_19.out.2)
        have HBwb19_19 := Lib.hid (HBwt_15.out.grown Gb19_19.out HBwt_15.out.size (fun q hq => (Ot_0.out.lt q hq).1))
        clear Sb19_19
        replace Oout_3 := Lib.hid (own_other Oout_3.out Gb19_19.out (Apart.symm Dout_3_t_0.out))
        clear Ot_0 Gb19_19
        have kt_0_0__548 : wb19_19.cell? ⟨w.heap.size, 0, none⟩ = some (.int .i64 (Go.Proofs.Ytlljmgphgmklcaa.GoA.nth vout_3 0)) := Pb19_19.out.cells rfl 0 _ rfl
        have kt_0_1__549 : wb19_19.cell? ⟨w.heap.size, 1, none⟩ = some (.int .i64 (Go.Proofs.Ytlljmgphgmklcaa.GoA.nth vout_3 1)) := Pb19_19.out.cells rfl 1 _ rfl
        have kt_0_2__550 : wb19_19.cell? ⟨w.heap.size, 2, none⟩ = some (.int .i64 (Go.Proofs.Ytlljmgphgmklcaa.GoA.nth vout_3 2)) := Pb19_19.out.cells rfl 2 _ rfl
        have kt_0_3__551 : wb19_19.cell? ⟨w.heap.size, 3, none⟩ = some (.int .i64 (Go.Proofs.Ytlljmgphgmklcaa.GoA.nth vout_3 3)) := Pb19_19.out.cells rfl 3 _ rfl
        have kt_0_4__552 : wb19_19.cell? ⟨w.heap.size, 4, none⟩ = some (.int .i64 (Go.Proofs.Ytlljmgphgmklcaa.GoA.nth vout_3 4)) := Pb19_19.out.cells rfl 4 _ rfl
        have kt_0_5__553 : wb19_19.cell? ⟨w.heap.size, 5, none⟩ = some (.int .i64 (Go.Proofs.Ytlljmgphgmklcaa.GoA.nth vout_3 5)) := Pb19_19.out.cells rfl 5 _ rfl
        cases ret_hid H
        go_wp2_with fail
        (try simp only [Exit.inBlock, Exit.then])
        refine bodyPost_ret (v := .tuple #[.agg #[.int .i64 (Go.Proofs.Ytlljmgphgmklcaa.GoA.nth vout_3 0), .int .i64 (Go.Proofs.Ytlljmgphgmklcaa.GoA.nth vout_3 1), .int .i64 (Go.Proofs.Ytlljmgphgmklcaa.GoA.nth vout_3 2), .int .i64 (Go.Proofs.Ytlljmgphgmklcaa.GoA.nth vout_3 3), .int .i64 (Go.Proofs.Ytlljmgphgmklcaa.GoA.nth vout_3 4), .int .i64 (Go.Proofs.Ytlljmgphgmklcaa.GoA.nth vout_3 5)], .bool false]) ?hr_ ?hd_ ?_
        case hd_ => rfl
        case hr_ => simp [results, Try.results40, kt_0_0__548, kt_0_1__549, kt_0_2__550, kt_0_3__551, kt_0_4__552, kt_0_5__553, go_sem]
        exact ⟨rfl, HBwb19_19.out⟩
      | true =>
        replace H := let_hid H
        obtain ⟨t_16, ht_16, H⟩ := H
        obtain rfl : t_16 = false := ht_16.symm
        replace H := app_hid H
        replace H := ite_f H
        go_wp2_with fail
        go_wp2_with fail
        go_loopg [9] (list.length) (fun m_ v9_ wr => ∃ (k0 : Nat) (out_8l0 : (List Int)), k0 + m_ = list.length ∧ v9_ = .int .i64 (k0 : Int) ∧ Hid (cntK (l0 rates mails list) m_ k0 (out_8l0) (e0 ) = some (r0, r1)) ∧ Hid (Below w.heap.size w wr) ∧ wr.cell? ⟨w.heap.size, 0, none⟩ = some (.int .i64 0) ∧ wr.cell? ⟨w.heap.size, 1, none⟩ = some (.int .i64 0) ∧ wr.cell? ⟨w.heap.size, 2, none⟩ = some (.int .i64 0) ∧ wr.cell? ⟨w.heap.size, 3, none⟩ = some (.int .i64 0) ∧ wr.cell? ⟨w.heap.size, 4, none⟩ = some (.int .i64 0) ∧ wr.cell? ⟨w.heap.size, 5, none⟩ = some (.int .i64 0) ∧ Hid (wr.ownsRow w.heap.size 57 6 (.slice (some ⟨w.heap.size, 0, none⟩) 1 1) 1 [.int .i64 0, .int .i64 0, .int .i64 0, .int .i64 0, .int .i64 0, .int .i64 0]) ∧ Hid (wr.ownsRow w.heap.size 57 1 (.slice (some ⟨w_t_0.heap.size, 0, none⟩) 6 6) 6 (Go.Proofs.Ytlljmgphgmklcaa.HelpInt.iv out_8l0)) ∧ Hid (out_8l0.length = 6) ∧ Hid (Apart (some ⟨w_t_0.heap.size, 0, none⟩) (some ⟨w.heap.size, 0, none⟩)))
        case atStart => exact ⟨0, _, by omega, rfl, H, HBwt_15, kt_0_0__512, kt_0_1__513, kt_0_2__514, kt_0_3__515, kt_0_4__516, kt_0_5__517, Ot_0, Oout_3, Lib.hid (nout_3.out), Lib.hid Dout_3_t_0.out⟩
        case round =>
          obtain ⟨k0, out_8l0, hkm0, rfl, H, HBwr0, kt_0_0__512, kt_0_1__513, kt_0_2__514, kt_0_3__515, kt_0_4__516, kt_0_5__517, Ot_0, Oout_8l0, hnout_8l0, Dout_8l0_t_0⟩ := hrel
          rename World => wr0
          cases gk with
          | zero =>
            obtain rfl : k0 = list.length := by omega
            have hc0 : decide (((list.length : Nat) : Int) < ((list.length : Nat) : Int)) = false := by simp
            replace H := cnt_zero H
            unfold e0 at H
            replace H := let_hid H
            obtain ⟨_, rfl, H⟩ := H
            have ka_554 : wr0.cell? ⟨w_t_0.heap.size, 0, none⟩ = some (.int .i64 (Go.Proofs.Ytlljmgphgmklcaa.GoA.nth out_8l0 0)) := Go.Proofs.Ytlljmgphgmklcaa.GoA.row_at Oout_8l0.out hnout_8l0.out 0 (by omega)
            have ka_555 : wr0.cell? ⟨w_t_0.heap.size, 1, none⟩ = some (.int .i64 (Go.Proofs.Ytlljmgphgmklcaa.GoA.nth out_8l0 1)) := Go.Proofs.Ytlljmgphgmklcaa.GoA.row_at Oout_8l0.out hnout_8l0.out 1 (by omega)
            have ka_556 : wr0.cell? ⟨w_t_0.heap.size, 2, none⟩ = some (.int .i64 (Go.Proofs.Ytlljmgphgmklcaa.GoA.nth out_8l0 2)) := Go.Proofs.Ytlljmgphgmklcaa.GoA.row_at Oout_8l0.out hnout_8l0.out 2 (by omega)
            have ka_557 : wr0.cell? ⟨w_t_0.heap.size, 3, none⟩ = some (.int .i64 (Go.Proofs.Ytlljmgphgmklcaa.GoA.nth out_8l0 3)) := Go.Proofs.Ytlljmgphgmklcaa.GoA.row_at Oout_8l0.out hnout_8l0.out 3 (by omega)
            have ka_558 : wr0.cell? ⟨w_t_0.heap.size, 4, none⟩ = some (.int .i64 (Go.Proofs.Ytlljmgphgmklcaa.GoA.nth out_8l0 4)) := Go.Proofs.Ytlljmgphgmklcaa.GoA.row_at Oout_8l0.out hnout_8l0.out 4 (by omega)
            have ka_559 : wr0.cell? ⟨w_t_0.heap.size, 5, none⟩ = some (.int .i64 (Go.Proofs.Ytlljmgphgmklcaa.GoA.nth out_8l0 5)) := Go.Proofs.Ytlljmgphgmklcaa.GoA.row_at Oout_8l0.out hnout_8l0.out 5 (by omega)
            obtain ⟨wb45_45, hwb45_45⟩ : ∃ x, ((((((wr0).setCell ⟨w.heap.size, 0, none⟩ (.int .i64 (Go.Proofs.Ytlljmgphgmklcaa.GoA.nth out_8l0 0))).setCell ⟨w.heap.size, 1, none⟩ (.int .i64 (Go.Proofs.Ytlljmgphgmklcaa.GoA.nth out_8l0 1))).setCell ⟨w.heap.size, 2, none⟩ (.int .i64 (Go.Proofs.Ytlljmgphgmklcaa.GoA.nth out_8l0 2))).setCell ⟨w.heap.size, 3, none⟩ (.int .i64 (Go.Proofs.Ytlljmgphgmklcaa.GoA.nth out_8l0 3))).setCell ⟨w.heap.size, 4, none⟩ (.int .i64 (Go.Proofs.Ytlljmgphgmklcaa.GoA.nth out_8l0 4))).setCell ⟨w.heap.size, 5, none⟩ (.int .i64 (Go.Proofs.Ytlljmgphgmklcaa.GoA.nth out_8l0 5)) = x := ⟨_, rfl⟩
            have z0b45_45 := Ot_0.out.frozenAt 0
            have z1b45_45 := Ot_0.out.frozenAt 1
            have z2b45_45 := Ot_0.out.frozenAt 2
            have z3b45_45 := Ot_0.out.frozenAt 3
            have z4b45_45 := Ot_0.out.frozenAt 4
            have z5b45_45 := Ot_0.out.frozenAt 5
            have Sb45_45 := Lib.hid (own_stores [(0, .int .i64 (Go.Proofs.Ytlljmgphgmklcaa.GoA.nth out_8l0 0)), (1, .int .i64 (Go.Proofs.Ytlljmgphgmklcaa.GoA.nth out_8l0 1)), (2, .int .i64 (Go.Proofs.Ytlljmgphgmklcaa.GoA.nth out_8l0 2)), (3, .int .i64 (Go.Proofs.Ytlljmgphgmklcaa.GoA.nth out_8l0 3)), (4, .int .i64 (Go.Proofs.Ytlljmgphgmklcaa.GoA.nth out_8l0 4)), (5, .int .i64 (Go.Proofs.Ytlljmgphgmklcaa.GoA.nth out_8l0 5))] Ot_0.out)
            have Pb45_45 : Hid (wb45_45.ownsRow w.heap.size 57 6 (.slice (some ⟨w.heap.size, 0, none⟩) 1 1) 1 [.int .i64 (Go.Proofs.Ytlljmgphgmklcaa.GoA.nth out_8l0 0), .int .i64 (Go.Proofs.Ytlljmgphgmklcaa.GoA.nth out_8l0 1), .int .i64 (Go.Proofs.Ytlljmgphgmklcaa.GoA.nth out_8l0 2), .int .i64 (Go.Proofs.Ytlljmgphgmklcaa.GoA.nth out_8l0 3), .int .i64 (Go.Proofs.Ytlljmgphgmklcaa.GoA.nth out_8l0 4), .int .i64 (Go.Proofs.Ytlljmgphgmklcaa.GoA.nth out_8l0 5)]) := Lib.hid (by rw [← hwb45_45]; exact Sb45_45.out.1)
            have Gb45_45 : Hid (wr0.grownBy wb45_45 (Value.slice (some ⟨w.heap.size, 0, none⟩) 1 1).ownBlock) := Lib.hid (by rw [← hwb45_45]; exact Sb45_45.out.2)
            have HBwb45_45 := Lib.hid (HBwr0.out.grown Gb45_45.out HBwr0.out.size (fun q hq => (Ot_0.out.lt q hq).1))
            clear Sb45_45
            replace Oout_8l0 := Lib.hid (own_other Oout_8l0.out Gb45_45.out (Apart.symm Dout_8l0_t_0.out))
            clear Ot_0 Gb45_45
            have kt_0_0__560 : wb45_45.cell? ⟨w.heap.size, 0, none⟩ = some (.int .i64 (Go.Proofs.Ytlljmgphgmklcaa.GoA.nth out_8l0 0)) := Pb45_45.out.cells rfl 0 _ rfl
            have kt_0_1__561 : wb45_45.cell? ⟨w.heap.size, 1, none⟩ = some (.int .i64 (Go.Proofs.Ytlljmgphgmklcaa.GoA.nth out_8l0 1)) := Pb45_45.out.cells rfl 1 _ rfl
            have kt_0_2__562 : wb45_45.cell? ⟨w.heap.size, 2, none⟩ = some (.int .i64 (Go.Proofs.Ytlljmgphgmklcaa.GoA.nth out_8l0 2)) := Pb45_45.out.cells rfl 2 _ rfl
            have kt_0_3__563 : wb45_45.cell? ⟨w.heap.size, 3, none⟩ = some (.int .i64 (Go.Proofs.Ytlljmgphgmklcaa.GoA.nth out_8l0 3)) := Pb45_45.out.cells rfl 3 _ rfl
            have kt_0_4__564 : wb45_45.cell? ⟨w.heap.size, 4, none⟩ = some (.int .i64 (Go.Proofs.Ytlljmgphgmklcaa.GoA.nth out_8l0 4)) := Pb45_45.out.cells rfl 4 _ rfl
            have kt_0_5__565 : wb45_45.cell? ⟨w.heap.size, 5, none⟩ = some (.int .i64 (Go.Proofs.Ytlljmgphgmklcaa.GoA.nth out_8l0 5)) := Pb45_45.out.cells rfl 5 _ rfl
            cases ret_hid H
            go_wp2_with fail
            (try simp only [Exit.inBlock, Exit.then])
            refine bodyPost_ret (v := .tuple #[.agg #[.int .i64 (Go.Proofs.Ytlljmgphgmklcaa.GoA.nth out_8l0 0), .int .i64 (Go.Proofs.Ytlljmgphgmklcaa.GoA.nth out_8l0 1), .int .i64 (Go.Proofs.Ytlljmgphgmklcaa.GoA.nth out_8l0 2), .int .i64 (Go.Proofs.Ytlljmgphgmklcaa.GoA.nth out_8l0 3), .int .i64 (Go.Proofs.Ytlljmgphgmklcaa.GoA.nth out_8l0 4), .int .i64 (Go.Proofs.Ytlljmgphgmklcaa.GoA.nth out_8l0 5)], .bool true]) ?hr_ ?hd_ ?_
            case hd_ => rfl
            case hr_ => simp [results, Try.results40, kt_0_0__560, kt_0_1__561, kt_0_2__562, kt_0_3__563, kt_0_4__564, kt_0_5__565, go_sem]
            exact ⟨rfl, HBwb45_45.out⟩
          | succ m0 =>
            have hlt0 : k0 < list.length := by omega
            have hc0 : decide ((k0 : Int) < ((list.length : Nat) : Int)) = true := by simp; omega
            replace H := cnt_succ H
            unfold l0 at H
            replace H := let_hid H
            obtain ⟨_, rfl, H⟩ := H
            replace H := idx_hid H
            obtain ⟨nt_30, yt_30, et_30, lt_30, gt_30, H⟩ := H
            obtain rfl : k0 = nt_30 := by omega
            clear et_30
            obtain ⟨t_30_id, t_30_day, t_30_zone, t_30_grams, t_30_paid, t_30_from_, t_30_to_, t_30_leave, t_30_arrive⟩ := yt_30
            replace H := unCover_hid H
            obtain ⟨ab_t_30, ao_t_30, zt_30, At_30, z_t_30, ct_30_0, ct_30_1, ct_30_2, ct_30_3, ct_30_4, ct_30_5, ct_30_6, ct_30_7, ct_30_8⟩ := Go.Proofs.Ytlljmgphgmklcaa.OCover.at_ M2.out lt_30
            obtain rfl := Option.some.inj (gt_30.out.symm.trans z_t_30)
            subst At_30
            have ltt_30 := cell_lt ct_30_0
            replace ct_30_0 := cell_below HBwr0.out ct_30_0
            replace ct_30_1 := cell_below HBwr0.out ct_30_1
            replace ct_30_2 := cell_below HBwr0.out ct_30_2
            replace ct_30_3 := cell_below HBwr0.out ct_30_3
            replace ct_30_4 := cell_below HBwr0.out ct_30_4
            replace ct_30_5 := cell_below HBwr0.out ct_30_5
            replace ct_30_6 := cell_below HBwr0.out ct_30_6
            replace ct_30_7 := cell_below HBwr0.out ct_30_7
            replace ct_30_8 := cell_below HBwr0.out ct_30_8
            clear z_t_30
            have b0t_30 : (0 : Int) ≤ (k0 : Int) := by omega
            have b1t_30 : (k0 : Int) < ((list.length : Nat) : Int) := by omega
            have b2t_30 : ((k0 : Int)).toNat = k0 := by omega
            replace H := bind_hid H
            obtain ⟨t_32, qt_32, H⟩ := H
            go_wp2_with fail
            go_at_call 91
            refine (Go.Proofs.Ytlljmgphgmklcaa.GsL10Fault.C (rates) (mails) ((Go.Proofs.Ytlljmgphgmklcaa.PCover.Cover.mk t_30_id t_30_day t_30_zone t_30_grams t_30_paid t_30_from_ t_30_to_ t_30_leave t_30_arrive)) A0 c0 A1 c1 _   (Lib.hid (Cells.below M0.out HBwr0.out)) N0 (Lib.hid (Cells.below M1.out HBwr0.out)) N1 qt_32).mono ?_
            rintro e_t_32 wt_32 ⟨rfl, bt_32⟩
            have HBwt_32 := Lib.hid (Below.step HBwr0.out bt_32)
            replace kt_0_0__512 := cell_below bt_32 kt_0_0__512
            replace kt_0_1__513 := cell_below bt_32 kt_0_1__513
            replace kt_0_2__514 := cell_below bt_32 kt_0_2__514
            replace kt_0_3__515 := cell_below bt_32 kt_0_3__515
            replace kt_0_4__516 := cell_below bt_32 kt_0_4__516
            replace kt_0_5__517 := cell_below bt_32 kt_0_5__517
            replace ct_30_0 := cell_below bt_32 ct_30_0
            replace ct_30_1 := cell_below bt_32 ct_30_1
            replace ct_30_2 := cell_below bt_32 ct_30_2
            replace ct_30_3 := cell_below bt_32 ct_30_3
            replace ct_30_4 := cell_below bt_32 ct_30_4
            replace ct_30_5 := cell_below bt_32 ct_30_5
            replace ct_30_6 := cell_below bt_32 ct_30_6
            replace ct_30_7 := cell_below bt_32 ct_30_7
            replace ct_30_8 := cell_below bt_32 ct_30_8
            replace Oout_8l0 := Lib.hid (own_below Oout_8l0.out bt_32)
            replace Ot_0 := Lib.hid (own_below Ot_0.out bt_32)
            clear bt_32
            replace H := idx_hid H
            obtain ⟨nt_36, yt_36, et_36, lt_36, gt_36, H⟩ := H
            subst et_36
            have hqt_36 := hnout_8l0.out
            obtain ⟨ab_t_36, ao_t_36, zt_36, At_36, z_t_36, ct_36_0⟩ := Go.Proofs.Ytlljmgphgmklcaa.HelpInt.Ints.at_ (own_cells Oout_8l0.out) (k := nt_36) (by omega)
            obtain rfl := Option.some.inj (gt_36.out.symm.trans z_t_36)
            simp only [Option.some.injEq, Addr.mk.injEq] at At_36
            obtain ⟨rfl, rfl, _⟩ := At_36
            clear z_t_36
            simp only [Nat.zero_add] at ct_36_0
            have b0t_36 : (0 : Int) ≤ (nt_36 : Int) := by omega
            have b1t_36 : (nt_36 : Int) < ((6 : Nat) : Int) := by omega
            have b2t_36 : ((nt_36 : Int)).toNat = nt_36 := by omega
            clear hqt_36
            have b3t_36 : nt_36 < 6 := by have h_ := lt_36; have hn_ := hnout_8l0.out; omega
            have b4t_36 : (nt_36 : Int) < (6 : Int) := by omega
            replace H := let_hid H
            obtain ⟨t_38, ht_38, H⟩ := H
            replace H := idx_hid H
            obtain ⟨nt_39, yt_39, et_39, lt_39, gt_39, H⟩ := H
            obtain rfl : nt_36 = nt_39 := by omega
            clear et_39
            obtain rfl := Option.some.inj (gt_36.out.symm.trans gt_39.out)
            clear gt_39 lt_39
            have b3t_39 : nt_36 < 6 := by have h_ := lt_36; have hn_ := hnout_8l0.out; omega
            have b4t_39 : (nt_36 : Int) < (6 : Int) := by omega
            replace H := let_hid H
            obtain ⟨l40_40, hl40_40, H⟩ := H
            try simp only [Int.toNat_natCast] at hl40_40
            obtain ⟨wl40_40, hwl40_40⟩ : ∃ x, (wt_32).setCell ⟨w_t_0.heap.size, nt_36, none⟩ (.int .i64 t_38) = x := ⟨_, rfl⟩
            have z0l40_40 := Oout_8l0.out.frozenAt (nt_36)
            have Sl40_40 := Lib.hid (own_stores [(nt_36, .int .i64 t_38)] Oout_8l0.out)
            have nl40_40 : Hid (l40_40.length = 6) := Lib.hid (by rw [← hl40_40, List.length_set]; exact hnout_8l0.out)
            have Pl40_40 : Hid (wl40_40.ownsRow w.heap.size 57 1 (.slice (some ⟨w_t_0.heap.size, 0, none⟩) 6 6) 6 (Go.Proofs.Ytlljmgphgmklcaa.HelpInt.iv l40_40)) := Lib.hid (by have e_ : ([(nt_36, .int .i64 t_38)] : List (Nat × Value)).foldl (fun xs p => xs.set p.1 p.2) (Go.Proofs.Ytlljmgphgmklcaa.HelpInt.iv out_8l0) = (Go.Proofs.Ytlljmgphgmklcaa.HelpInt.iv l40_40) := (by rw [← hl40_40]; first | done | simp [Go.Proofs.Ytlljmgphgmklcaa.HelpInt.iv, List.map_set]); rw [← hwl40_40, ← e_]; exact Sl40_40.out.1)
            have Gl40_40 : Hid (wt_32.grownBy wl40_40 (Value.slice (some ⟨w_t_0.heap.size, 0, none⟩) 6 6).ownBlock) := Lib.hid (by rw [← hwl40_40]; exact Sl40_40.out.2)
            have HBwl40_40 := Lib.hid (HBwt_32.out.grown Gl40_40.out HBwt_32.out.size (fun q hq => (Oout_8l0.out.lt q hq).1))
            have hhl40_40 := Lib.hid hl40_40
            clear hl40_40 Sl40_40
            have kt_0_0__566 := cell_other kt_0_0__512 Gl40_40.out Dout_8l0_t_0.out
            have kt_0_1__567 := cell_other kt_0_1__513 Gl40_40.out Dout_8l0_t_0.out
            have kt_0_2__568 := cell_other kt_0_2__514 Gl40_40.out Dout_8l0_t_0.out
            have kt_0_3__569 := cell_other kt_0_3__515 Gl40_40.out Dout_8l0_t_0.out
            have kt_0_4__570 := cell_other kt_0_4__516 Gl40_40.out Dout_8l0_t_0.out
            have kt_0_5__571 := cell_other kt_0_5__517 Gl40_40.out Dout_8l0_t_0.out
            have ct_30_0__572 := cell_other ct_30_0 Gl40_40.out (apart_old Oout_8l0.out ltt_30)
            have ct_30_1__573 := cell_other ct_30_1 Gl40_40.out (apart_old Oout_8l0.out ltt_30)
            have ct_30_2__574 := cell_other ct_30_2 Gl40_40.out (apart_old Oout_8l0.out ltt_30)
            have ct_30_3__575 := cell_other ct_30_3 Gl40_40.out (apart_old Oout_8l0.out ltt_30)
            have ct_30_4__576 := cell_other ct_30_4 Gl40_40.out (apart_old Oout_8l0.out ltt_30)
            have ct_30_5__577 := cell_other ct_30_5 Gl40_40.out (apart_old Oout_8l0.out ltt_30)
            have ct_30_6__578 := cell_other ct_30_6 Gl40_40.out (apart_old Oout_8l0.out ltt_30)
            have ct_30_7__579 := cell_other ct_30_7 Gl40_40.out (apart_old Oout_8l0.out ltt_30)
            have ct_30_8__580 := cell_other ct_30_8 Gl40_40.out (apart_old Oout_8l0.out ltt_30)
            replace Ot_0 := Lib.hid (own_other Ot_0.out Gl40_40.out Dout_8l0_t_0.out)
            clear Oout_8l0 Gl40_40
            replace H := app_hid H
            go_wp2_with fail
            clear z0l40_40 kt_0_0__512 kt_0_1__513 kt_0_2__514 kt_0_3__515 kt_0_4__516 kt_0_5__517 ct_30_0 ct_30_1 ct_30_2 ct_30_3 ct_30_4 ct_30_5 ct_30_6 ct_30_7 ct_30_8 ct_36_0
            go_roundg m0
            case measure => omega
            case rel => exact ⟨k0 + 1, _, by omega, by go_num, H, HBwl40_40, kt_0_0__566, kt_0_1__567, kt_0_2__568, kt_0_3__569, kt_0_4__570, kt_0_5__571, Ot_0, Pl40_40, Lib.hid (nl40_40.out), Lib.hid Dout_8l0_t_0.out⟩
end Go.Proofs.Ytlljmgphgmklcaa.GsFaultCounts

/- loop.example/g01062/impl.FaultCounts as a plain function, and the contract of the program's: where the plain one has an answer, the program has it. Conditions: slices read as lists. -/
namespace Go.Proofs.Ytlljmgphgmklcaa.GiFaultCounts
set_option linter.unusedVariables false
set_option linter.unusedSimpArgs false
open Go.RowKit
open Go.Proofs.Ytlljmgphgmklcaa.Rowed Go.Proofs.Ytlljmgphgmklcaa.Turn Go.Proofs.Ytlljmgphgmklcaa.Aid Go.Proofs.Ytlljmgphgmklcaa.GoP Go.Proofs.Ytlljmgphgmklcaa.GoM

def l0 (rates : (List Go.Proofs.Ytlljmgphgmklcaa.PRate.Rate)) (mails : (List Go.Proofs.Ytlljmgphgmklcaa.PMail.Mail)) (list : (List Go.Proofs.Ytlljmgphgmklcaa.PCover.Cover)) (k0 : Nat) (s : (List Int)) (nx0 bk0 : (List Int) → Option (Go.Proofs.Ytlljmgphgmklcaa.PIntA6.IntA6 × Bool)) : Option (Go.Proofs.Ytlljmgphgmklcaa.PIntA6.IntA6 × Bool) :=
  letK s fun counts_8l0 =>
  Option.bind (idx list (k0 : Int)) fun (yt_19 : Go.Proofs.Ytlljmgphgmklcaa.PCover.Cover) =>
  unCover yt_19 fun (t_19_id : Int) (t_19_day : Int) (t_19_zone : Int) (t_19_grams : Int) (t_19_paid : Int) (t_19_from_ : Int) (t_19_to_ : Int) (t_19_leave : Int) (t_19_arrive : Int) =>
  Option.bind (Go.Proofs.Ytlljmgphgmklcaa.GiFaultOn.P rates mails (Go.Proofs.Ytlljmgphgmklcaa.PCover.Cover.mk t_19_id t_19_day t_19_zone t_19_grams t_19_paid t_19_from_ t_19_to_ t_19_leave t_19_arrive)) fun (t_26 : Int) =>
  Option.bind (idx counts_8l0 t_26) fun (yt_27 : Int) =>
  letK (IntKind.i64.wrap (yt_27 + 1)) fun (t_29 : Int) =>
  Option.bind (idx counts_8l0 t_26) fun (yt_30 : Int) =>
  letK (counts_8l0.set (t_26).toNat t_29) fun (l31_31 : (List Int)) =>
  appK nx0 (l31_31)

def e0  (s : (List Int)) : Option (Go.Proofs.Ytlljmgphgmklcaa.PIntA6.IntA6 × Bool) :=
  letK s fun counts_8l0 =>
  some ((Go.Proofs.Ytlljmgphgmklcaa.PIntA6.IntA6.mk (Go.Proofs.Ytlljmgphgmklcaa.GoA.nth counts_8l0 0) (Go.Proofs.Ytlljmgphgmklcaa.GoA.nth counts_8l0 1) (Go.Proofs.Ytlljmgphgmklcaa.GoA.nth counts_8l0 2) (Go.Proofs.Ytlljmgphgmklcaa.GoA.nth counts_8l0 3) (Go.Proofs.Ytlljmgphgmklcaa.GoA.nth counts_8l0 4) (Go.Proofs.Ytlljmgphgmklcaa.GoA.nth counts_8l0 5)), true)

def P (rates : (List Go.Proofs.Ytlljmgphgmklcaa.PRate.Rate)) (mails : (List Go.Proofs.Ytlljmgphgmklcaa.PMail.Mail)) (list : (List Go.Proofs.Ytlljmgphgmklcaa.PCover.Cover)) : Option (Go.Proofs.Ytlljmgphgmklcaa.PIntA6.IntA6 × Bool) :=
  letK ([0, 0, 0, 0, 0, 0]) fun (vcounts_2 : (List Int)) =>
  Option.bind (Go.Proofs.Ytlljmgphgmklcaa.GiCanCheckCovers.P rates mails) fun (t_5 : Bool) =>
  letK (!t_5) fun (t_6 : Bool) =>
  joinK (fun (t_11 : Bool) =>
  iteK t_11
  (some ((Go.Proofs.Ytlljmgphgmklcaa.PIntA6.IntA6.mk (Go.Proofs.Ytlljmgphgmklcaa.GoA.nth vcounts_2 0) (Go.Proofs.Ytlljmgphgmklcaa.GoA.nth vcounts_2 1) (Go.Proofs.Ytlljmgphgmklcaa.GoA.nth vcounts_2 2) (Go.Proofs.Ytlljmgphgmklcaa.GoA.nth vcounts_2 3) (Go.Proofs.Ytlljmgphgmklcaa.GoA.nth vcounts_2 4) (Go.Proofs.Ytlljmgphgmklcaa.GoA.nth vcounts_2 5)), false))
  (cntK (l0 rates mails list) (list.length) 0 (vcounts_2) (e0 ))) fun jt_11 => iteK t_6 (appK jt_11 true) (Option.bind (Go.Proofs.Ytlljmgphgmklcaa.GiAreCovers.P list) fun (t_9 : Bool) =>
  letK (!t_9) fun (t_10 : Bool) =>
  appK jt_11 t_10)

set_option maxRecDepth 100000 in
set_option maxHeartbeats 2000000 in
theorem C (rates : (List Go.Proofs.Ytlljmgphgmklcaa.PRate.Rate)) (mails : (List Go.Proofs.Ytlljmgphgmklcaa.PMail.Mail)) (list : (List Go.Proofs.Ytlljmgphgmklcaa.PCover.Cover)) (A0 : Option Addr) (c0 : Nat) (A1 : Option Addr) (c1 : Nat) (A2 : Option Addr) (c2 : Nat)  (w : World) (M0 : Hid (Cells w 5 A0 rates.length (Go.Proofs.Ytlljmgphgmklcaa.PRate.flat rates))) (N0 : Hid (rates.length ≤ 9223372036854775807)) (M1 : Hid (Cells w 4 A1 mails.length (Go.Proofs.Ytlljmgphgmklcaa.PMail.flat mails))) (N1 : Hid (mails.length ≤ 9223372036854775807)) (M2 : Hid (Cells w 9 A2 list.length (Go.Proofs.Ytlljmgphgmklcaa.PCover.flat list))) (N2 : Hid (list.length ≤ 9223372036854775807))  {r0 : Go.Proofs.Ytlljmgphgmklcaa.PIntA6.IntA6} {r1 : Bool} (H : Hid (P rates mails list = some (r0, r1))) :
    Calls Try.prog 41 #[.slice A0 rates.length c0, .slice A1 mails.length c1, .slice A2 list.length c2] w (Gives (.tuple #[(Go.Proofs.Ytlljmgphgmklcaa.PIntA6.IntA6.val r0), .bool r1]) w) := by
  have HB := Lib.hid (Below.refl w.heap.size w)
  unfold P at H
  have N0o := N0.out
  have N1o := N1.out
  have N2o := N2.out
  go_enter Try.func41, Try.ntmps41
  obtain ⟨w_t_0, hw_t_0⟩ : ∃ x, w.alloc (.cells #[.int .i64 0, .int .i64 0, .int .i64 0, .int .i64 0, .int .i64 0, .int .i64 0] 57) = x := ⟨_, rfl⟩
  have bw_t_0 : Below w.heap.size w w_t_0 := by rw [← hw_t_0]; exact (Below.refl _ _).alloc (Nat.le_refl _) _
  have HBw_t_0 := Lib.hid (Below.step HB.out bw_t_0)
  clear bw_t_0
  have kt_0_0 : w_t_0.cell? ⟨w.heap.size, 0, none⟩ = some (.int .i64 0) := by rw [← hw_t_0]; exact box_new _ _ _ 0 _ rfl
  have kt_0_1 : w_t_0.cell? ⟨w.heap.size, 1, none⟩ = some (.int .i64 0) := by rw [← hw_t_0]; exact box_new _ _ _ 1 _ rfl
  have kt_0_2 : w_t_0.cell? ⟨w.heap.size, 2, none⟩ = some (.int .i64 0) := by rw [← hw_t_0]; exact box_new _ _ _ 2 _ rfl
  have kt_0_3 : w_t_0.cell? ⟨w.heap.size, 3, none⟩ = some (.int .i64 0) := by rw [← hw_t_0]; exact box_new _ _ _ 3 _ rfl
  have kt_0_4 : w_t_0.cell? ⟨w.heap.size, 4, none⟩ = some (.int .i64 0) := by rw [← hw_t_0]; exact box_new _ _ _ 4 _ rfl
  have kt_0_5 : w_t_0.cell? ⟨w.heap.size, 5, none⟩ = some (.int .i64 0) := by rw [← hw_t_0]; exact box_new _ _ _ 5 _ rfl
  have Ot_0 : Hid (w_t_0.ownsRow w.heap.size 57 6 (.slice (some ⟨w.heap.size, 0, none⟩) 1 1) 1 [.int .i64 0, .int .i64 0, .int .i64 0, .int .i64 0, .int .i64 0, .int .i64 0]) := Lib.hid (by rw [← hw_t_0]; exact own_laid (n := 1) HB.out.size rfl rfl (by unfold maxLen; omega))
  replace H := let_hid H
  obtain ⟨vcounts_2, hvcounts_2, H⟩ := H
  obtain ⟨w_counts_2, hw_counts_2⟩ : ∃ x, w_t_0.alloc (.cells #[.int .i64 0, .int .i64 0, .int .i64 0, .int .i64 0, .int .i64 0, .int .i64 0] 57) = x := ⟨_, rfl⟩
  have bw_counts_2 : Below w_t_0.heap.size w_t_0 w_counts_2 := by rw [← hw_counts_2]; exact (Below.refl _ _).alloc (Nat.le_refl _) _
  have hs_counts_2 := HBw_t_0.out.size
  have ncounts_2 : vcounts_2.length = 6 := by rw [← hvcounts_2]; rfl
  have Ocounts_2 : Hid (w_counts_2.ownsRow w.heap.size 57 1 (.slice (some ⟨w_t_0.heap.size, 0, none⟩) 6 6) 6 (Go.Proofs.Ytlljmgphgmklcaa.HelpInt.iv vcounts_2)) := by
    rw [← hw_counts_2, ← hvcounts_2]
    have e_ : ([.int .i64 0, .int .i64 0, .int .i64 0, .int .i64 0, .int .i64 0, .int .i64 0] : List Value) = Go.Proofs.Ytlljmgphgmklcaa.HelpInt.iv [0, 0, 0, 0, 0, 0] := rfl
    exact Lib.hid (own_laid (n := 6) hs_counts_2 e_ rfl (by unfold maxLen; omega))
  clear hs_counts_2
  have hhcounts_2 := Lib.hid hvcounts_2
  clear hvcounts_2
  replace ncounts_2 := Lib.hid ncounts_2
  have Dcounts_2_t_0 := Lib.hid (apart_box kt_0_0)
  have HBw_counts_2 := Lib.hid (Below.step HBw_t_0.out bw_counts_2)
  have kt_0_0__755 := cell_below bw_counts_2 kt_0_0
  have kt_0_1__756 := cell_below bw_counts_2 kt_0_1
  have kt_0_2__757 := cell_below bw_counts_2 kt_0_2
  have kt_0_3__758 := cell_below bw_counts_2 kt_0_3
  have kt_0_4__759 := cell_below bw_counts_2 kt_0_4
  have kt_0_5__760 := cell_below bw_counts_2 kt_0_5
  replace Ot_0 := Lib.hid (own_below Ot_0.out bw_counts_2)
  clear bw_counts_2
  replace H := bind_hid H
  obtain ⟨t_5, qt_5, H⟩ := H
  go_wp2_with fail
  clear kt_0_0 kt_0_1 kt_0_2 kt_0_3 kt_0_4 kt_0_5
  go_at_call 94
  refine (Go.Proofs.Ytlljmgphgmklcaa.GiCanCheckCovers.C (rates) (mails) A0 c0 A1 c1 _   (Lib.hid (Cells.below M0.out HBw_counts_2.out)) N0 (Lib.hid (Cells.below M1.out HBw_counts_2.out)) N1 qt_5).mono ?_
  rintro e_t_5 wt_5 ⟨rfl, bt_5⟩
  have HBwt_5 := Lib.hid (Below.step HBw_counts_2.out bt_5)
  replace kt_0_0__755 := cell_below bt_5 kt_0_0__755
  replace kt_0_1__756 := cell_below bt_5 kt_0_1__756
  replace kt_0_2__757 := cell_below bt_5 kt_0_2__757
  replace kt_0_3__758 := cell_below bt_5 kt_0_3__758
  replace kt_0_4__759 := cell_below bt_5 kt_0_4__759
  replace kt_0_5__760 := cell_below bt_5 kt_0_5__760
  replace Ocounts_2 := Lib.hid (own_below Ocounts_2.out bt_5)
  replace Ot_0 := Lib.hid (own_below Ot_0.out bt_5)
  clear bt_5
  cases t_5 with
  | false =>
    replace H := let_hid H
    obtain ⟨t_6, ht_6, H⟩ := H
    obtain rfl : t_6 = true := ht_6.symm
    replace H := join_hid H
    replace H := ite_t H
    replace H := app_hid H
    replace H := ite_t H
    have ka_761 : wt_5.cell? ⟨w_t_0.heap.size, 0, none⟩ = some (.int .i64 (Go.Proofs.Ytlljmgphgmklcaa.GoA.nth vcounts_2 0)) := Go.Proofs.Ytlljmgphgmklcaa.GoA.row_at Ocounts_2.out ncounts_2.out 0 (by omega)
    have ka_762 : wt_5.cell? ⟨w_t_0.heap.size, 1, none⟩ = some (.int .i64 (Go.Proofs.Ytlljmgphgmklcaa.GoA.nth vcounts_2 1)) := Go.Proofs.Ytlljmgphgmklcaa.GoA.row_at Ocounts_2.out ncounts_2.out 1 (by omega)
    have ka_763 : wt_5.cell? ⟨w_t_0.heap.size, 2, none⟩ = some (.int .i64 (Go.Proofs.Ytlljmgphgmklcaa.GoA.nth vcounts_2 2)) := Go.Proofs.Ytlljmgphgmklcaa.GoA.row_at Ocounts_2.out ncounts_2.out 2 (by omega)
    have ka_764 : wt_5.cell? ⟨w_t_0.heap.size, 3, none⟩ = some (.int .i64 (Go.Proofs.Ytlljmgphgmklcaa.GoA.nth vcounts_2 3)) := Go.Proofs.Ytlljmgphgmklcaa.GoA.row_at Ocounts_2.out ncounts_2.out 3 (by omega)
    have ka_765 : wt_5.cell? ⟨w_t_0.heap.size, 4, none⟩ = some (.int .i64 (Go.Proofs.Ytlljmgphgmklcaa.GoA.nth vcounts_2 4)) := Go.Proofs.Ytlljmgphgmklcaa.GoA.row_at Ocounts_2.out ncounts_2.out 4 (by omega)
    have ka_766 : wt_5.cell? ⟨w_t_0.heap.size, 5, none⟩ = some (.int .i64 (Go.Proofs.Ytlljmgphgmklcaa.GoA.nth vcounts_2 5)) := Go.Proofs.Ytlljmgphgmklcaa.GoA.row_at Ocounts_2.out ncounts_2.out 5 (by omega)
    obtain ⟨wb13_13, hwb13_13⟩ : ∃ x, ((((((wt_5).setCell ⟨w.heap.size, 0, none⟩ (.int .i64 (Go.Proofs.Ytlljmgphgmklcaa.GoA.nth vcounts_2 0))).setCell ⟨w.heap.size, 1, none⟩ (.int .i64 (Go.Proofs.Ytlljmgphgmklcaa.GoA.nth vcounts_2 1))).setCell ⟨w.heap.size, 2, none⟩ (.int .i64 (Go.Proofs.Ytlljmgphgmklcaa.GoA.nth vcounts_2 2))).setCell ⟨w.heap.size, 3, none⟩ (.int .i64 (Go.Proofs.Ytlljmgphgmklcaa.GoA.nth vcounts_2 3))).setCell ⟨w.heap.size, 4, none⟩ (.int .i64 (Go.Proofs.Ytlljmgphgmklcaa.GoA.nth vcounts_2 4))).setCell ⟨w.heap.size, 5, none⟩ (.int .i64 (Go.Proofs.Ytlljmgphgmklcaa.GoA.nth vcounts_2 5)) = x := ⟨_, rfl⟩
    have z0b13_13 := Ot_0.out.frozenAt 0
    have z1b13_13 := Ot_0.out.frozenAt 1
    have z2b13_13 := Ot_0.out.frozenAt 2
    have z3b13_13 := Ot_0.out.frozenAt 3
    have z4b13_13 := Ot_0.out.frozenAt 4
    have z5b13_13 := Ot_0.out.frozenAt 5
    have Sb13_13 := Lib.hid (own_stores [(0, .int .i64 (Go.Proofs.Ytlljmgphgmklcaa.GoA.nth vcounts_2 0)), (1, .int .i64 (Go.Proofs.Ytlljmgphgmklcaa.GoA.nth vcounts_2 1)), (2, .int .i64 (Go.Proofs.Ytlljmgphgmklcaa.GoA.nth vcounts_2 2)), (3, .int .i64 (Go.Proofs.Ytlljmgphgmklcaa.GoA.nth vcounts_2 3)), (4, .int .i64 (Go.Proofs.Ytlljmgphgmklcaa.GoA.nth vcounts_2 4)), (5, .int .i64 (Go.Proofs.Ytlljmgphgmklcaa.GoA.nth vcounts_2 5))] Ot_0.out)
    have Pb13_13 : Hid (wb13_13.ownsRow w.heap.size 57 6 (.slice (some ⟨w.heap.size, 0, none⟩) 1 1) 1 [.int .i64 (Go.Proofs.Ytlljmgphgmklcaa.GoA.nth vcounts_2 0), .int .i64 (Go.Proofs.Ytlljmgphgmklcaa.GoA.nth vcounts_2 1), .int .i64 (Go.Proofs.Ytlljmgphgmklcaa.GoA.nth vcounts_2 2), .int .i64 (Go.Proofs.Ytlljmgphgmklcaa.GoA.nth vcounts_2 3), .int .i64 (Go.Proofs.Ytlljmgphgmklcaa.GoA.nth vcounts_2 4), .int .i64 (Go.Proofs.Ytlljmgphgmklcaa.GoA.nth vcounts_2 5)]) := Lib.hid (by rw [← hwb13_13]; exact Sb13_13.out.1)
    have Gb13_13 : Hid (wt_5.grownBy wb13_13 (Value.slice (some ⟨w.heap.size, 0, none⟩) 1 1).ownBlock) := Lib.hid (by rw [← hwb13_13]; exact Sb13_13.out.2)
    have HBwb13_13 := Lib.hid (HBwt_5.out.grown Gb13_13.out HBwt_5.out.size (fun q hq => (Ot_0.out.lt q hq).1))
    clear Sb13_13
    replace Ocounts_2 := Lib.hid (own_other Ocounts_2.out Gb13_13.out (Apart.symm Dcounts_2_t_0.out))
    clear Ot_0 Gb13_13
    have kt_0_0__767 : wb13_13.cell? ⟨w.heap.size, 0, none⟩ = some (.int .i64 (Go.Proofs.Ytlljmgphgmklcaa.GoA.nth vcounts_2 0)) := Pb13_13.out.cells rfl 0 _ rfl
    have kt_0_1__768 : wb13_13.cell? ⟨w.heap.size, 1, none⟩ = some (.int .i64 (Go.Proofs.Ytlljmgphgmklcaa.GoA.nth vcounts_2 1)) := Pb13_13.out.cells rfl 1 _ rfl
    have kt_0_2__769 : wb13_13.cell? ⟨w.heap.size, 2, none⟩ = some (.int .i64 (Go.Proofs.Ytlljmgphgmklcaa.GoA.nth vcounts_2 2)) := Pb13_13.out.cells rfl 2 _ rfl
    have kt_0_3__770 : wb13_13.cell? ⟨w.heap.size, 3, none⟩ = some (.int .i64 (Go.Proofs.Ytlljmgphgmklcaa.GoA.nth vcounts_2 3)) := Pb13_13.out.cells rfl 3 _ rfl
    have kt_0_4__771 : wb13_13.cell? ⟨w.heap.size, 4, none⟩ = some (.int .i64 (Go.Proofs.Ytlljmgphgmklcaa.GoA.nth vcounts_2 4)) := Pb13_13.out.cells rfl 4 _ rfl
    have kt_0_5__772 : wb13_13.cell? ⟨w.heap.size, 5, none⟩ = some (.int .i64 (Go.Proofs.Ytlljmgphgmklcaa.GoA.nth vcounts_2 5)) := Pb13_13.out.cells rfl 5 _ rfl
    cases ret_hid H
    go_wp2_with fail
    (try simp only [Exit.inBlock, Exit.then])
    refine bodyPost_ret (v := .tuple #[.agg #[.int .i64 (Go.Proofs.Ytlljmgphgmklcaa.GoA.nth vcounts_2 0), .int .i64 (Go.Proofs.Ytlljmgphgmklcaa.GoA.nth vcounts_2 1), .int .i64 (Go.Proofs.Ytlljmgphgmklcaa.GoA.nth vcounts_2 2), .int .i64 (Go.Proofs.Ytlljmgphgmklcaa.GoA.nth vcounts_2 3), .int .i64 (Go.Proofs.Ytlljmgphgmklcaa.GoA.nth vcounts_2 4), .int .i64 (Go.Proofs.Ytlljmgphgmklcaa.GoA.nth vcounts_2 5)], .bool false]) ?hr_ ?hd_ ?_
    case hd_ => rfl
    case hr_ => simp [results, Try.results41, kt_0_0__767, kt_0_1__768, kt_0_2__769, kt_0_3__770, kt_0_4__771, kt_0_5__772, go_sem]
    exact ⟨rfl, HBwb13_13.out⟩
  | true =>
    replace H := let_hid H
    obtain ⟨t_6, ht_6, H⟩ := H
    obtain rfl : t_6 = false := ht_6.symm
    replace H := join_hid H
    replace H := ite_f H
    replace H := bind_hid H
    obtain ⟨t_9, qt_9, H⟩ := H
    go_wp2_with fail
    go_at_call 22
    refine (Go.Proofs.Ytlljmgphgmklcaa.GiAreCovers.C (list) A2 c2 _   (Lib.hid (Cells.below M2.out HBwt_5.out)) N2 qt_9).mono ?_
    rintro e_t_9 wt_9 ⟨rfl, bt_9⟩
    have HBwt_9 := Lib.hid (Below.step HBwt_5.out bt_9)
    replace kt_0_0__755 := cell_below bt_9 kt_0_0__755
    replace kt_0_1__756 := cell_below bt_9 kt_0_1__756
    replace kt_0_2__757 := cell_below bt_9 kt_0_2__757
    replace kt_0_3__758 := cell_below bt_9 kt_0_3__758
    replace kt_0_4__759 := cell_below bt_9 kt_0_4__759
    replace kt_0_5__760 := cell_below bt_9 kt_0_5__760
    replace Ocounts_2 := Lib.hid (own_below Ocounts_2.out bt_9)
    replace Ot_0 := Lib.hid (own_below Ot_0.out bt_9)
    clear bt_9
    cases t_9 with
    | false =>
      replace H := let_hid H
      obtain ⟨t_10, ht_10, H⟩ := H
      obtain rfl : t_10 = true := ht_10.symm
      replace H := app_hid H
      replace H := ite_t H
      have ka_773 : wt_9.cell? ⟨w_t_0.heap.size, 0, none⟩ = some (.int .i64 (Go.Proofs.Ytlljmgphgmklcaa.GoA.nth vcounts_2 0)) := Go.Proofs.Ytlljmgphgmklcaa.GoA.row_at Ocounts_2.out ncounts_2.out 0 (by omega)
      have ka_774 : wt_9.cell? ⟨w_t_0.heap.size, 1, none⟩ = some (.int .i64 (Go.Proofs.Ytlljmgphgmklcaa.GoA.nth vcounts_2 1)) := Go.Proofs.Ytlljmgphgmklcaa.GoA.row_at Ocounts_2.out ncounts_2.out 1 (by omega)
      have ka_775 : wt_9.cell? ⟨w_t_0.heap.size, 2, none⟩ = some (.int .i64 (Go.Proofs.Ytlljmgphgmklcaa.GoA.nth vcounts_2 2)) := Go.Proofs.Ytlljmgphgmklcaa.GoA.row_at Ocounts_2.out ncounts_2.out 2 (by omega)
      have ka_776 : wt_9.cell? ⟨w_t_0.heap.size, 3, none⟩ = some (.int .i64 (Go.Proofs.Ytlljmgphgmklcaa.GoA.nth vcounts_2 3)) := Go.Proofs.Ytlljmgphgmklcaa.GoA.row_at Ocounts_2.out ncounts_2.out 3 (by omega)
      have ka_777 : wt_9.cell? ⟨w_t_0.heap.size, 4, none⟩ = some (.int .i64 (Go.Proofs.Ytlljmgphgmklcaa.GoA.nth vcounts_2 4)) := Go.Proofs.Ytlljmgphgmklcaa.GoA.row_at Ocounts_2.out ncounts_2.out 4 (by omega)
      have ka_778 : wt_9.cell? ⟨w_t_0.heap.size, 5, none⟩ = some (.int .i64 (Go.Proofs.Ytlljmgphgmklcaa.GoA.nth vcounts_2 5)) := Go.Proofs.Ytlljmgphgmklcaa.GoA.row_at Ocounts_2.out ncounts_2.out 5 (by omega)
      obtain ⟨wb13_13, hwb13_13⟩ : ∃ x, ((((((wt_9).setCell ⟨w.heap.size, 0, none⟩ (.int .i64 (Go.Proofs.Ytlljmgphgmklcaa.GoA.nth vcounts_2 0))).setCell ⟨w.heap.size, 1, none⟩ (.int .i64 (Go.Proofs.Ytlljmgphgmklcaa.GoA.nth vcounts_2 1))).setCell ⟨w.heap.size, 2, none⟩ (.int .i64 (Go.Proofs.Ytlljmgphgmklcaa.GoA.nth vcounts_2 2))).setCell ⟨w.heap.size, 3, none⟩ (.int .i64 (Go.Proofs.Ytlljmgphgmklcaa.GoA.nth vcounts_2 3))).setCell ⟨w.heap.size, 4, none⟩ (.int .i64 (Go.Proofs.Ytlljmgphgmklcaa.GoA.nth vcounts_2 4))).setCell ⟨w.heap.size, 5, none⟩ (.int .i64 (Go.Proofs.Ytlljmgphgmklcaa.GoA.nth vcounts_2 5)) = x := ⟨_, rfl⟩
      have z0b13_13 := Ot_0.out.frozenAt 0
      have z1b13_13 := Ot_0.out.frozenAt 1
      have z2b13_13 := Ot_0.out.frozenAt 2
      have z3b13_13 := Ot_0.out.frozenAt 3
      have z4b13_13 := Ot_0.out.frozenAt 4
      have z5b13_13 := Ot_0.out.frozenAt 5
      have Sb13_13 := Lib.hid (own_stores [(0, .int .i64 (Go.Proofs.Ytlljmgphgmklcaa.GoA.nth vcounts_2 0)), (1, .int .i64 (Go.Proofs.Ytlljmgphgmklcaa.GoA.nth vcounts_2 1)), (2, .int .i64 (Go.Proofs.Ytlljmgphgmklcaa.GoA.nth vcounts_2 2)), (3, .int .i64 (Go.Proofs.Ytlljmgphgmklcaa.GoA.nth vcounts_2 3)), (4, .int .i64 (Go.Proofs.Ytlljmgphgmklcaa.GoA.nth vcounts_2 4)), (5, .int .i64 (Go.Proofs.Ytlljmgphgmklcaa.GoA.nth vcounts_2 5))] Ot_0.out)
      have Pb13_13 : Hid (wb13_13.ownsRow w.heap.size 57 6 (.slice (some ⟨w.heap.size, 0, none⟩) 1 1) 1 [.int .i64 (Go.Proofs.Ytlljmgphgmklcaa.GoA.nth vcounts_2 0), .int .i64 (Go.Proofs.Ytlljmgphgmklcaa.GoA.nth vcounts_2 1), .int .i64 (Go.Proofs.Ytlljmgphgmklcaa.GoA.nth vcounts_2 2), .int .i64 (Go.Proofs.Ytlljmgphgmklcaa.GoA.nth vcounts_2 3), .int .i64 (Go.Proofs.Ytlljmgphgmklcaa.GoA.nth vcounts_2 4), .int .i64 (Go.Proofs.Ytlljmgphgmklcaa.GoA.nth vcounts_2 5)]) := Lib.hid (by rw [← hwb13_13]; exact Sb13_13.out.1)
      have Gb13_13 : Hid (wt_9.grownBy wb13_13 (Value.slice (some ⟨w.heap.size, 0, none⟩) 1 1).ownBlock) := Lib.hid (by rw [← hwb13_13]; exact Sb13_13.out.2)
      have HBwb13_13 := Lib.hid (HBwt_9.out.grown Gb13_13.out HBwt_9.out.size (fun q hq => (Ot_0.out.lt q hq).1))
      clear Sb13_13
      replace Ocounts_2 := Lib.hid (own_other Ocounts_2.out Gb13_13.out (Apart.symm Dcounts_2_t_0.out))
      clear Ot_0 Gb13_13
      have kt_0_0__779 : wb13_13.cell? ⟨w.heap.size, 0, none⟩ = some (.int .i64 (Go.Proofs.Ytlljmgphgmklcaa.GoA.nth vcounts_2 0)) := Pb13_13.out.cells rfl 0 _ rfl
      have kt_0_1__780 : wb13_13.cell? ⟨w.heap.size, 1, none⟩ = some (.int .i64 (Go.Proofs.Ytlljmgphgmklcaa.GoA.nth vcounts_2 1)) := Pb13_13.out.cells rfl 1 _ rfl
      have kt_0_2__781 : wb13_13.cell? ⟨w.heap.size, 2, none⟩ = some (.int .i64 (Go.Proofs.Ytlljmgphgmklcaa.GoA.nth vcounts_2 2)) := Pb13_13.out.cells rfl 2 _ rfl
      have kt_0_3__782 : wb13_13.cell? ⟨w.heap.size, 3, none⟩ = some (.int .i64 (Go.Proofs.Ytlljmgphgmklcaa.GoA.nth vcounts_2 3)) := Pb13_13.out.cells rfl 3 _ rfl
      have kt_0_4__783 : wb13_13.cell? ⟨w.heap.size, 4, none⟩ = some (.int .i64 (Go.Proofs.Ytlljmgphgmklcaa.GoA.nth vcounts_2 4)) := Pb13_13.out.cells rfl 4 _ rfl
      have kt_0_5__784 : wb13_13.cell? ⟨w.heap.size, 5, none⟩ = some (.int .i64 (Go.Proofs.Ytlljmgphgmklcaa.GoA.nth vcounts_2 5)) := Pb13_13.out.cells rfl 5 _ rfl
      cases ret_hid H
      go_wp2_with fail
      (try simp only [Exit.inBlock, Exit.then])
      refine bodyPost_ret (v := .tuple #[.agg #[.int .i64 (Go.Proofs.Ytlljmgphgmklcaa.GoA.nth vcounts_2 0), .int .i64 (Go.Proofs.Ytlljmgphgmklcaa.GoA.nth vcounts_2 1), .int .i64 (Go.Proofs.Ytlljmgphgmklcaa.GoA.nth vcounts_2 2), .int .i64 (Go.Proofs.Ytlljmgphgmklcaa.GoA.nth vcounts_2 3), .int .i64 (Go.Proofs.Ytlljmgphgmklcaa.GoA.nth vcounts_2 4), .int .i64 (Go.Proofs.Ytlljmgphgmklcaa.GoA.nth vcounts_2 5)], .bool false]) ?hr_ ?hd_ ?_
      case hd_ => rfl
      case hr_ => simp [results, Try.results41, kt_0_0__779, kt_0_1__780, kt_0_2__781, kt_0_3__782, kt_0_4__783, kt_0_5__784, go_sem]
      exact ⟨rfl, HBwb13_13.out⟩
    | true =>
      replace H := let_hid H
      obtain ⟨t_10, ht_10, H⟩ := H
      obtain rfl : t_10 = false := ht_10.symm
      replace H := app_hid H
      replace H := ite_f H
      go_wp2_with fail
      go_wp2_with fail
      go_loopg [23] (list.length) (fun m_ v23_ wr => ∃ (k0 : Nat) (counts_8l0 : (List Int)), k0 + m_ = list.length ∧ v23_ = .int .i64 (k0 : Int) ∧ Hid (cntK (l0 rates mails list) m_ k0 (counts_8l0) (e0 ) = some (r0, r1)) ∧ Hid (Below w.heap.size w wr) ∧ wr.cell? ⟨w.heap.size, 0, none⟩ = some (.int .i64 0) ∧ wr.cell? ⟨w.heap.size, 1, none⟩ = some (.int .i64 0) ∧ wr.cell? ⟨w.heap.size, 2, none⟩ = some (.int .i64 0) ∧ wr.cell? ⟨w.heap.size, 3, none⟩ = some (.int .i64 0) ∧ wr.cell? ⟨w.heap.size, 4, none⟩ = some (.int .i64 0) ∧ wr.cell? ⟨w.heap.size, 5, none⟩ = some (.int .i64 0) ∧ Hid (wr.ownsRow w.heap.size 57 6 (.slice (some ⟨w.heap.size, 0, none⟩) 1 1) 1 [.int .i64 0, .int .i64 0, .int .i64 0, .int .i64 0, .int .i64 0, .int .i64 0]) ∧ Hid (wr.ownsRow w.heap.size 57 1 (.slice (some ⟨w_t_0.heap.size, 0, none⟩) 6 6) 6 (Go.Proofs.Ytlljmgphgmklcaa.HelpInt.iv counts_8l0)) ∧ Hid (counts_8l0.length = 6) ∧ Hid (Apart (some ⟨w_t_0.heap.size, 0, none⟩) (some ⟨w.heap.size, 0, none⟩)))
      case atStart => exact ⟨0, _, by omega, rfl, H, HBwt_9, kt_0_0__755, kt_0_1__756, kt_0_2__757, kt_0_3__758, kt_0_4__759, kt_0_5__760, Ot_0, Ocounts_2, Lib.hid (ncounts_2.out), Lib.hid Dcounts_2_t_0.out⟩
      case round =>
        obtain ⟨k0, counts_8l0, hkm0, rfl, H, HBwr0, kt_0_0__755, kt_0_1__756, kt_0_2__757, kt_0_3__758, kt_0_4__759, kt_0_5__760, Ot_0, Ocounts_8l0, hncounts_8l0, Dcounts_8l0_t_0⟩ := hrel
        rename World => wr0
        cases gk with
        | zero =>
          obtain rfl : k0 = list.length := by omega
          have hc0 : decide (((list.length : Nat) : Int) < ((list.length : Nat) : Int)) = false := by simp
          replace H := cnt_zero H
          unfold e0 at H
          replace H := let_hid H
          obtain ⟨_, rfl, H⟩ := H
          have ka_785 : wr0.cell? ⟨w_t_0.heap.size, 0, none⟩ = some (.int .i64 (Go.Proofs.Ytlljmgphgmklcaa.GoA.nth counts_8l0 0)) := Go.Proofs.Ytlljmgphgmklcaa.GoA.row_at Ocounts_8l0.out hncounts_8l0.out 0 (by omega)
          have ka_786 : wr0.cell? ⟨w_t_0.heap.size, 1, none⟩ = some (.int .i64 (Go.Proofs.Ytlljmgphgmklcaa.GoA.nth counts_8l0 1)) := Go.Proofs.Ytlljmgphgmklcaa.GoA.row_at Ocounts_8l0.out hncounts_8l0.out 1 (by omega)
          have ka_787 : wr0.cell? ⟨w_t_0.heap.size, 2, none⟩ = some (.int .i64 (Go.Proofs.Ytlljmgphgmklcaa.GoA.nth counts_8l0 2)) := Go.Proofs.Ytlljmgphgmklcaa.GoA.row_at Ocounts_8l0.out hncounts_8l0.out 2 (by omega)
          have ka_788 : wr0.cell? ⟨w_t_0.heap.size, 3, none⟩ = some (.int .i64 (Go.Proofs.Ytlljmgphgmklcaa.GoA.nth counts_8l0 3)) := Go.Proofs.Ytlljmgphgmklcaa.GoA.row_at Ocounts_8l0.out hncounts_8l0.out 3 (by omega)
          have ka_789 : wr0.cell? ⟨w_t_0.heap.size, 4, none⟩ = some (.int .i64 (Go.Proofs.Ytlljmgphgmklcaa.GoA.nth counts_8l0 4)) := Go.Proofs.Ytlljmgphgmklcaa.GoA.row_at Ocounts_8l0.out hncounts_8l0.out 4 (by omega)
          have ka_790 : wr0.cell? ⟨w_t_0.heap.size, 5, none⟩ = some (.int .i64 (Go.Proofs.Ytlljmgphgmklcaa.GoA.nth counts_8l0 5)) := Go.Proofs.Ytlljmgphgmklcaa.GoA.row_at Ocounts_8l0.out hncounts_8l0.out 5 (by omega)
          obtain ⟨wb35_35, hwb35_35⟩ : ∃ x, ((((((wr0).setCell ⟨w.heap.size, 0, none⟩ (.int .i64 (Go.Proofs.Ytlljmgphgmklcaa.GoA.nth counts_8l0 0))).setCell ⟨w.heap.size, 1, none⟩ (.int .i64 (Go.Proofs.Ytlljmgphgmklcaa.GoA.nth counts_8l0 1))).setCell ⟨w.heap.size, 2, none⟩ (.int .i64 (Go.Proofs.Ytlljmgphgmklcaa.GoA.nth counts_8l0 2))).setCell ⟨w.heap.size, 3, none⟩ (.int .i64 (Go.Proofs.Ytlljmgphgmklcaa.GoA.nth counts_8l0 3))).setCell ⟨w.heap.size, 4, none⟩ (.int .i64 (Go.Proofs.Ytlljmgphgmklcaa.GoA.nth counts_8l0 4))).setCell ⟨w.heap.size, 5, none⟩ (.int .i64 (Go.Proofs.Ytlljmgphgmklcaa.GoA.nth counts_8l0 5)) = x := ⟨_, rfl⟩
          have z0b35_35 := Ot_0.out.frozenAt 0
          have z1b35_35 := Ot_0.out.frozenAt 1
          have z2b35_35 := Ot_0.out.frozenAt 2
          have z3b35_35 := Ot_0.out.frozenAt 3
          have z4b35_35 := Ot_0.out.frozenAt 4
          have z5b35_35 := Ot_0.out.frozenAt 5
          have Sb35_35 := Lib.hid (own_stores [(0, .int .i64 (Go.Proofs.Ytlljmgphgmklcaa.GoA.nth counts_8l0 0)), (1, .int .i64 (Go.Proofs.Ytlljmgphgmklcaa.GoA.nth counts_8l0 1)), (2, .int .i64 (Go.Proofs.Ytlljmgphgmklcaa.GoA.nth counts_8l0 2)), (3, .int .i64 (Go.Proofs.Ytlljmgphgmklcaa.GoA.nth counts_8l0 3)), (4, .int .i64 (Go.Proofs.Ytlljmgphgmklcaa.GoA.nth counts_8l0 4)), (5, .int .i64 (Go.Proofs.Ytlljmgphgmklcaa.GoA.nth counts_8l0 5))] Ot_0.out)
          have Pb35_35 : Hid (wb35_35.ownsRow w.heap.size 57 6 (.slice (some ⟨w.heap.size, 0, none⟩) 1 1) 1 [.int .i64 (Go.Proofs.Ytlljmgphgmklcaa.GoA.nth counts_8l0 0), .int .i64 (Go.Proofs.Ytlljmgphgmklcaa.GoA.nth counts_8l0 1), .int .i64 (Go.Proofs.Ytlljmgphgmklcaa.GoA.nth counts_8l0 2), .int .i64 (Go.Proofs.Ytlljmgphgmklcaa.GoA.nth counts_8l0 3), .int .i64 (Go.Proofs.Ytlljmgphgmklcaa.GoA.nth counts_8l0 4), .int .i64 (Go.Proofs.Ytlljmgphgmklcaa.GoA.nth counts_8l0 5)]) := Lib.hid (by rw [← hwb35_35]; exact Sb35_35.out.1)
          have Gb35_35 : Hid (wr0.grownBy wb35_35 (Value.slice (some ⟨w.heap.size, 0, none⟩) 1 1).ownBlock) := Lib.hid (by rw [← hwb35_35]; exact Sb35_35.out.2)
          have HBwb35_35 := Lib.hid (HBwr0.out.grown Gb35_35.out HBwr0.out.size (fun q hq => (Ot_0.out.lt q hq).1))
          clear Sb35_35
          replace Ocounts_8l0 := Lib.hid (own_other Ocounts_8l0.out Gb35_35.out (Apart.symm Dcounts_8l0_t_0.out))
          clear Ot_0 Gb35_35
          have kt_0_0__791 : wb35_35.cell? ⟨w.heap.size, 0, none⟩ = some (.int .i64 (Go.Proofs.Ytlljmgphgmklcaa.GoA.nth counts_8l0 0)) := Pb35_35.out.cells rfl 0 _ rfl
          have kt_0_1__792 : wb35_35.cell? ⟨w.heap.size, 1, none⟩ = some (.int .i64 (Go.Proofs.Ytlljmgphgmklcaa.GoA.nth counts_8l0 1)) := Pb35_35.out.cells rfl 1 _ rfl
          have kt_0_2__793 : wb35_35.cell? ⟨w.heap.size, 2, none⟩ = some (.int .i64 (Go.Proofs.Ytlljmgphgmklcaa.GoA.nth counts_8l0 2)) := Pb35_35.out.cells rfl 2 _ rfl
          have kt_0_3__794 : wb35_35.cell? ⟨w.heap.size, 3, none⟩ = some (.int .i64 (Go.Proofs.Ytlljmgphgmklcaa.GoA.nth counts_8l0 3)) := Pb35_35.out.cells rfl 3 _ rfl
          have kt_0_4__795 : wb35_35.cell? ⟨w.heap.size, 4, none⟩ = some (.int .i64 (Go.Proofs.Ytlljmgphgmklcaa.GoA.nth counts_8l0 4)) := Pb35_35.out.cells rfl 4 _ rfl
          have kt_0_5__796 : wb35_35.cell? ⟨w.heap.size, 5, none⟩ = some (.int .i64 (Go.Proofs.Ytlljmgphgmklcaa.GoA.nth counts_8l0 5)) := Pb35_35.out.cells rfl 5 _ rfl
          cases ret_hid H
          go_wp2_with fail
          (try simp only [Exit.inBlock, Exit.then])
          refine bodyPost_ret (v := .tuple #[.agg #[.int .i64 (Go.Proofs.Ytlljmgphgmklcaa.GoA.nth counts_8l0 0), .int .i64 (Go.Proofs.Ytlljmgphgmklcaa.GoA.nth counts_8l0 1), .int .i64 (Go.Proofs.Ytlljmgphgmklcaa.GoA.nth counts_8l0 2), .int .i64 (Go.Proofs.Ytlljmgphgmklcaa.GoA.nth counts_8l0 3), .int .i64 (Go.Proofs.Ytlljmgphgmklcaa.GoA.nth counts_8l0 4), .int .i64 (Go.Proofs.Ytlljmgphgmklcaa.GoA.nth counts_8l0 5)], .bool true]) ?hr_ ?hd_ ?_
          case hd_ => rfl
          case hr_ => simp [results, Try.results41, kt_0_0__791, kt_0_1__792, kt_0_2__793, kt_0_3__794, kt_0_4__795, kt_0_5__796, go_sem]
          exact ⟨rfl, HBwb35_35.out⟩
        | succ m0 =>
          have hlt0 : k0 < list.length := by omega
          have hc0 : decide ((k0 : Int) < ((list.length : Nat) : Int)) = true := by simp; omega
          replace H := cnt_succ H
          unfold l0 at H
          replace H := let_hid H
          obtain ⟨_, rfl, H⟩ := H
          replace H := idx_hid H
          obtain ⟨nt_19, yt_19, et_19, lt_19, gt_19, H⟩ := H
          obtain rfl : k0 = nt_19 := by omega
          clear et_19
          obtain ⟨t_19_id, t_19_day, t_19_zone, t_19_grams, t_19_paid, t_19_from_, t_19_to_, t_19_leave, t_19_arrive⟩ := yt_19
          replace H := unCover_hid H
          obtain ⟨ab_t_19, ao_t_19, zt_19, At_19, z_t_19, ct_19_0, ct_19_1, ct_19_2, ct_19_3, ct_19_4, ct_19_5, ct_19_6, ct_19_7, ct_19_8⟩ := Go.Proofs.Ytlljmgphgmklcaa.OCover.at_ M2.out lt_19
          obtain rfl := Option.some.inj (gt_19.out.symm.trans z_t_19)
          subst At_19
          have ltt_19 := cell_lt ct_19_0
          replace ct_19_0 := cell_below HBwr0.out ct_19_0
          replace ct_19_1 := cell_below HBwr0.out ct_19_1
          replace ct_19_2 := cell_below HBwr0.out ct_19_2
          replace ct_19_3 := cell_below HBwr0.out ct_19_3
          replace ct_19_4 := cell_below HBwr0.out ct_19_4
          replace ct_19_5 := cell_below HBwr0.out ct_19_5
          replace ct_19_6 := cell_below HBwr0.out ct_19_6
          replace ct_19_7 := cell_below HBwr0.out ct_19_7
          replace ct_19_8 := cell_below HBwr0.out ct_19_8
          clear z_t_19
          have b0t_19 : (0 : Int) ≤ (k0 : Int) := by omega
          have b1t_19 : (k0 : Int) < ((list.length : Nat) : Int) := by omega
          have b2t_19 : ((k0 : Int)).toNat = k0 := by omega
          obtain ⟨w_x_21, hw_x_21⟩ : ∃ x, wr0.alloc (.cells #[.int .i64 t_19_id, .int .i64 t_19_day, .int .i64 t_19_zone, .int .i64 t_19_grams, .int .i64 t_19_paid, .int .i64 t_19_from_, .int .i64 t_19_to_, .int .i64 t_19_leave, .int .i64 t_19_arrive] 25) = x := ⟨_, rfl⟩
          have bw_x_21 : Below wr0.heap.size wr0 w_x_21 := by rw [← hw_x_21]; exact (Below.refl _ _).alloc (Nat.le_refl _) _
          have Dx_21_counts_8l0 := Lib.hid (apart_fresh Ocounts_8l0.out)
          have Dx_21_t_0 := Lib.hid (apart_box kt_0_0__755)
          have HBw_x_21 := Lib.hid (Below.step HBwr0.out bw_x_21)
          have kt_0_0__797 := cell_below bw_x_21 kt_0_0__755
          have kt_0_1__798 := cell_below bw_x_21 kt_0_1__756
          have kt_0_2__799 := cell_below bw_x_21 kt_0_2__757
          have kt_0_3__800 := cell_below bw_x_21 kt_0_3__758
          have kt_0_4__801 := cell_below bw_x_21 kt_0_4__759
          have kt_0_5__802 := cell_below bw_x_21 kt_0_5__760
          have ct_19_0__803 := cell_below bw_x_21 ct_19_0
          have ct_19_1__804 := cell_below bw_x_21 ct_19_1
          have ct_19_2__805 := cell_below bw_x_21 ct_19_2
          have ct_19_3__806 := cell_below bw_x_21 ct_19_3
          have ct_19_4__807 := cell_below bw_x_21 ct_19_4
          have ct_19_5__808 := cell_below bw_x_21 ct_19_5
          have ct_19_6__809 := cell_below bw_x_21 ct_19_6
          have ct_19_7__810 := cell_below bw_x_21 ct_19_7
          have ct_19_8__811 := cell_below bw_x_21 ct_19_8
          replace Ocounts_8l0 := Lib.hid (own_below Ocounts_8l0.out bw_x_21)
          replace Ot_0 := Lib.hid (own_below Ot_0.out bw_x_21)
          clear bw_x_21
          have kx_21_0 : w_x_21.cell? ⟨wr0.heap.size, 0, none⟩ = some (.int .i64 t_19_id) := by rw [← hw_x_21]; exact box_new _ _ _ 0 _ rfl
          have kx_21_1 : w_x_21.cell? ⟨wr0.heap.size, 1, none⟩ = some (.int .i64 t_19_day) := by rw [← hw_x_21]; exact box_new _ _ _ 1 _ rfl
          have kx_21_2 : w_x_21.cell? ⟨wr0.heap.size, 2, none⟩ = some (.int .i64 t_19_zone) := by rw [← hw_x_21]; exact box_new _ _ _ 2 _ rfl
          have kx_21_3 : w_x_21.cell? ⟨wr0.heap.size, 3, none⟩ = some (.int .i64 t_19_grams) := by rw [← hw_x_21]; exact box_new _ _ _ 3 _ rfl
          have kx_21_4 : w_x_21.cell? ⟨wr0.heap.size, 4, none⟩ = some (.int .i64 t_19_paid) := by rw [← hw_x_21]; exact box_new _ _ _ 4 _ rfl
          have kx_21_5 : w_x_21.cell? ⟨wr0.heap.size, 5, none⟩ = some (.int .i64 t_19_from_) := by rw [← hw_x_21]; exact box_new _ _ _ 5 _ rfl
          have kx_21_6 : w_x_21.cell? ⟨wr0.heap.size, 6, none⟩ = some (.int .i64 t_19_to_) := by rw [← hw_x_21]; exact box_new _ _ _ 6 _ rfl
          have kx_21_7 : w_x_21.cell? ⟨wr0.heap.size, 7, none⟩ = some (.int .i64 t_19_leave) := by rw [← hw_x_21]; exact box_new _ _ _ 7 _ rfl
          have kx_21_8 : w_x_21.cell? ⟨wr0.heap.size, 8, none⟩ = some (.int .i64 t_19_arrive) := by rw [← hw_x_21]; exact box_new _ _ _ 8 _ rfl
          replace H := bind_hid H
          obtain ⟨t_26, qt_26, H⟩ := H
          go_wp2_with fail
          clear kt_0_0__755 kt_0_1__756 kt_0_2__757 kt_0_3__758 kt_0_4__759 kt_0_5__760 ct_19_0 ct_19_1 ct_19_2 ct_19_3 ct_19_4 ct_19_5 ct_19_6 ct_19_7 ct_19_8
          go_at_call 95
          refine (Go.Proofs.Ytlljmgphgmklcaa.GiFaultOn.C (rates) (mails) ((Go.Proofs.Ytlljmgphgmklcaa.PCover.Cover.mk t_19_id t_19_day t_19_zone t_19_grams t_19_paid t_19_from_ t_19_to_ t_19_leave t_19_arrive)) A0 c0 A1 c1 _   (Lib.hid (Cells.below M0.out HBw_x_21.out)) N0 (Lib.hid (Cells.below M1.out HBw_x_21.out)) N1 qt_26).mono ?_
          rintro e_t_26 wt_26 ⟨rfl, bt_26⟩
          have HBwt_26 := Lib.hid (Below.step HBw_x_21.out bt_26)
          replace kt_0_0__797 := cell_below bt_26 kt_0_0__797
          replace kt_0_1__798 := cell_below bt_26 kt_0_1__798
          replace kt_0_2__799 := cell_below bt_26 kt_0_2__799
          replace kt_0_3__800 := cell_below bt_26 kt_0_3__800
          replace kt_0_4__801 := cell_below bt_26 kt_0_4__801
          replace kt_0_5__802 := cell_below bt_26 kt_0_5__802
          replace ct_19_0__803 := cell_below bt_26 ct_19_0__803
          replace ct_19_1__804 := cell_below bt_26 ct_19_1__804
          replace ct_19_2__805 := cell_below bt_26 ct_19_2__805
          replace ct_19_3__806 := cell_below bt_26 ct_19_3__806
          replace ct_19_4__807 := cell_below bt_26 ct_19_4__807
          replace ct_19_5__808 := cell_below bt_26 ct_19_5__808
          replace ct_19_6__809 := cell_below bt_26 ct_19_6__809
          replace ct_19_7__810 := cell_below bt_26 ct_19_7__810
          replace ct_19_8__811 := cell_below bt_26 ct_19_8__811
          replace kx_21_0 := cell_below bt_26 kx_21_0
          replace kx_21_1 := cell_below bt_26 kx_21_1
          replace kx_21_2 := cell_below bt_26 kx_21_2
          replace kx_21_3 := cell_below bt_26 kx_21_3
          replace kx_21_4 := cell_below bt_26 kx_21_4
          replace kx_21_5 := cell_below bt_26 kx_21_5
          replace kx_21_6 := cell_below bt_26 kx_21_6
          replace kx_21_7 := cell_below bt_26 kx_21_7
          replace kx_21_8 := cell_below bt_26 kx_21_8
          replace Ocounts_8l0 := Lib.hid (own_below Ocounts_8l0.out bt_26)
          replace Ot_0 := Lib.hid (own_below Ot_0.out bt_26)
          clear bt_26
          replace H := idx_hid H
          obtain ⟨nt_27, yt_27, et_27, lt_27, gt_27, H⟩ := H
          subst et_27
          have hqt_27 := hncounts_8l0.out
          obtain ⟨ab_t_27, ao_t_27, zt_27, At_27, z_t_27, ct_27_0⟩ := Go.Proofs.Ytlljmgphgmklcaa.HelpInt.Ints.at_ (own_cells Ocounts_8l0.out) (k := nt_27) (by omega)
          obtain rfl := Option.some.inj (gt_27.out.symm.trans z_t_27)
          simp only [Option.some.injEq, Addr.mk.injEq] at At_27
          obtain ⟨rfl, rfl, _⟩ := At_27
          clear z_t_27
          simp only [Nat.zero_add] at ct_27_0
          have b0t_27 : (0 : Int) ≤ (nt_27 : Int) := by omega
          have b1t_27 : (nt_27 : Int) < ((6 : Nat) : Int) := by omega
          have b2t_27 : ((nt_27 : Int)).toNat = nt_27 := by omega
          clear hqt_27
          have b3t_27 : nt_27 < 6 := by have h_ := lt_27; have hn_ := hncounts_8l0.out; omega
          have b4t_27 : (nt_27 : Int) < (6 : Int) := by omega
          replace H := let_hid H
          obtain ⟨t_29, ht_29, H⟩ := H
          replace H := idx_hid H
          obtain ⟨nt_30, yt_30, et_30, lt_30, gt_30, H⟩ := H
          obtain rfl : nt_27 = nt_30 := by omega
          clear et_30
          obtain rfl := Option.some.inj (gt_27.out.symm.trans gt_30.out)
          clear gt_30 lt_30
          have b3t_30 : nt_27 < 6 := by have h_ := lt_27; have hn_ := hncounts_8l0.out; omega
          have b4t_30 : (nt_27 : Int) < (6 : Int) := by omega
          replace H := let_hid H
          obtain ⟨l31_31, hl31_31, H⟩ := H
          try simp only [Int.toNat_natCast] at hl31_31
          obtain ⟨wl31_31, hwl31_31⟩ : ∃ x, (wt_26).setCell ⟨w_t_0.heap.size, nt_27, none⟩ (.int .i64 t_29) = x := ⟨_, rfl⟩
          have z0l31_31 := Ocounts_8l0.out.frozenAt (nt_27)
          have Sl31_31 := Lib.hid (own_stores [(nt_27, .int .i64 t_29)] Ocounts_8l0.out)
          have nl31_31 : Hid (l31_31.length = 6) := Lib.hid (by rw [← hl31_31, List.length_set]; exact hncounts_8l0.out)
          have Pl31_31 : Hid (wl31_31.ownsRow w.heap.size 57 1 (.slice (some ⟨w_t_0.heap.size, 0, none⟩) 6 6) 6 (Go.Proofs.Ytlljmgphgmklcaa.HelpInt.iv l31_31)) := Lib.hid (by have e_ : ([(nt_27, .int .i64 t_29)] : List (Nat × Value)).foldl (fun xs p => xs.set p.1 p.2) (Go.Proofs.Ytlljmgphgmklcaa.HelpInt.iv counts_8l0) = (Go.Proofs.Ytlljmgphgmklcaa.HelpInt.iv l31_31) := (by rw [← hl31_31]; first | done | simp [Go.Proofs.Ytlljmgphgmklcaa.HelpInt.iv, List.map_set]); rw [← hwl31_31, ← e_]; exact Sl31_31.out.1)
          have Gl31_31 : Hid (wt_26.grownBy wl31_31 (Value.slice (some ⟨w_t_0.heap.size, 0, none⟩) 6 6).ownBlock) := Lib.hid (by rw [← hwl31_31]; exact Sl31_31.out.2)
          have HBwl31_31 := Lib.hid (HBwt_26.out.grown Gl31_31.out HBwt_26.out.size (fun q hq => (Ocounts_8l0.out.lt q hq).1))
          have hhl31_31 := Lib.hid hl31_31
          clear hl31_31 Sl31_31
          have kt_0_0__812 := cell_other kt_0_0__797 Gl31_31.out Dcounts_8l0_t_0.out
          have kt_0_1__813 := cell_other kt_0_1__798 Gl31_31.out Dcounts_8l0_t_0.out
          have kt_0_2__814 := cell_other kt_0_2__799 Gl31_31.out Dcounts_8l0_t_0.out
          have kt_0_3__815 := cell_other kt_0_3__800 Gl31_31.out Dcounts_8l0_t_0.out
          have kt_0_4__816 := cell_other kt_0_4__801 Gl31_31.out Dcounts_8l0_t_0.out
          have kt_0_5__817 := cell_other kt_0_5__802 Gl31_31.out Dcounts_8l0_t_0.out
          have ct_19_0__818 := cell_other ct_19_0__803 Gl31_31.out (apart_old Ocounts_8l0.out ltt_19)
          have ct_19_1__819 := cell_other ct_19_1__804 Gl31_31.out (apart_old Ocounts_8l0.out ltt_19)
          have ct_19_2__820 := cell_other ct_19_2__805 Gl31_31.out (apart_old Ocounts_8l0.out ltt_19)
          have ct_19_3__821 := cell_other ct_19_3__806 Gl31_31.out (apart_old Ocounts_8l0.out ltt_19)
          have ct_19_4__822 := cell_other ct_19_4__807 Gl31_31.out (apart_old Ocounts_8l0.out ltt_19)
          have ct_19_5__823 := cell_other ct_19_5__808 Gl31_31.out (apart_old Ocounts_8l0.out ltt_19)
          have ct_19_6__824 := cell_other ct_19_6__809 Gl31_31.out (apart_old Ocounts_8l0.out ltt_19)
          have ct_19_7__825 := cell_other ct_19_7__810 Gl31_31.out (apart_old Ocounts_8l0.out ltt_19)
          have ct_19_8__826 := cell_other ct_19_8__811 Gl31_31.out (apart_old Ocounts_8l0.out ltt_19)
          have kx_21_0__827 := cell_other kx_21_0 Gl31_31.out (Apart.symm Dx_21_counts_8l0.out)
          have kx_21_1__828 := cell_other kx_21_1 Gl31_31.out (Apart.symm Dx_21_counts_8l0.out)
          have kx_21_2__829 := cell_other kx_21_2 Gl31_31.out (Apart.symm Dx_21_counts_8l0.out)
          have kx_21_3__830 := cell_other kx_21_3 Gl31_31.out (Apart.symm Dx_21_counts_8l0.out)
          have kx_21_4__831 := cell_other kx_21_4 Gl31_31.out (Apart.symm Dx_21_counts_8l0.out)
          have kx_21_5__832 := cell_other kx_21_5 Gl31_31.out (Apart.symm Dx_21_counts_8l0.out)
          have kx_21_6__833 := cell_other kx_21_6 Gl31_31.out (Apart.symm Dx_21_counts_8l0.out)
          have kx_21_7__834 := cell_other kx_21_7 Gl31_31.out (Apart.symm Dx_21_counts_8l0.out)
          have kx_21_8__835 := cell_other kx_21_8 Gl31_31.out (Apart.symm Dx_21_counts_8l0.out)
          replace Ot_0 := Lib.hid (own_other Ot_0.out Gl31_31.out Dcounts_8l0_t_0.out)
          clear Ocounts_8l0 Gl31_31
          replace H := app_hid H
          go_wp2_with fail
          clear z0l31_31 kt_0_0__797 kt_0_1__798 kt_0_2__799 kt_0_3__800 kt_0_4__801 kt_0_5__802 ct_19_0__803 ct_19_1__804 ct_19_2__805 ct_19_3__806 ct_19_4__807 ct_19_5__808 ct_19_6__809 ct_19_7__810 ct_19_8__811 kx_21_0 kx_21_1 kx_21_2 kx_21_3 kx_21_4 kx_21_5 kx_21_6 kx_21_7 kx_21_8 ct_27_0
          go_roundg m0
          case measure => omega
          case rel => exact ⟨k0 + 1, _, by omega, by go_num, H, HBwl31_31, kt_0_0__812, kt_0_1__813, kt_0_2__814, kt_0_3__815, kt_0_4__816, kt_0_5__817, Ot_0, Pl31_31, Lib.hid (nl31_31.out), Lib.hid Dcounts_8l0_t_0.out⟩
end Go.Proofs.Ytlljmgphgmklcaa.GiFaultCounts

/- loop.example/g01062/laws.eqIntA6 as a plain function, and the contract of the program's: where the plain one has an answer, the program has it. Conditions: slices read as lists. -/
namespace Go.Proofs.Ytlljmgphgmklcaa.GlEqIntA6
set_option linter.unusedVariables false
set_option linter.unusedSimpArgs false
open Go.RowKit
open Go.Proofs.Ytlljmgphgmklcaa.Rowed Go.Proofs.Ytlljmgphgmklcaa.Turn Go.Proofs.Ytlljmgphgmklcaa.Aid Go.Proofs.Ytlljmgphgmklcaa.GoP Go.Proofs.Ytlljmgphgmklcaa.GoM

def l0 (va_0 : (List Int)) (vb_1 : (List Int)) (k0 : Nat) (s : Unit) (nx0 bk0 : Unit → Option (Bool)) : Option (Bool) :=
  
  Option.bind (idx va_0 (k0 : Int)) fun (yt_7 : Int) =>
  Option.bind (idx vb_1 (k0 : Int)) fun (yt_10 : Int) =>
  letK (yt_7 != yt_10) fun (t_12 : Bool) =>
  iteK t_12
  (some false)
  (appK nx0 ())

def e0  (s : Unit) : Option (Bool) :=
  
  some true

def P (a : Go.Proofs.Ytlljmgphgmklcaa.PIntA6.IntA6) (b : Go.Proofs.Ytlljmgphgmklcaa.PIntA6.IntA6) : Option (Bool) :=
  unIntA6 a fun (a_x0 : Int) (a_x1 : Int) (a_x2 : Int) (a_x3 : Int) (a_x4 : Int) (a_x5 : Int) =>
  unIntA6 b fun (b_x0 : Int) (b_x1 : Int) (b_x2 : Int) (b_x3 : Int) (b_x4 : Int) (b_x5 : Int) =>
  letK ([a_x0, a_x1, a_x2, a_x3, a_x4, a_x5]) fun (va_0 : (List Int)) =>
  letK ([b_x0, b_x1, b_x2, b_x3, b_x4, b_x5]) fun (vb_1 : (List Int)) =>
  cntK (l0 va_0 vb_1) (6) 0 () (e0 )

set_option maxRecDepth 100000 in
set_option maxHeartbeats 2000000 in
theorem C (a : Go.Proofs.Ytlljmgphgmklcaa.PIntA6.IntA6) (b : Go.Proofs.Ytlljmgphgmklcaa.PIntA6.IntA6)   (w : World)   {r : Bool} (H : Hid (P a b = some r)) :
    Calls Try.prog 42 #[a.val, b.val] w (Gives (.bool r) w) := by
  have HB := Lib.hid (Below.refl w.heap.size w)
  unfold P at H
  obtain ⟨a_x0, a_x1, a_x2, a_x3, a_x4, a_x5⟩ := a
  replace H := unIntA6_hid H
  obtain ⟨b_x0, b_x1, b_x2, b_x3, b_x4, b_x5⟩ := b
  replace H := unIntA6_hid H
  unfold Go.Proofs.Ytlljmgphgmklcaa.PIntA6.IntA6.val
  go_enter Try.func42, Try.ntmps42
  replace H := let_hid H
  obtain ⟨va_0, hva_0, H⟩ := H
  obtain ⟨w_a_0, hw_a_0⟩ : ∃ x, w.alloc (.cells #[.int .i64 a_x0, .int .i64 a_x1, .int .i64 a_x2, .int .i64 a_x3, .int .i64 a_x4, .int .i64 a_x5] 57) = x := ⟨_, rfl⟩
  have bw_a_0 : Below w.heap.size w w_a_0 := by rw [← hw_a_0]; exact (Below.refl _ _).alloc (Nat.le_refl _) _
  have hs_a_0 := HB.out.size
  have na_0 : va_0.length = 6 := by rw [← hva_0]; rfl
  have Oa_0 : Hid (w_a_0.ownsRow w.heap.size 57 1 (.slice (some ⟨w.heap.size, 0, none⟩) 6 6) 6 (Go.Proofs.Ytlljmgphgmklcaa.HelpInt.iv va_0)) := by
    rw [← hw_a_0, ← hva_0]
    have e_ : ([.int .i64 a_x0, .int .i64 a_x1, .int .i64 a_x2, .int .i64 a_x3, .int .i64 a_x4, .int .i64 a_x5] : List Value) = Go.Proofs.Ytlljmgphgmklcaa.HelpInt.iv [a_x0, a_x1, a_x2, a_x3, a_x4, a_x5] := rfl
    exact Lib.hid (own_laid (n := 6) hs_a_0 e_ rfl (by unfold maxLen; omega))
  clear hs_a_0
  have hha_0 := Lib.hid hva_0
  clear hva_0
  replace na_0 := Lib.hid na_0
  have HBw_a_0 := Lib.hid (Below.step HB.out bw_a_0)
  clear bw_a_0
  replace H := let_hid H
  obtain ⟨vb_1, hvb_1, H⟩ := H
  obtain ⟨w_b_1, hw_b_1⟩ : ∃ x, w_a_0.alloc (.cells #[.int .i64 b_x0, .int .i64 b_x1, .int .i64 b_x2, .int .i64 b_x3, .int .i64 b_x4, .int .i64 b_x5] 57) = x := ⟨_, rfl⟩
  have bw_b_1 : Below w_a_0.heap.size w_a_0 w_b_1 := by rw [← hw_b_1]; exact (Below.refl _ _).alloc (Nat.le_refl _) _
  have hs_b_1 := HBw_a_0.out.size
  have nb_1 : vb_1.length = 6 := by rw [← hvb_1]; rfl
  have Ob_1 : Hid (w_b_1.ownsRow w.heap.size 57 1 (.slice (some ⟨w_a_0.heap.size, 0, none⟩) 6 6) 6 (Go.Proofs.Ytlljmgphgmklcaa.HelpInt.iv vb_1)) := by
    rw [← hw_b_1, ← hvb_1]
    have e_ : ([.int .i64 b_x0, .int .i64 b_x1, .int .i64 b_x2, .int .i64 b_x3, .int .i64 b_x4, .int .i64 b_x5] : List Value) = Go.Proofs.Ytlljmgphgmklcaa.HelpInt.iv [b_x0, b_x1, b_x2, b_x3, b_x4, b_x5] := rfl
    exact Lib.hid (own_laid (n := 6) hs_b_1 e_ rfl (by unfold maxLen; omega))
  clear hs_b_1
  have hhb_1 := Lib.hid hvb_1
  clear hvb_1
  replace nb_1 := Lib.hid nb_1
  have Db_1_a_0 := Lib.hid (apart_fresh Oa_0.out)
  have HBw_b_1 := Lib.hid (Below.step HBw_a_0.out bw_b_1)
  replace Oa_0 := Lib.hid (own_below Oa_0.out bw_b_1)
  clear bw_b_1
  go_wp2_with fail
  go_loopg [5] (6) (fun m_ v5_ wr => ∃ (k0 : Nat) , k0 + m_ = 6 ∧ v5_ = .int .i64 (k0 : Int) ∧ Hid (cntK (l0 va_0 vb_1) m_ k0 () (e0 ) = some r) ∧ Hid (Below w.heap.size w wr) ∧ Hid (wr.ownsRow w.heap.size 57 1 (.slice (some ⟨w.heap.size, 0, none⟩) 6 6) 6 (Go.Proofs.Ytlljmgphgmklcaa.HelpInt.iv va_0)) ∧ Hid (wr.ownsRow w.heap.size 57 1 (.slice (some ⟨w_a_0.heap.size, 0, none⟩) 6 6) 6 (Go.Proofs.Ytlljmgphgmklcaa.HelpInt.iv vb_1)))
  case atStart => exact ⟨0, by omega, rfl, H, HBw_b_1, Oa_0, Ob_1⟩
  case round =>
    obtain ⟨k0, hkm0, rfl, H, HBwr0, Oa_0, Ob_1⟩ := hrel
    rename World => wr0
    cases gk with
    | zero =>
      obtain rfl : k0 = 6 := by omega
      have hc0 : decide (((6 : Nat) : Int) < ((6 : Nat) : Int)) = false := by simp
      replace H := cnt_zero H
      unfold e0 at H
      obtain rfl := ret_hid H
      go_wp2_with fail
      go_ret
      exact ⟨rfl, HBwr0.out⟩
    | succ m0 =>
      have hlt0 : k0 < 6 := by omega
      have hc0 : decide ((k0 : Int) < ((6 : Nat) : Int)) = true := by simp; omega
      replace H := cnt_succ H
      have hd0 : decide ((k0 : Int) < 6) = true := by simp; omega
      unfold l0 at H
      go_wp2_with fail
      replace H := idx_hid H
      obtain ⟨nt_7, yt_7, et_7, lt_7, gt_7, H⟩ := H
      obtain rfl : k0 = nt_7 := by omega
      clear et_7
      have hqt_7 := na_0.out
      obtain ⟨ab_t_7, ao_t_7, zt_7, At_7, z_t_7, ct_7_0⟩ := Go.Proofs.Ytlljmgphgmklcaa.HelpInt.Ints.at_ (own_cells Oa_0.out) (k := k0) (by omega)
      obtain rfl := Option.some.inj (gt_7.out.symm.trans z_t_7)
      simp only [Option.some.injEq, Addr.mk.injEq] at At_7
      obtain ⟨rfl, rfl, _⟩ := At_7
      clear z_t_7
      simp only [Nat.zero_add] at ct_7_0
      have b0t_7 : (0 : Int) ≤ (k0 : Int) := by omega
      have b1t_7 : (k0 : Int) < ((6 : Nat) : Int) := by omega
      have b2t_7 : ((k0 : Int)).toNat = k0 := by omega
      clear hqt_7
      have Hct_7_0 := Lib.hid ct_7_0
      replace ct_7_0 := cell_regrown ct_7_0
      have b3t_7 : k0 < 6 := by have h_ := lt_7; have hn_ := na_0.out; omega
      have b4t_7 : (k0 : Int) < (6 : Int) := by omega
      replace H := idx_hid H
      obtain ⟨nt_10, yt_10, et_10, lt_10, gt_10, H⟩ := H
      obtain rfl : k0 = nt_10 := by omega
      clear et_10
      have hqt_10 := nb_1.out
      obtain ⟨ab_t_10, ao_t_10, zt_10, At_10, z_t_10, ct_10_0⟩ := Go.Proofs.Ytlljmgphgmklcaa.HelpInt.Ints.at_ (own_cells Ob_1.out) (k := k0) (by omega)
      obtain rfl := Option.some.inj (gt_10.out.symm.trans z_t_10)
      simp only [Option.some.injEq, Addr.mk.injEq] at At_10
      obtain ⟨rfl, rfl, _⟩ := At_10
      clear z_t_10
      simp only [Nat.zero_add] at ct_10_0
      have b0t_10 : (0 : Int) ≤ (k0 : Int) := by omega
      have b1t_10 : (k0 : Int) < ((6 : Nat) : Int) := by omega
      have b2t_10 : ((k0 : Int)).toNat = k0 := by omega
      clear hqt_10
      have Hct_10_0 := Lib.hid ct_10_0
      replace ct_10_0 := cell_regrown ct_10_0
      have b3t_10 : k0 < 6 := by have h_ := lt_10; have hn_ := nb_1.out; omega
      have b4t_10 : (k0 : Int) < (6 : Int) := by omega
      replace H := let_hid H
      obtain ⟨t_12, ht_12, H⟩ := H
      refine wp_region_quiet_below (by kernel_rfl) (by kernel_rfl) ?_
      repeat (go_big_quiet_step (fail))
      refine wpQuiet_nil ?_
      intro Y4 hY4
      replace hY4 := below_class hY4
      replace ct_7_0 := Hct_7_0.out
      clear Hct_7_0
      replace ct_10_0 := Hct_10_0.out
      clear Hct_10_0
      have HBY4 := Lib.hid (Below.step HBwr0.out hY4)
      replace ct_7_0 := cell_below hY4 ct_7_0
      replace ct_10_0 := cell_below hY4 ct_10_0
      replace Oa_0 := Lib.hid (own_below Oa_0.out hY4)
      replace Ob_1 := Lib.hid (own_below Ob_1.out hY4)
      clear hY4
      cases t_12 with
      | false =>
        replace H := ite_f H
        replace H := app_hid H
        go_wp2_with fail
        go_roundg m0
        case measure => omega
        case rel => exact ⟨k0 + 1, by omega, by go_num, H, HBY4, Oa_0, Ob_1⟩
      | true =>
        replace H := ite_t H
        obtain rfl := ret_hid H
        go_wp2_with fail
        go_ret
        exact ⟨rfl, HBY4.out⟩
end Go.Proofs.Ytlljmgphgmklcaa.GlEqIntA6

