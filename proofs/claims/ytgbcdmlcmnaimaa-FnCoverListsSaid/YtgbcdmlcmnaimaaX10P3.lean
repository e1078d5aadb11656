/- Texts on which the proofs of several laws stand, one behind the other (3 of 18). No condition of their own. -/
import Derived.Test.YtgbcdmlcmnaimaaChecked
import Derived.Test.YtgbcdmlcmnaimaaX10P1
import Derived.Test.YtgbcdmlcmnaimaaX10P2
import Derived.WalkKit
import Derived.WalkSpells
import Derived.WalkLawsBesides
import Derived.BigQuiet
import Derived.OwnWalk
import Derived.Deep.LoopGhost
import Derived.Deep.QuietTactic
import Derived.IntWalk
import Derived.Lib.QuietBelow
import Derived.Deep.DeepCutAuto
import Derived.Deep.RegionHeld3
import Derived.Lib.SliceRun
import Derived.Deep.AppendLies
set_option linter.unusedVariables false
set_option linter.unusedSimpArgs false
namespace Go.Proofs.Ytgbcdmlcmnaimaa.GsL1CurRates
open Go.RowKit
open Go.Proofs.Ytgbcdmlcmnaimaa.Rowed Go.Proofs.Ytgbcdmlcmnaimaa.Turn Go.Proofs.Ytgbcdmlcmnaimaa.Aid Go.Proofs.Ytgbcdmlcmnaimaa.GoP Go.Proofs.Ytgbcdmlcmnaimaa.GoM

def q1 (k0 : Nat) (nx1 : ((List Go.Proofs.Ytgbcdmlcmnaimaa.PRate.Rate) × Go.Proofs.Ytgbcdmlcmnaimaa.GoC.Tape) → Option ((List Go.Proofs.Ytgbcdmlcmnaimaa.PRate.Rate) × Go.Proofs.Ytgbcdmlcmnaimaa.GoC.Tape)) (list_3q0 : (List Go.Proofs.Ytgbcdmlcmnaimaa.PRate.Rate)) (t_29_grams : Int) (t_29_until_ : Int) (s : Bool × Go.Proofs.Ytgbcdmlcmnaimaa.GoC.Tape) : Option ((List Go.Proofs.Ytgbcdmlcmnaimaa.PRate.Rate) × Go.Proofs.Ytgbcdmlcmnaimaa.GoC.Tape) :=
  unp2 s fun t_43q1 c0_c0q1 =>
  iteK t_43q1
  (letK ([1, 1, 3]) fun (t_48 : (List Int)) =>
  bind2 (Go.Proofs.Ytgbcdmlcmnaimaa.GsL1CurAmong.P c0_c0q1 t_48) fun (t_49 : Int) (t_49_tp : Go.Proofs.Ytgbcdmlcmnaimaa.GoC.Tape) =>
  letK (IntKind.i64.wrap (t_29_until_ + t_49)) fun (t_50 : Int) =>
  bind2 (Go.Proofs.Ytgbcdmlcmnaimaa.GsL1CurRate.P t_49_tp (k0 : Int) t_29_grams t_50) fun (t_51 : Go.Proofs.Ytgbcdmlcmnaimaa.PRate.Rate) (t_51_tp : Go.Proofs.Ytgbcdmlcmnaimaa.GoC.Tape) =>
  unRate t_51 fun (t_51_zone : Int) (t_51_grams : Int) (t_51_from_ : Int) (t_51_until_ : Int) (t_51_cents : Int) =>
  guardK (list_3q0.length ≤ 1099511627776) <|
  letK (list_3q0 ++ [(Go.Proofs.Ytgbcdmlcmnaimaa.PRate.Rate.mk t_51_zone t_51_grams t_51_from_ t_51_until_ t_51_cents)]) fun (t_53 : (List Go.Proofs.Ytgbcdmlcmnaimaa.PRate.Rate)) =>
  appK nx1 (t_53, t_51_tp))
  (appK nx1 (list_3q0, c0_c0q1))

def q0 (k0 : Nat) (nx1 : ((List Go.Proofs.Ytgbcdmlcmnaimaa.PRate.Rate) × Go.Proofs.Ytgbcdmlcmnaimaa.GoC.Tape) → Option ((List Go.Proofs.Ytgbcdmlcmnaimaa.PRate.Rate) × Go.Proofs.Ytgbcdmlcmnaimaa.GoC.Tape)) (s : (List Go.Proofs.Ytgbcdmlcmnaimaa.PRate.Rate) × Go.Proofs.Ytgbcdmlcmnaimaa.GoC.Tape) : Option ((List Go.Proofs.Ytgbcdmlcmnaimaa.PRate.Rate) × Go.Proofs.Ytgbcdmlcmnaimaa.GoC.Tape) :=
  unp2 s fun list_3q0 c0_c0q0 =>
  letK (IntKind.i64.wrap ((list_3q0.length : Int) - 1)) fun (t_28 : Int) =>
  Option.bind (idx list_3q0 t_28) fun (yt_29 : Go.Proofs.Ytgbcdmlcmnaimaa.PRate.Rate) =>
  unRate yt_29 fun (t_29_zone : Int) (t_29_grams : Int) (t_29_from_ : Int) (t_29_until_ : Int) (t_29_cents : Int) =>
  bind2 (Go.Proofs.Ytgbcdmlcmnaimaa.GsL1CurOne.P c0_c0q0 2) fun (t_34 : Bool) (t_34_tp : Go.Proofs.Ytgbcdmlcmnaimaa.GoC.Tape) =>
  joinK (fun (t_39 : Bool) =>
  q1 k0 nx1 list_3q0 t_29_grams t_29_until_ (t_39, t_34_tp)) fun jt_39 => iteK t_34 (letK (decide (t_29_until_ < 30)) fun (t_38 : Bool) =>
  appK jt_39 t_38) (appK jt_39 false)

def l1 (k0 : Nat) (k1 : Nat) (s : (List Go.Proofs.Ytgbcdmlcmnaimaa.PRate.Rate) × Go.Proofs.Ytgbcdmlcmnaimaa.GoC.Tape) (nx1 bk1 : (List Go.Proofs.Ytgbcdmlcmnaimaa.PRate.Rate) × Go.Proofs.Ytgbcdmlcmnaimaa.GoC.Tape → Option ((List Go.Proofs.Ytgbcdmlcmnaimaa.PRate.Rate) × Go.Proofs.Ytgbcdmlcmnaimaa.GoC.Tape)) : Option ((List Go.Proofs.Ytgbcdmlcmnaimaa.PRate.Rate) × Go.Proofs.Ytgbcdmlcmnaimaa.GoC.Tape) :=
  unp2 s fun list_3l1 c0_c0l1 =>
  bind2 (Go.Proofs.Ytgbcdmlcmnaimaa.GsL1CurOne.P c0_c0l1 2) fun (t_10 : Bool) (t_10_tp : Go.Proofs.Ytgbcdmlcmnaimaa.GoC.Tape) =>
  iteK t_10
  (letK ([20, 50, 100]) fun (t_14 : (List Int)) =>
  Option.bind (idx t_14 (k1 : Int)) fun (yt_16 : Int) =>
  letK ([0, 0, 5]) fun (t_19 : (List Int)) =>
  bind2 (Go.Proofs.Ytgbcdmlcmnaimaa.GsL1CurAmong.P t_10_tp t_19) fun (t_20 : Int) (t_20_tp : Go.Proofs.Ytgbcdmlcmnaimaa.GoC.Tape) =>
  bind2 (Go.Proofs.Ytgbcdmlcmnaimaa.GsL1CurRate.P t_20_tp (k0 : Int) yt_16 t_20) fun (t_21 : Go.Proofs.Ytgbcdmlcmnaimaa.PRate.Rate) (t_21_tp : Go.Proofs.Ytgbcdmlcmnaimaa.GoC.Tape) =>
  unRate t_21 fun (t_21_zone : Int) (t_21_grams : Int) (t_21_from_ : Int) (t_21_until_ : Int) (t_21_cents : Int) =>
  guardK (list_3l1.length ≤ 1099511627776) <|
  letK (list_3l1 ++ [(Go.Proofs.Ytgbcdmlcmnaimaa.PRate.Rate.mk t_21_zone t_21_grams t_21_from_ t_21_until_ t_21_cents)]) fun (t_23 : (List Go.Proofs.Ytgbcdmlcmnaimaa.PRate.Rate)) =>
  q0 k0 nx1 (t_23, t_21_tp))
  (appK nx1 (list_3l1, t_10_tp))

def e1 (nx0 : ((List Go.Proofs.Ytgbcdmlcmnaimaa.PRate.Rate) × Go.Proofs.Ytgbcdmlcmnaimaa.GoC.Tape) → Option ((List Go.Proofs.Ytgbcdmlcmnaimaa.PRate.Rate) × Go.Proofs.Ytgbcdmlcmnaimaa.GoC.Tape)) (s : (List Go.Proofs.Ytgbcdmlcmnaimaa.PRate.Rate) × Go.Proofs.Ytgbcdmlcmnaimaa.GoC.Tape) : Option ((List Go.Proofs.Ytgbcdmlcmnaimaa.PRate.Rate) × Go.Proofs.Ytgbcdmlcmnaimaa.GoC.Tape) :=
  unp2 s fun list_3l1 c0_c0l1 =>
  appK nx0 (list_3l1, c0_c0l1)

def l0  (k0 : Nat) (s : (List Go.Proofs.Ytgbcdmlcmnaimaa.PRate.Rate) × Go.Proofs.Ytgbcdmlcmnaimaa.GoC.Tape) (nx0 bk0 : (List Go.Proofs.Ytgbcdmlcmnaimaa.PRate.Rate) × Go.Proofs.Ytgbcdmlcmnaimaa.GoC.Tape → Option ((List Go.Proofs.Ytgbcdmlcmnaimaa.PRate.Rate) × Go.Proofs.Ytgbcdmlcmnaimaa.GoC.Tape)) : Option ((List Go.Proofs.Ytgbcdmlcmnaimaa.PRate.Rate) × Go.Proofs.Ytgbcdmlcmnaimaa.GoC.Tape) :=
  unp2 s fun list_3l0 c0_c0l0 =>
  cntK (l1 k0) (3) 0 (list_3l0, c0_c0l0) (e1 nx0)

def l2  (s : (List Go.Proofs.Ytgbcdmlcmnaimaa.PRate.Rate) × Go.Proofs.Ytgbcdmlcmnaimaa.GoC.Tape) (nx2 bk2 : (List Go.Proofs.Ytgbcdmlcmnaimaa.PRate.Rate) × Go.Proofs.Ytgbcdmlcmnaimaa.GoC.Tape → Option ((List Go.Proofs.Ytgbcdmlcmnaimaa.PRate.Rate) × Go.Proofs.Ytgbcdmlcmnaimaa.GoC.Tape)) : Option ((List Go.Proofs.Ytgbcdmlcmnaimaa.PRate.Rate) × Go.Proofs.Ytgbcdmlcmnaimaa.GoC.Tape) :=
  unp2 s fun list_3l2 c0_c0l2 =>
  bind2 (Go.Proofs.Ytgbcdmlcmnaimaa.GsL1CurPick.P c0_c0l2 2) fun (t_82 : Int) (t_82_tp : Go.Proofs.Ytgbcdmlcmnaimaa.GoC.Tape) =>
  letK (IntKind.i64.wrap (16 + t_82)) fun (t_83 : Int) =>
  letK (decide ((list_3l2.length : Int) < t_83)) fun (t_84 : Bool) =>
  iteK t_84
  (letK (IntKind.i64.wrap (10 + (list_3l2.length : Int))) fun (t_88 : Int) =>
  guardK (list_3l2.length ≤ 1099511627776) <|
  letK (list_3l2 ++ [(Go.Proofs.Ytgbcdmlcmnaimaa.PRate.Rate.mk 8 t_88 0 7 4)]) fun (t_91 : (List Go.Proofs.Ytgbcdmlcmnaimaa.PRate.Rate)) =>
  appK nx2 (t_91, t_82_tp))
  (appK bk2 (list_3l2, t_82_tp))

def e2  (s : (List Go.Proofs.Ytgbcdmlcmnaimaa.PRate.Rate) × Go.Proofs.Ytgbcdmlcmnaimaa.GoC.Tape) : Option ((List Go.Proofs.Ytgbcdmlcmnaimaa.PRate.Rate) × Go.Proofs.Ytgbcdmlcmnaimaa.GoC.Tape) :=
  unp2 s fun list_3l2 c0_c0l2 =>
  some (list_3l2, c0_c0l2)

def e0 (fuel : Nat) (s : (List Go.Proofs.Ytgbcdmlcmnaimaa.PRate.Rate) × Go.Proofs.Ytgbcdmlcmnaimaa.GoC.Tape) : Option ((List Go.Proofs.Ytgbcdmlcmnaimaa.PRate.Rate) × Go.Proofs.Ytgbcdmlcmnaimaa.GoC.Tape) :=
  unp2 s fun list_3l0 c0_c0l0 =>
  bind2 (Go.Proofs.Ytgbcdmlcmnaimaa.GsL1CurPick.P c0_c0l0 32) fun (t_62 : Int) (t_62_tp : Go.Proofs.Ytgbcdmlcmnaimaa.GoC.Tape) =>
  letK (t_62 == 0) fun (t_63 : Bool) =>
  iteK t_63
  (letK ([(-1), 2, 9, 10]) fun (t_68 : (List Int)) =>
  bind2 (Go.Proofs.Ytgbcdmlcmnaimaa.GsL1CurAmong.P t_62_tp t_68) fun (t_69 : Int) (t_69_tp : Go.Proofs.Ytgbcdmlcmnaimaa.GoC.Tape) =>
  letK ([0, 100, 2000, 2001]) fun (t_71 : (List Int)) =>
  bind2 (Go.Proofs.Ytgbcdmlcmnaimaa.GsL1CurAmong.P t_69_tp t_71) fun (t_72 : Int) (t_72_tp : Go.Proofs.Ytgbcdmlcmnaimaa.GoC.Tape) =>
  bind2 (Go.Proofs.Ytgbcdmlcmnaimaa.GsL1CurRate.P t_72_tp t_69 t_72 3) fun (t_73 : Go.Proofs.Ytgbcdmlcmnaimaa.PRate.Rate) (t_73_tp : Go.Proofs.Ytgbcdmlcmnaimaa.GoC.Tape) =>
  unRate t_73 fun (t_73_zone : Int) (t_73_grams : Int) (t_73_from_ : Int) (t_73_until_ : Int) (t_73_cents : Int) =>
  guardK (list_3l0.length ≤ 1099511627776) <|
  letK (list_3l0 ++ [(Go.Proofs.Ytgbcdmlcmnaimaa.PRate.Rate.mk t_73_zone t_73_grams t_73_from_ t_73_until_ t_73_cents)]) fun (t_75 : (List Go.Proofs.Ytgbcdmlcmnaimaa.PRate.Rate)) =>
  some (t_75, t_73_tp))
  (letK (t_62 == 1) fun (t_77 : Bool) =>
  iteK t_77
  (loopK (l2 ) fuel (list_3l0, t_62_tp) (e2 ))
  (some (list_3l0, t_62_tp)))

def P (fuel : Nat) (c : Go.Proofs.Ytgbcdmlcmnaimaa.GoC.Tape) : Option ((List Go.Proofs.Ytgbcdmlcmnaimaa.PRate.Rate) × Go.Proofs.Ytgbcdmlcmnaimaa.GoC.Tape) :=
  cntK (l0 ) (3) 0 (([] : List Go.Proofs.Ytgbcdmlcmnaimaa.PRate.Rate), c) (e0 fuel)

set_option maxRecDepth 100000 in
set_option maxHeartbeats 20000000 in
theorem C (fuel : Nat) (c : Go.Proofs.Ytgbcdmlcmnaimaa.GoC.Tape)   (g0 : Nat) (Ac0 : Option Addr) (cc0 : Nat) (bc0 : Nat) (w : World)   (K0 : Hid (Go.Proofs.Ytgbcdmlcmnaimaa.GoC.CurIs w bc0 g0 Ac0 cc0 c)) {r : (List Go.Proofs.Ytgbcdmlcmnaimaa.PRate.Rate)} {t_ : Go.Proofs.Ytgbcdmlcmnaimaa.GoC.Tape} (H : Hid (P fuel c = some (r, t_))) :
    Calls Try.prog 34 #[.pointer (some ⟨g0, 0, none⟩)] w (fun e w' => ∃ A_r c_r, e = .returned (.slice A_r r.length c_r) ∧ w'.ownsRow w.heap.size 92 5 (.slice A_r r.length c_r) r.length (Go.Proofs.Ytgbcdmlcmnaimaa.PRate.flat r) ∧ Go.Proofs.Ytgbcdmlcmnaimaa.GoC.CurIs w' bc0 g0 Ac0 cc0 t_ ∧ w.grownBy w' (Value.slice (some ⟨g0, 0, none⟩) 1 1).ownBlock) := by
  have HB := Lib.hid (Aid.grown_refl w (Value.slice (some ⟨g0, 0, none⟩) 1 1).ownBlock); unfold P at H; have L0 : bc0 ≤ w.heap.size := (by have := Go.Proofs.Ytgbcdmlcmnaimaa.GoC.cur_lt K0.out; omega); obtain ⟨i0_92, hi_92, hz0_92, hz1_92, hz2_92⟩ := Aid.info_parts (P := Try.prog) (T := 92) (z := .agg #[.int .i64 0, .int .i64 0, .int .i64 0, .int .i64 0, .int .i64 0]) (s := 5) (b := 40) (by kernel_rfl)
  go_enter Try.func34, Try.ntmps34
  obtain ⟨w_t_1, hw_t_1⟩ : ∃ x, w.alloc (.cells #[] 92) = x := ⟨_, rfl⟩; have bw_t_1 : Below w.heap.size w w_t_1 := (by rw [← hw_t_1]; exact (Below.refl _ _).alloc (Nat.le_refl _) _); have Ot_1 : Hid (w_t_1.ownsRow w.heap.size 92 5 (.slice (some ⟨w.heap.size, 0, none⟩) 0 0) 0 []) := Lib.hid (by rw [← hw_t_1]; exact own_empty HB.out.size); have Dt_1_c0 := Lib.hid (Go.Proofs.Ytgbcdmlcmnaimaa.GoC.apart_cur K0.out); have HBw_t_1 := Lib.hid (grown_below HB.out bw_t_1); replace K0 := Lib.hid (Go.Proofs.Ytgbcdmlcmnaimaa.GoC.cur_below K0.out bw_t_1); clear bw_t_1; go_wp2_with fail; go_loopg [4, 3] (3) (fun m_ v4_ v3_ wr => ∃ (k0 : Nat) (list_3l0 : (List Go.Proofs.Ytgbcdmlcmnaimaa.PRate.Rate)) (c0_c0l0 : Go.Proofs.Ytgbcdmlcmnaimaa.GoC.Tape) (Alist_3l0 : Option Addr) (clist_3l0 : Nat), k0 + m_ = 3 ∧ v4_ = .int .i64 (k0 : Int) ∧ v3_ = .slice Alist_3l0 list_3l0.length clist_3l0 ∧ Hid (cntK (l0 ) m_ k0 (list_3l0, c0_c0l0) (e0 fuel) = some (r, t_)) ∧ Hid (w.grownBy wr (Value.slice (some ⟨g0, 0, none⟩) 1 1).ownBlock) ∧ Hid (wr.ownsRow w.heap.size 92 5 (.slice Alist_3l0 list_3l0.length clist_3l0) list_3l0.length (Go.Proofs.Ytgbcdmlcmnaimaa.PRate.flat list_3l0)) ∧ Hid (Apart Alist_3l0 (some ⟨g0, 0, none⟩)) ∧ Hid (Go.Proofs.Ytgbcdmlcmnaimaa.GoC.CurIs wr bc0 g0 Ac0 cc0 c0_c0l0))
  case atStart => exact ⟨0, _, _, _, _, by omega, rfl, rfl, H, HBw_t_1, Ot_1, Lib.hid Dt_1_c0.out, K0⟩
  case round =>
    obtain ⟨k0, list_3l0, c0_c0l0, Alist_3l0, clist_3l0, hkm0, rfl, rfl, H, HBwr0, Olist_3l0, Dlist_3l0_c0, Kl0_0⟩ := hrel; rename World => wr0
    cases gk with
    | zero =>
      obtain rfl : k0 = 3 := (by omega); have hc0 : decide (((3 : Nat) : Int) < ((3 : Nat) : Int)) = false := (by simp); replace H := cnt_zero H; unfold e0 at H; replace H := unp2_hid H; replace H := bind2_hid H; obtain ⟨t_62, t_62_tp, qt_62, H⟩ := H; go_wp2_with fail; go_at_call 63; refine (Go.Proofs.Ytgbcdmlcmnaimaa.GsL1CurPick.C (c0_c0l0) (32) (g0) (Ac0) (cc0) (bc0) _   Kl0_0 qt_62).mono ?_; rintro e_t_62 wt_62 ⟨rfl, kt_62, gt_62⟩; have Kt_62 := Lib.hid kt_62; have Gt_62 : Hid (wr0.grownBy wt_62 (Value.slice (some ⟨g0, 0, none⟩) 1 1).ownBlock) := Lib.hid gt_62; clear kt_62 gt_62; have HBwt_62 := Lib.hid (Aid.grown_tr HBwr0.out Gt_62.out); replace Olist_3l0 := Lib.hid (own_other Olist_3l0.out Gt_62.out (Apart.symm Dlist_3l0_c0.out)); clear Kl0_0 Gt_62; replace H := let_hid H; obtain ⟨t_63, ht_63, H⟩ := H
      cases t_63 with
      | false =>
        replace H := ite_f H; replace H := let_hid H; obtain ⟨t_77, ht_77, H⟩ := H
        cases t_77 with
        | false =>
          replace H := ite_f H; cases ret_hid H; go_wp2_with fail; go_ret; exact ⟨Alist_3l0, clist_3l0, rfl, Olist_3l0.out, Kt_62.out, HBwt_62.out⟩
        | true =>
          replace H := ite_t H; go_wp2_with fail; go_loopg [3] (fuel) (fun m_ v3_ wr => ∃ (list_3l2 : (List Go.Proofs.Ytgbcdmlcmnaimaa.PRate.Rate)) (c0_c0l2 : Go.Proofs.Ytgbcdmlcmnaimaa.GoC.Tape) (Alist_3l2 : Option Addr) (clist_3l2 : Nat), v3_ = .slice Alist_3l2 list_3l2.length clist_3l2 ∧ Hid (loopK (l2 ) m_ (list_3l2, c0_c0l2) (e2 ) = some (r, t_)) ∧ Hid (w.grownBy wr (Value.slice (some ⟨g0, 0, none⟩) 1 1).ownBlock) ∧ Hid (wr.ownsRow w.heap.size 92 5 (.slice Alist_3l2 list_3l2.length clist_3l2) list_3l2.length (Go.Proofs.Ytgbcdmlcmnaimaa.PRate.flat list_3l2)) ∧ Hid (Apart Alist_3l2 (some ⟨g0, 0, none⟩)) ∧ Hid (Go.Proofs.Ytgbcdmlcmnaimaa.GoC.CurIs wr bc0 g0 Ac0 cc0 c0_c0l2))
          case atStart => exact ⟨_, _, _, _, rfl, H, HBwt_62, Olist_3l0, Lib.hid Dlist_3l0_c0.out, Kt_62⟩
          case round =>
            obtain ⟨list_3l2, c0_c0l2, Alist_3l2, clist_3l2, rfl, H, HBwr2, Olist_3l2, Dlist_3l2_c0, Kl2_0⟩ := hrel; rename World => wr2
            cases gk with
            | zero => exact (loop_zero H).elim
            | succ m2 =>
              replace H := loop_succ H; unfold l2 at H; replace H := unp2_hid H; replace H := bind2_hid H; obtain ⟨t_82, t_82_tp, qt_82, H⟩ := H; go_wp2_with fail; go_at_call 63; refine (Go.Proofs.Ytgbcdmlcmnaimaa.GsL1CurPick.C (c0_c0l2) (2) (g0) (Ac0) (cc0) (bc0) _   Kl2_0 qt_82).mono ?_; rintro e_t_82 wt_82 ⟨rfl, kt_82, gt_82⟩; have Kt_82 := Lib.hid kt_82; have Gt_82 : Hid (wr2.grownBy wt_82 (Value.slice (some ⟨g0, 0, none⟩) 1 1).ownBlock) := Lib.hid gt_82; clear kt_82 gt_82; have HBwt_82 := Lib.hid (Aid.grown_tr HBwr2.out Gt_82.out); replace Olist_3l2 := Lib.hid (own_other Olist_3l2.out Gt_82.out (Apart.symm Dlist_3l2_c0.out)); clear Kl2_0 Gt_82; replace H := let_hid H; obtain ⟨t_83, ht_83, H⟩ := H; replace H := let_hid H; obtain ⟨t_84, ht_84, H⟩ := H
              cases t_84 with
              | false =>
                replace H := ite_f H; replace H := app_hid H; unfold e2 at H; replace H := unp2_hid H; cases ret_hid H; go_wp2_with fail; go_ret; exact ⟨Alist_3l2, clist_3l2, rfl, Olist_3l2.out, Kt_82.out, HBwt_82.out⟩
              | true =>
                replace H := ite_t H; replace H := let_hid H; obtain ⟨t_88, ht_88, H⟩ := H; obtain ⟨w_t_90, hw_t_90⟩ : ∃ x, wt_82.alloc (.cells #[.int .i64 8, .int .i64 t_88, .int .i64 0, .int .i64 7, .int .i64 4] 92) = x := ⟨_, rfl⟩; have bw_t_90 : Below wt_82.heap.size wt_82 w_t_90 := (by rw [← hw_t_90]; exact (Below.refl _ _).alloc (Nat.le_refl _) _); have HBw_t_90 := Lib.hid (grown_below HBwt_82.out bw_t_90); replace Olist_3l2 := Lib.hid (own_below Olist_3l2.out bw_t_90); replace Kt_82 := Lib.hid (Go.Proofs.Ytgbcdmlcmnaimaa.GoC.cur_below Kt_82.out bw_t_90); clear bw_t_90; replace H := guard_hid H; obtain ⟨hlt_91, H⟩ := H; replace H := let_hid H; obtain ⟨t_91, ht_91, H⟩ := H; have hht_91 := Lib.hid ht_91; clear ht_91; have hst_91 := HBw_t_90.out.size; go_wp2_with (at_builtin; refine wpList_append_own_at _ rfl _ _ 24 rfl w.heap.size 92 i0_92 (.agg #[.int .i64 0, .int .i64 0, .int .i64 0, .int .i64 0, .int .i64 0]) 5 40 Try.underlying24 hi_92 hz0_92 hz1_92 hz2_92 rfl (by decide) _ _ _ rfl Olist_3l2.out ⟨wt_82.heap.size, 0, none⟩ 1 1 [.int .i64 8, .int .i64 t_88, .int .i64 0, .int .i64 7, .int .i64 4] rfl rfl (news_new hw_t_90) (one_cells rfl) (by unfold maxLen; omega) (by omega) hst_91 ?_; intro vt_91 wt_91 ot_91 gt_91 zt_91 yt_91; clear zt_91; obtain ⟨qt_91, ct_91, rfl, pt_91⟩ := own_push hht_91.out (Go.Proofs.Ytgbcdmlcmnaimaa.PRate.flat_snoc _ _) rfl ot_91; have Pt_91 := Lib.hid pt_91; have Yt_91 := Lib.hid yt_91; have Gt_91 := Lib.hid gt_91; clear ot_91 gt_91 pt_91 yt_91; refine stop_in ?_); refine stop_out ?_; have HBwt_91 := Lib.hid (Go.Proofs.Ytgbcdmlcmnaimaa.GoC.grown_new HBw_t_90.out Gt_91.out (Go.Proofs.Ytgbcdmlcmnaimaa.GoC.own_ge Olist_3l2.out)); clear hst_91; have Dt_91_c0 : Hid (Apart (some ⟨qt_91, 0, none⟩) _) := Lib.hid (apart_app Dlist_3l2_c0.out (fun a_ ha_ => by cases ha_; exact (Go.Proofs.Ytgbcdmlcmnaimaa.GoC.cur_lt Kt_82.out).2) Yt_91.out); replace Kt_82 := Lib.hid (Go.Proofs.Ytgbcdmlcmnaimaa.GoC.cur_otherO Kt_82.out Gt_91.out Dlist_3l2_c0.out L0 Olist_3l2.out); clear Olist_3l2 Yt_91 Gt_91; replace H := app_hid H; go_wp2_with fail
                go_roundg m2
                case measure => omega
                case rel => exact ⟨_, _, _, _, rfl, H, HBwt_91, Pt_91, Lib.hid Dt_91_c0.out, Kt_82⟩
      | true =>
        replace H := ite_t H; replace H := let_hid H; obtain ⟨t_68, ht_68, H⟩ := H; obtain ⟨w_t_68, hw_t_68⟩ : ∃ x, wt_62.alloc (.cells #[.int .i64 (-1), .int .i64 2, .int .i64 9, .int .i64 10] 3) = x := ⟨_, rfl⟩; have bw_t_68 : Below wt_62.heap.size wt_62 w_t_68 := (by rw [← hw_t_68]; exact (Below.refl _ _).alloc (Nat.le_refl _) _); have hs_t_68 := HBwt_62.out.size; have nt_68 : t_68.length = 4 := (by rw [← ht_68]; rfl)
        have Ot_68 : Hid (w_t_68.ownsRow w.heap.size 3 1 (.slice (some ⟨wt_62.heap.size, 0, none⟩) 4 4) 4 (Go.Proofs.Ytgbcdmlcmnaimaa.HelpInt.iv t_68)) := by
          rw [← hw_t_68, ← ht_68]; have e_ : ([.int .i64 (-1), .int .i64 2, .int .i64 9, .int .i64 10] : List Value) = (Go.Proofs.Ytgbcdmlcmnaimaa.HelpInt.iv ([(-1), 2, 9, 10] : List Int)) := rfl; exact Lib.hid (own_laid (n := 4) hs_t_68 e_ rfl (by unfold maxLen; omega))
        clear hs_t_68; have hht_68 := Lib.hid ht_68; clear ht_68; replace nt_68 := Lib.hid nt_68; have Dt_68_list_3l0 := Lib.hid (apart_fresh Olist_3l0.out); have Dt_68_c0 := Lib.hid (Go.Proofs.Ytgbcdmlcmnaimaa.GoC.apart_cur Kt_62.out); have HBw_t_68 := Lib.hid (grown_below HBwt_62.out bw_t_68); replace Olist_3l0 := Lib.hid (own_below Olist_3l0.out bw_t_68); replace Kt_62 := Lib.hid (Go.Proofs.Ytgbcdmlcmnaimaa.GoC.cur_below Kt_62.out bw_t_68); clear bw_t_68; replace H := bind2_hid H; obtain ⟨t_69, t_69_tp, qt_69, H⟩ := H; go_wp2_with fail; have hc0_ := nt_68.out; have Oct_69_1 := Lib.hid (own_len hc0_ Ot_68.out); have con_ := Go.Proofs.Ytgbcdmlcmnaimaa.GsL1CurAmong.C (t_62_tp) (t_68) (some ⟨wt_62.heap.size, 0, none⟩) 4 (g0) (Ac0) (cc0) (bc0) _   (Lib.hid (own_cells Oct_69_1.out)) (Lib.hid (own_max Oct_69_1.out)) Kt_62 (Lib.hid (fun _ => Dt_68_c0.out)) qt_69; rw [hc0_] at con_; clear hc0_ Oct_69_1; go_at_call 56; refine con_.mono ?_; rintro e_t_69 wt_69 ⟨rfl, kt_69, gt_69⟩; have Kt_69 := Lib.hid kt_69; have Gt_69 : Hid (w_t_68.grownBy wt_69 (Value.slice (some ⟨g0, 0, none⟩) 1 1).ownBlock) := Lib.hid gt_69; clear kt_69 gt_69; have HBwt_69 := Lib.hid (Aid.grown_tr HBw_t_68.out Gt_69.out); replace Olist_3l0 := Lib.hid (own_other Olist_3l0.out Gt_69.out (Apart.symm Dlist_3l0_c0.out)); replace Ot_68 := Lib.hid (own_other Ot_68.out Gt_69.out (Apart.symm Dt_68_c0.out)); clear Kt_62 Gt_69; replace H := let_hid H; obtain ⟨t_71, ht_71, H⟩ := H; obtain ⟨w_t_71, hw_t_71⟩ : ∃ x, wt_69.alloc (.cells #[.int .i64 0, .int .i64 100, .int .i64 2000, .int .i64 2001] 3) = x := ⟨_, rfl⟩; have bw_t_71 : Below wt_69.heap.size wt_69 w_t_71 := (by rw [← hw_t_71]; exact (Below.refl _ _).alloc (Nat.le_refl _) _); have hs_t_71 := HBwt_69.out.size; have nt_71 : t_71.length = 4 := (by rw [← ht_71]; rfl)
        have Ot_71 : Hid (w_t_71.ownsRow w.heap.size 3 1 (.slice (some ⟨wt_69.heap.size, 0, none⟩) 4 4) 4 (Go.Proofs.Ytgbcdmlcmnaimaa.HelpInt.iv t_71)) := by
          rw [← hw_t_71, ← ht_71]; have e_ : ([.int .i64 0, .int .i64 100, .int .i64 2000, .int .i64 2001] : List Value) = (Go.Proofs.Ytgbcdmlcmnaimaa.HelpInt.iv ([0, 100, 2000, 2001] : List Int)) := rfl; exact Lib.hid (own_laid (n := 4) hs_t_71 e_ rfl (by unfold maxLen; omega))
        clear hs_t_71; have hht_71 := Lib.hid ht_71; clear ht_71; replace nt_71 := Lib.hid nt_71; have Dt_71_list_3l0 := Lib.hid (apart_fresh Olist_3l0.out); have Dt_71_t_68 := Lib.hid (apart_fresh Ot_68.out); have Dt_71_c0 := Lib.hid (Go.Proofs.Ytgbcdmlcmnaimaa.GoC.apart_cur Kt_69.out); have HBw_t_71 := Lib.hid (grown_below HBwt_69.out bw_t_71); replace Olist_3l0 := Lib.hid (own_below Olist_3l0.out bw_t_71); replace Ot_68 := Lib.hid (own_below Ot_68.out bw_t_71); replace Kt_69 := Lib.hid (Go.Proofs.Ytgbcdmlcmnaimaa.GoC.cur_below Kt_69.out bw_t_71); clear bw_t_71; replace H := bind2_hid H; obtain ⟨t_72, t_72_tp, qt_72, H⟩ := H; go_wp2_with fail; have hc0_ := nt_71.out; have Oct_72_1 := Lib.hid (own_len hc0_ Ot_71.out); have con_ := Go.Proofs.Ytgbcdmlcmnaimaa.GsL1CurAmong.C (t_69_tp) (t_71) (some ⟨wt_69.heap.size, 0, none⟩) 4 (g0) (Ac0) (cc0) (bc0) _   (Lib.hid (own_cells Oct_72_1.out)) (Lib.hid (own_max Oct_72_1.out)) Kt_69 (Lib.hid (fun _ => Dt_71_c0.out)) qt_72; rw [hc0_] at con_; clear hc0_ Oct_72_1; go_at_call 56; refine con_.mono ?_; rintro e_t_72 wt_72 ⟨rfl, kt_72, gt_72⟩; have Kt_72 := Lib.hid kt_72; have Gt_72 : Hid (w_t_71.grownBy wt_72 (Value.slice (some ⟨g0, 0, none⟩) 1 1).ownBlock) := Lib.hid gt_72; clear kt_72 gt_72; have HBwt_72 := Lib.hid (Aid.grown_tr HBw_t_71.out Gt_72.out); replace Olist_3l0 := Lib.hid (own_other Olist_3l0.out Gt_72.out (Apart.symm Dlist_3l0_c0.out)); replace Ot_68 := Lib.hid (own_other Ot_68.out Gt_72.out (Apart.symm Dt_68_c0.out)); replace Ot_71 := Lib.hid (own_other Ot_71.out Gt_72.out (Apart.symm Dt_71_c0.out)); clear Kt_69 Gt_72; replace H := bind2_hid H; obtain ⟨t_73, t_73_tp, qt_73, H⟩ := H; obtain ⟨t_73_zone, t_73_grams, t_73_from_, t_73_until_, t_73_cents⟩ := t_73; replace H := unRate_hid H; go_wp2_with fail; go_at_call 76; refine (Go.Proofs.Ytgbcdmlcmnaimaa.GsL1CurRate.C (t_72_tp) (t_69) (t_72) (3) (g0) (Ac0) (cc0) (bc0) _   Kt_72 qt_73).mono ?_; rintro e_t_73 wt_73 ⟨rfl, kt_73, gt_73⟩; unfold Go.Proofs.Ytgbcdmlcmnaimaa.PRate.Rate.val; have Kt_73 := Lib.hid kt_73; have Gt_73 : Hid (wt_72.grownBy wt_73 (Value.slice (some ⟨g0, 0, none⟩) 1 1).ownBlock) := Lib.hid gt_73; clear kt_73 gt_73; have HBwt_73 := Lib.hid (Aid.grown_tr HBwt_72.out Gt_73.out); replace Olist_3l0 := Lib.hid (own_other Olist_3l0.out Gt_73.out (Apart.symm Dlist_3l0_c0.out)); replace Ot_68 := Lib.hid (own_other Ot_68.out Gt_73.out (Apart.symm Dt_68_c0.out)); replace Ot_71 := Lib.hid (own_other Ot_71.out Gt_73.out (Apart.symm Dt_71_c0.out)); clear Kt_72 Gt_73; obtain ⟨w_t_74, hw_t_74⟩ : ∃ x, wt_73.alloc (.cells #[.int .i64 t_73_zone, .int .i64 t_73_grams, .int .i64 t_73_from_, .int .i64 t_73_until_, .int .i64 t_73_cents] 92) = x := ⟨_, rfl⟩; have bw_t_74 : Below wt_73.heap.size wt_73 w_t_74 := (by rw [← hw_t_74]; exact (Below.refl _ _).alloc (Nat.le_refl _) _); have HBw_t_74 := Lib.hid (grown_below HBwt_73.out bw_t_74); replace Olist_3l0 := Lib.hid (own_below Olist_3l0.out bw_t_74); replace Ot_68 := Lib.hid (own_below Ot_68.out bw_t_74); replace Ot_71 := Lib.hid (own_below Ot_71.out bw_t_74); replace Kt_73 := Lib.hid (Go.Proofs.Ytgbcdmlcmnaimaa.GoC.cur_below Kt_73.out bw_t_74); clear bw_t_74; replace H := guard_hid H; obtain ⟨hlt_75, H⟩ := H; replace H := let_hid H; obtain ⟨t_75, ht_75, H⟩ := H; have hht_75 := Lib.hid ht_75; clear ht_75; have hst_75 := HBw_t_74.out.size; go_wp2_with (at_builtin; refine wpList_append_own_at _ rfl _ _ 24 rfl w.heap.size 92 i0_92 (.agg #[.int .i64 0, .int .i64 0, .int .i64 0, .int .i64 0, .int .i64 0]) 5 40 Try.underlying24 hi_92 hz0_92 hz1_92 hz2_92 rfl (by decide) _ _ _ rfl Olist_3l0.out ⟨wt_73.heap.size, 0, none⟩ 1 1 [.int .i64 t_73_zone, .int .i64 t_73_grams, .int .i64 t_73_from_, .int .i64 t_73_until_, .int .i64 t_73_cents] rfl rfl (news_new hw_t_74) (one_cells rfl) (by unfold maxLen; omega) (by omega) hst_75 ?_; intro vt_75 wt_75 ot_75 gt_75 zt_75 yt_75; clear zt_75; obtain ⟨qt_75, ct_75, rfl, pt_75⟩ := own_push hht_75.out (Go.Proofs.Ytgbcdmlcmnaimaa.PRate.flat_snoc _ _) rfl ot_75; have Pt_75 := Lib.hid pt_75; have Yt_75 := Lib.hid yt_75; have Gt_75 := Lib.hid gt_75; clear ot_75 gt_75 pt_75 yt_75; refine stop_in ?_)
        refine stop_out ?_; have HBwt_75 := Lib.hid (Go.Proofs.Ytgbcdmlcmnaimaa.GoC.grown_new HBw_t_74.out Gt_75.out (Go.Proofs.Ytgbcdmlcmnaimaa.GoC.own_ge Olist_3l0.out)); clear hst_75; have Dt_75_c0 : Hid (Apart (some ⟨qt_75, 0, none⟩) _) := Lib.hid (apart_app Dlist_3l0_c0.out (fun a_ ha_ => by cases ha_; exact (Go.Proofs.Ytgbcdmlcmnaimaa.GoC.cur_lt Kt_73.out).2) Yt_75.out); have Dt_75_t_68 : Hid (Apart (some ⟨qt_75, 0, none⟩) _) := Lib.hid (apart_app (Apart.symm Dt_68_list_3l0.out) (fun a_ ha_ => (own_lt Ot_68.out a_ ha_).2) Yt_75.out); have Dt_75_t_71 : Hid (Apart (some ⟨qt_75, 0, none⟩) _) := Lib.hid (apart_app (Apart.symm Dt_71_list_3l0.out) (fun a_ ha_ => (own_lt Ot_71.out a_ ha_).2) Yt_75.out); replace Ot_68 := Lib.hid (own_other Ot_68.out Gt_75.out (Apart.symm Dt_68_list_3l0.out)); replace Ot_71 := Lib.hid (own_other Ot_71.out Gt_75.out (Apart.symm Dt_71_list_3l0.out)); replace Kt_73 := Lib.hid (Go.Proofs.Ytgbcdmlcmnaimaa.GoC.cur_otherO Kt_73.out Gt_75.out Dlist_3l0_c0.out L0 Olist_3l0.out); clear Olist_3l0 Yt_75 Gt_75; cases ret_hid H; go_wp2_with fail; go_ret; exact ⟨(some ⟨qt_75, 0, none⟩), ct_75, rfl, Pt_75.out, Kt_73.out, HBwt_75.out⟩
    | succ m0 =>
      have hlt0 : k0 < 3 := (by omega); have hc0 : decide ((k0 : Int) < ((3 : Nat) : Int)) = true := (by simp; omega); replace H := cnt_succ H; have hd0 : decide ((k0 : Int) < 3) = true := (by simp; omega); unfold l0 at H; replace H := unp2_hid H; go_wp2_with fail; go_loopg [5, 3] (3) (fun m_ v5_ v3_ wr => ∃ (k1 : Nat) (list_3l1 : (List Go.Proofs.Ytgbcdmlcmnaimaa.PRate.Rate)) (c0_c0l1 : Go.Proofs.Ytgbcdmlcmnaimaa.GoC.Tape) (Alist_3l1 : Option Addr) (clist_3l1 : Nat), k1 + m_ = 3 ∧ v5_ = .int .i64 (k1 : Int) ∧ v3_ = .slice Alist_3l1 list_3l1.length clist_3l1 ∧ Hid (cntK (l1 k0) m_ k1 (list_3l1, c0_c0l1) (e1 (fun s' => cntK (l0 ) m0 (k0 + 1) s' (e0 fuel))) = some (r, t_)) ∧ Hid (w.grownBy wr (Value.slice (some ⟨g0, 0, none⟩) 1 1).ownBlock) ∧ Hid (wr.ownsRow w.heap.size 92 5 (.slice Alist_3l1 list_3l1.length clist_3l1) list_3l1.length (Go.Proofs.Ytgbcdmlcmnaimaa.PRate.flat list_3l1)) ∧ Hid (Apart Alist_3l1 (some ⟨g0, 0, none⟩)) ∧ Hid (Go.Proofs.Ytgbcdmlcmnaimaa.GoC.CurIs wr bc0 g0 Ac0 cc0 c0_c0l1))
      case atStart => exact ⟨0, _, _, _, _, by omega, rfl, rfl, H, HBwr0, Olist_3l0, Lib.hid Dlist_3l0_c0.out, Kl0_0⟩
      case round =>
        obtain ⟨k1, list_3l1, c0_c0l1, Alist_3l1, clist_3l1, hkm1, rfl, rfl, H, HBwr1, Olist_3l1, Dlist_3l1_c0, Kl1_0⟩ := hrel; rename World => wr1
        cases gk with
        | zero =>
          obtain rfl : k1 = 3 := (by omega); have hc1 : decide (((3 : Nat) : Int) < ((3 : Nat) : Int)) = false := (by simp); replace H := cnt_zero H; unfold e1 at H; replace H := unp2_hid H; replace H := app_hid H; go_wp2_with fail
          go_roundg m0
          case measure => omega
          case rel => exact ⟨k0 + 1, _, _, _, _, by omega, by go_num, rfl, H, HBwr1, Olist_3l1, Lib.hid Dlist_3l1_c0.out, Kl1_0⟩
        | succ m1 =>
          have hlt1 : k1 < 3 := (by omega); have hc1 : decide ((k1 : Int) < ((3 : Nat) : Int)) = true := (by simp; omega); replace H := cnt_succ H; have hd1 : decide ((k1 : Int) < 3) = true := (by simp; omega); unfold l1 at H; replace H := unp2_hid H; replace H := bind2_hid H; obtain ⟨t_10, t_10_tp, qt_10, H⟩ := H; go_wp2_with fail; go_at_call 75; refine (Go.Proofs.Ytgbcdmlcmnaimaa.GsL1CurOne.C (c0_c0l1) (2) (g0) (Ac0) (cc0) (bc0) _   Kl1_0 qt_10).mono ?_; rintro e_t_10 wt_10 ⟨rfl, kt_10, gt_10⟩; have Kt_10 := Lib.hid kt_10; have Gt_10 : Hid (wr1.grownBy wt_10 (Value.slice (some ⟨g0, 0, none⟩) 1 1).ownBlock) := Lib.hid gt_10; clear kt_10 gt_10; have HBwt_10 := Lib.hid (Aid.grown_tr HBwr1.out Gt_10.out); replace Olist_3l1 := Lib.hid (own_other Olist_3l1.out Gt_10.out (Apart.symm Dlist_3l1_c0.out)); clear Kl1_0 Gt_10
          cases t_10 with
          | false =>
            replace H := ite_f H; replace H := app_hid H; go_wp2_with fail
            go_roundg m1
            case measure => omega
            case rel => exact ⟨k1 + 1, _, _, _, _, by omega, by go_num, rfl, H, HBwt_10, Olist_3l1, Lib.hid Dlist_3l1_c0.out, Kt_10⟩
          | true =>
            replace H := ite_t H; go_upto_region 9 with fail
            go_cut [3] (fun v3_ wr => ∃ (list_3q0 : (List Go.Proofs.Ytgbcdmlcmnaimaa.PRate.Rate)) (c0_c0q0 : Go.Proofs.Ytgbcdmlcmnaimaa.GoC.Tape) (Alist_3q0 : Option Addr) (clist_3q0 : Nat), v3_ = .slice Alist_3q0 list_3q0.length clist_3q0 ∧ Hid (q0 k0 (fun s' => cntK (l1 k0) m1 (k1 + 1) s' (e1 (fun s' => cntK (l0 ) m0 (k0 + 1) s' (e0 fuel)))) (list_3q0, c0_c0q0) = some (r, t_)) ∧ Hid (w.grownBy wr (Value.slice (some ⟨g0, 0, none⟩) 1 1).ownBlock) ∧ Hid (wr.ownsRow w.heap.size 92 5 (.slice Alist_3q0 list_3q0.length clist_3q0) list_3q0.length (Go.Proofs.Ytgbcdmlcmnaimaa.PRate.flat list_3q0)) ∧ Hid (Apart Alist_3q0 (some ⟨g0, 0, none⟩)) ∧ Hid (Go.Proofs.Ytgbcdmlcmnaimaa.GoC.CurIs wr bc0 g0 Ac0 cc0 c0_c0q0))
            case first =>
              go_wp2_with fail; have bd9 : Below wt_10.heap.size wt_10 wt_10.drew := (Below.refl _ _).drew; have HBwt_10.drew := Lib.hid (grown_below HBwt_10.out bd9); replace Olist_3l1 := Lib.hid (own_below Olist_3l1.out bd9); replace Kt_10 := Lib.hid (Go.Proofs.Ytgbcdmlcmnaimaa.GoC.cur_below Kt_10.out bd9); clear bd9; replace H := let_hid H; obtain ⟨t_14, ht_14, H⟩ := H; replace H := idx_hid H; obtain ⟨nt_16, yt_16, et_16, lt_16, gt_16, H⟩ := H; obtain rfl : k1 = nt_16 := (by omega); clear et_16; replace H := let_hid H; obtain ⟨t_19, ht_19, H⟩ := H; replace H := bind2_hid H; obtain ⟨t_20, t_20_tp, qt_20, H⟩ := H; replace H := bind2_hid H; obtain ⟨t_21, t_21_tp, qt_21, H⟩ := H; obtain ⟨t_21_zone, t_21_grams, t_21_from_, t_21_until_, t_21_cents⟩ := t_21; replace H := unRate_hid H; replace H := guard_hid H; obtain ⟨hlt_23, H⟩ := H; replace H := let_hid H; obtain ⟨t_23, ht_23, H⟩ := H; have hht_23 := Lib.hid ht_23; clear ht_23; refine wp_region_held_drew (S := fun w' => Hid (0 ≤ w'.heap.size)) (by kernel_rfl) (Lib.hid (Nat.zero_le _)) (fun hHeld => ?_); refine wpAnyH_take (i := 0) (oi := _) (v := ?_) rfl (by kernel_rfl) (by kernel_rfl) (by kernel_rfl) (fun _ _ _ h => h) (Or.inl ⟨by rfl, ?_⟩) (by assumption) ?_
              rotate_left
              · intro w hSw
                (try dsimp only at hSw)
                (try simp only [List.getElem_toArray, List.getElem_cons_zero, List.getElem_cons_succ])
                go_simp
                (try with_reducible rfl)
              try simp only [Act.put, List.getElem_toArray, List.getElem_cons_zero, List.getElem_cons_succ, List.setIfInBounds_toArray, List.set_cons_zero, List.set_cons_succ]
              refine wpAnyH_take (i := 1) (oi := _) (v := ?_) rfl (by kernel_rfl) (by kernel_rfl) (by kernel_rfl) (fun _ _ _ h => h) (Or.inl ⟨by rfl, ?_⟩) (by assumption) ?_
              rotate_left
              · intro w hSw
                (try dsimp only at hSw)
                (try simp only [List.getElem_toArray, List.getElem_cons_zero, List.getElem_cons_succ])
                go_simp
                (try with_reducible rfl)
              try simp only [Act.put, List.getElem_toArray, List.getElem_cons_zero, List.getElem_cons_succ, List.setIfInBounds_toArray, List.set_cons_zero, List.set_cons_succ]
              refine wpAnyH_take (i := 2) (oi := _) (v := ?_) rfl (by kernel_rfl) (by kernel_rfl) (by kernel_rfl) (fun _ _ _ h => h) (Or.inl ⟨by rfl, ?_⟩) (by assumption) ?_
              rotate_left
              · intro w hSw
                (try dsimp only at hSw)
                (try simp only [List.getElem_toArray, List.getElem_cons_zero, List.getElem_cons_succ])
                go_simp
                (try with_reducible rfl)
              try simp only [Act.put, List.getElem_toArray, List.getElem_cons_zero, List.getElem_cons_succ, List.setIfInBounds_toArray, List.set_cons_zero, List.set_cons_succ]
              refine wpAnyH_take (i := 4) (oi := _) (v := ?_) rfl (by kernel_rfl) (by kernel_rfl) (by kernel_rfl) (fun _ _ _ h => h) (Or.inl ⟨by rfl, ?_⟩) (by assumption) ?_
              rotate_left
              · intro w hSw
                (try dsimp only at hSw)
                (try simp only [List.getElem_toArray, List.getElem_cons_zero, List.getElem_cons_succ])
                go_simp
                (try with_reducible rfl)
              try simp only [Act.put, List.getElem_toArray, List.getElem_cons_zero, List.getElem_cons_succ, List.setIfInBounds_toArray, List.set_cons_zero, List.set_cons_succ]
              refine wpAnyH_take (i := 7) (oi := _) (v := ?_) rfl (by kernel_rfl) (by kernel_rfl) (by kernel_rfl) (fun _ _ _ h => h) (Or.inl ⟨by rfl, ?_⟩) (by assumption) ?_
              rotate_left
              · intro w hSw
                (try dsimp only at hSw)
                (try simp only [List.getElem_toArray, List.getElem_cons_zero, List.getElem_cons_succ])
                go_simp
                (try with_reducible rfl)
              try simp only [Act.put, List.getElem_toArray, List.getElem_cons_zero, List.getElem_cons_succ, List.setIfInBounds_toArray, List.set_cons_zero, List.set_cons_succ]
              refine wpAnyH_ready (rs := [3, 8]) (by kernel_rfl) (by simp) ?_; refine AllReadyH.cons (o := _) rfl (fun K_ hK_ => ?_) ?_
              · skip
                obtain ⟨w_t_14, hw_t_14⟩ : ∃ x, wt_10.drew.alloc (.cells #[.int .i64 20, .int .i64 50, .int .i64 100] 3) = x := ⟨_, rfl⟩; have bw_t_14 : Below wt_10.drew.heap.size wt_10.drew w_t_14 := (by rw [← hw_t_14]; exact (Below.refl _ _).alloc (Nat.le_refl _) _); have hs_t_14 := HBwt_10.drew.out.size; have nt_14 : t_14.length = 3 := (by rw [← ht_14]; rfl)
                have Ot_14 : Hid (w_t_14.ownsRow w.heap.size 3 1 (.slice (some ⟨wt_10.heap.size, 0, none⟩) 3 3) 3 (Go.Proofs.Ytgbcdmlcmnaimaa.HelpInt.iv t_14)) := by
                  rw [← hw_t_14, ← ht_14]; have e_ : ([.int .i64 20, .int .i64 50, .int .i64 100] : List Value) = (Go.Proofs.Ytgbcdmlcmnaimaa.HelpInt.iv ([20, 50, 100] : List Int)) := rfl; exact Lib.hid (own_laid (n := 3) hs_t_14 e_ rfl (by unfold maxLen; omega))
                clear hs_t_14; have hht_14 := Lib.hid ht_14; clear ht_14; replace nt_14 := Lib.hid nt_14; have Dt_14_list_3l1 := Lib.hid (apart_fresh Olist_3l1.out); have Dt_14_c0 := Lib.hid (Go.Proofs.Ytgbcdmlcmnaimaa.GoC.apart_cur Kt_10.out); have HBw_t_14 := Lib.hid (grown_below HBwt_10.drew.out bw_t_14); replace Olist_3l1 := Lib.hid (own_below Olist_3l1.out bw_t_14); replace Kt_10 := Lib.hid (Go.Proofs.Ytgbcdmlcmnaimaa.GoC.cur_below Kt_10.out bw_t_14); clear bw_t_14
                (try simp only [List.getElem_toArray, List.getElem_cons_zero, List.getElem_cons_succ])
                go_simp
                first | refine hK_.out _ _ (Lib.hid (Nat.zero_le _)) (fun hHeld => ?_) | (go_wp2_with fail; refine hK_.out _ _ (Lib.hid (Nat.zero_le _)) (fun hHeld => ?_))
                clear hK_ K_
                try simp only [Act.put, List.getElem_toArray, List.getElem_cons_zero, List.getElem_cons_succ, List.setIfInBounds_toArray, List.set_cons_zero, List.set_cons_succ]
                have hqt_16 := nt_14.out; obtain ⟨ab_t_16, ao_t_16, zt_16, At_16, z_t_16, ct_16_0⟩ := Go.Proofs.Ytgbcdmlcmnaimaa.HelpInt.Ints.at_ (own_cells Ot_14.out) (k := k1) (by omega); obtain rfl := Option.some.inj (gt_16.out.symm.trans z_t_16); simp only [Option.some.injEq, Addr.mk.injEq] at At_16; obtain ⟨rfl, rfl, _⟩ := At_16; clear z_t_16; simp only [Nat.zero_add] at ct_16_0; have b0t_16 : (0 : Int) ≤ (k1 : Int) := (by omega); have b1t_16 : (k1 : Int) < ((3 : Nat) : Int) := (by omega); have b2t_16 : ((k1 : Int)).toNat = k1 := (by omega); have b4t_16 : (k1 : Int) < (3 : Int) := (by omega); have b5t_16 : k1 < 3 := (by omega); clear hqt_16; refine wpAnyH_take (i := 5) (oi := _) (v := ?_) rfl (by kernel_rfl) (by kernel_rfl) (by kernel_rfl) (fun _ _ _ h => h) (Or.inl ⟨by rfl, ?_⟩) (by assumption) ?_
                rotate_left
                · intro w hSw
                  (try dsimp only at hSw)
                  (try simp only [List.getElem_toArray, List.getElem_cons_zero, List.getElem_cons_succ])
                  go_simp
                  (try with_reducible rfl)
                try simp only [Act.put, List.getElem_toArray, List.getElem_cons_zero, List.getElem_cons_succ, List.setIfInBounds_toArray, List.set_cons_zero, List.set_cons_succ]
                refine Go.Proofs.Ytgbcdmlcmnaimaa.GoR.wpAnyH_more (S' := fun w' => w'.cell? ⟨wt_10.heap.size, k1, none⟩ = some (.int .i64 yt_16) ∧ Hid (0 ≤ w'.heap.size)) (fun w' hS_ => ?_) _ _ _ _ ?_
                · go_split_ands; (repeat' apply And.intro) <;> first | assumption | exact Lib.hid (Nat.zero_le _)
                have hHeld : (fun w' => w'.cell? ⟨wt_10.heap.size, k1, none⟩ = some (.int .i64 yt_16) ∧ Hid (0 ≤ w'.heap.size)) w_t_14 := ⟨ct_16_0, Lib.hid (Nat.zero_le _)⟩; refine wpAnyH_take (i := 6) (oi := _) (v := ?_) rfl (by kernel_rfl) (by kernel_rfl) (by kernel_rfl) (fun _ _ _ h => h) (Or.inl ⟨by rfl, ?_⟩) (by assumption) ?_
                rotate_left
                · intro w hSw
                  (try dsimp only at hSw)
                  (try simp only [List.getElem_toArray, List.getElem_cons_zero, List.getElem_cons_succ])
                  go_simp
                  (try with_reducible rfl)
                try simp only [Act.put, List.getElem_toArray, List.getElem_cons_zero, List.getElem_cons_succ, List.setIfInBounds_toArray, List.set_cons_zero, List.set_cons_succ]
                refine wpAnyH_ready (rs := [8]) (by kernel_rfl) (by simp) ?_; refine AllReadyH.cons (o := _) rfl (fun K_ hK_ => ?_) AllReadyH.nil; obtain ⟨w_t_19, hw_t_19⟩ : ∃ x, w_t_14.alloc (.cells #[.int .i64 0, .int .i64 0, .int .i64 5] 3) = x := ⟨_, rfl⟩; have bw_t_19 : Below w_t_14.heap.size w_t_14 w_t_19 := (by rw [← hw_t_19]; exact (Below.refl _ _).alloc (Nat.le_refl _) _); have hs_t_19 := HBw_t_14.out.size; have nt_19 : t_19.length = 3 := (by rw [← ht_19]; rfl)
                have Ot_19 : Hid (w_t_19.ownsRow w.heap.size 3 1 (.slice (some ⟨w_t_14.heap.size, 0, none⟩) 3 3) 3 (Go.Proofs.Ytgbcdmlcmnaimaa.HelpInt.iv t_19)) := by
                  rw [← hw_t_19, ← ht_19]; have e_ : ([.int .i64 0, .int .i64 0, .int .i64 5] : List Value) = (Go.Proofs.Ytgbcdmlcmnaimaa.HelpInt.iv ([0, 0, 5] : List Int)) := rfl; exact Lib.hid (own_laid (n := 3) hs_t_19 e_ rfl (by unfold maxLen; omega))
                clear hs_t_19; have hht_19 := Lib.hid ht_19; clear ht_19; replace nt_19 := Lib.hid nt_19; have Dt_19_list_3l1 := Lib.hid (apart_fresh Olist_3l1.out); have Dt_19_t_14 := Lib.hid (apart_fresh Ot_14.out); have Dt_19_c0 := Lib.hid (Go.Proofs.Ytgbcdmlcmnaimaa.GoC.apart_cur Kt_10.out); have HBw_t_19 := Lib.hid (grown_below HBw_t_14.out bw_t_19); have ct_16_0__86 := cell_below bw_t_19 ct_16_0; replace Olist_3l1 := Lib.hid (own_below Olist_3l1.out bw_t_19); replace Ot_14 := Lib.hid (own_below Ot_14.out bw_t_19); replace Kt_10 := Lib.hid (Go.Proofs.Ytgbcdmlcmnaimaa.GoC.cur_below Kt_10.out bw_t_19); clear bw_t_19
                (try simp only [List.getElem_toArray, List.getElem_cons_zero, List.getElem_cons_succ])
                go_simp
                first | refine hK_.out _ _ ⟨ct_16_0__86, Lib.hid (Nat.zero_le _)⟩ (fun hHeld => ?_) | (go_wp2_with fail; refine hK_.out _ _ ⟨ct_16_0__86, Lib.hid (Nat.zero_le _)⟩ (fun hHeld => ?_))
                clear hK_ K_
                try simp only [Act.put, List.getElem_toArray, List.getElem_cons_zero, List.getElem_cons_succ, List.setIfInBounds_toArray, List.set_cons_zero, List.set_cons_succ]
                refine wpAnyH_ready (rs := [9]) (by kernel_rfl) (by simp) ?_; refine AllReadyH.cons (o := _) rfl (fun K_ hK_ => ?_) AllReadyH.nil
                (try simp only [List.getElem_toArray, List.getElem_cons_zero, List.getElem_cons_succ])
                go_simp
                have hc0_ := nt_19.out; have Oct_20_1 := Lib.hid (own_len hc0_ Ot_19.out); have con_ := Go.Proofs.Ytgbcdmlcmnaimaa.GsL1CurAmong.C (t_10_tp) (t_19) (some ⟨w_t_14.heap.size, 0, none⟩) 3 (g0) (Ac0) (cc0) (bc0) _   (Lib.hid (own_cells Oct_20_1.out)) (Lib.hid (own_max Oct_20_1.out)) Kt_10 (Lib.hid (fun _ => Dt_19_c0.out)) qt_20; rw [hc0_] at con_; clear hc0_ Oct_20_1; go_at_call 56
                with_reducible show Calls _ _ _ w_t_19 _
                refine con_.mono ?_; rintro e_t_20 wt_20 ⟨rfl, kt_20, gt_20⟩; have Kt_20 := Lib.hid kt_20; have Gt_20 : Hid (w_t_19.grownBy wt_20 (Value.slice (some ⟨g0, 0, none⟩) 1 1).ownBlock) := Lib.hid gt_20; clear kt_20 gt_20; have HBwt_20 := Lib.hid (Aid.grown_tr HBw_t_19.out Gt_20.out); replace ct_16_0__86 := cell_other ct_16_0__86 Gt_20.out (Apart.symm Dt_14_c0.out); replace Olist_3l1 := Lib.hid (own_other Olist_3l1.out Gt_20.out (Apart.symm Dlist_3l1_c0.out)); replace Ot_14 := Lib.hid (own_other Ot_14.out Gt_20.out (Apart.symm Dt_14_c0.out)); replace Ot_19 := Lib.hid (own_other Ot_19.out Gt_20.out (Apart.symm Dt_19_c0.out)); clear ct_16_0; clear Kt_10 Gt_20; clear qt_20
                first | refine hK_.out _ _ ⟨ct_16_0__86, Lib.hid (Nat.zero_le _)⟩ (fun hHeld => ?_) | (go_wp2_with fail; refine hK_.out _ _ ⟨ct_16_0__86, Lib.hid (Nat.zero_le _)⟩ (fun hHeld => ?_))
                clear hK_ K_
                try simp only [Act.put, List.getElem_toArray, List.getElem_cons_zero, List.getElem_cons_succ, List.setIfInBounds_toArray, List.set_cons_zero, List.set_cons_succ]
                refine wpAnyH_ready (rs := [10]) (by kernel_rfl) (by simp) ?_; refine AllReadyH.cons (o := _) rfl (fun K_ hK_ => ?_) AllReadyH.nil
                (try simp only [List.getElem_toArray, List.getElem_cons_zero, List.getElem_cons_succ])
                go_simp
                go_at_call 76
                with_reducible show Calls _ _ _ wt_20 _
                refine (Go.Proofs.Ytgbcdmlcmnaimaa.GsL1CurRate.C (t_20_tp) ((k0 : Int)) (yt_16) (t_20) (g0) (Ac0) (cc0) (bc0) _   Kt_20 qt_21).mono ?_; rintro e_t_21 wt_21 ⟨rfl, kt_21, gt_21⟩; unfold Go.Proofs.Ytgbcdmlcmnaimaa.PRate.Rate.val; have Kt_21 := Lib.hid kt_21; have Gt_21 : Hid (wt_20.grownBy wt_21 (Value.slice (some ⟨g0, 0, none⟩) 1 1).ownBlock) := Lib.hid gt_21; clear kt_21 gt_21; have HBwt_21 := Lib.hid (Aid.grown_tr HBwt_20.out Gt_21.out); replace ct_16_0__86 := cell_other ct_16_0__86 Gt_21.out (Apart.symm Dt_14_c0.out); replace Olist_3l1 := Lib.hid (own_other Olist_3l1.out Gt_21.out (Apart.symm Dlist_3l1_c0.out)); replace Ot_14 := Lib.hid (own_other Ot_14.out Gt_21.out (Apart.symm Dt_14_c0.out)); replace Ot_19 := Lib.hid (own_other Ot_19.out Gt_21.out (Apart.symm Dt_19_c0.out)); clear Kt_20 Gt_21; clear qt_21
                first | refine hK_.out _ _ ⟨ct_16_0__86, Lib.hid (Nat.zero_le _)⟩ (fun hHeld => ?_) | (go_wp2_with fail; refine hK_.out _ _ ⟨ct_16_0__86, Lib.hid (Nat.zero_le _)⟩ (fun hHeld => ?_))
                clear hK_ K_
                try simp only [Act.put, List.getElem_toArray, List.getElem_cons_zero, List.getElem_cons_succ, List.setIfInBounds_toArray, List.set_cons_zero, List.set_cons_succ]
                refine wpAnyH_ready (rs := [11]) (by kernel_rfl) (by simp) ?_; refine AllReadyH.cons (o := _) rfl (fun K_ hK_ => ?_) AllReadyH.nil; obtain ⟨w_t_22, hw_t_22⟩ : ∃ x, wt_21.alloc (.cells #[.int .i64 t_21_zone, .int .i64 t_21_grams, .int .i64 t_21_from_, .int .i64 t_21_until_, .int .i64 t_21_cents] 92) = x := ⟨_, rfl⟩; have bw_t_22 : Below wt_21.heap.size wt_21 w_t_22 := (by rw [← hw_t_22]; exact (Below.refl _ _).alloc (Nat.le_refl _) _); have Ot_22 : Hid (w_t_22.ownsRow w.heap.size 92 5 (.slice (some ⟨wt_21.heap.size, 0, none⟩) 1 1) 1 [.int .i64 t_21_zone, .int .i64 t_21_grams, .int .i64 t_21_from_, .int .i64 t_21_until_, .int .i64 t_21_cents]) := Lib.hid (by rw [← hw_t_22]; exact own_laid (n := 1) HBwt_21.out.size (rfl : ([.int .i64 t_21_zone, .int .i64 t_21_grams, .int .i64 t_21_from_, .int .i64 t_21_until_, .int .i64 t_21_cents] : List Value) = [.int .i64 t_21_zone, .int .i64 t_21_grams, .int .i64 t_21_from_, .int .i64 t_21_until_, .int .i64 t_21_cents]) rfl (by unfold maxLen; omega)); have Dt_22_list_3l1 := Lib.hid (apart_fresh Olist_3l1.out); have Dt_22_t_14 := Lib.hid (apart_fresh Ot_14.out); have Dt_22_t_19 := Lib.hid (apart_fresh Ot_19.out); have Dt_22_c0 := Lib.hid (Go.Proofs.Ytgbcdmlcmnaimaa.GoC.apart_cur Kt_21.out); have HBw_t_22 := Lib.hid (grown_below HBwt_21.out bw_t_22); have ct_16_0__87 := cell_below bw_t_22 ct_16_0__86; replace Olist_3l1 := Lib.hid (own_below Olist_3l1.out bw_t_22); replace Ot_14 := Lib.hid (own_below Ot_14.out bw_t_22); replace Ot_19 := Lib.hid (own_below Ot_19.out bw_t_22); replace Kt_21 := Lib.hid (Go.Proofs.Ytgbcdmlcmnaimaa.GoC.cur_below Kt_21.out bw_t_22); clear bw_t_22
                (try simp only [List.getElem_toArray, List.getElem_cons_zero, List.getElem_cons_succ])
                go_simp
                first | refine hK_.out _ _ ⟨ct_16_0__87, Lib.hid (Nat.zero_le _)⟩ (fun hHeld => ?_) | (go_wp2_with fail; refine hK_.out _ _ ⟨ct_16_0__87, Lib.hid (Nat.zero_le _)⟩ (fun hHeld => ?_))
                clear hK_ K_
                try simp only [Act.put, List.getElem_toArray, List.getElem_cons_zero, List.getElem_cons_succ, List.setIfInBounds_toArray, List.set_cons_zero, List.set_cons_succ]
                refine wpAnyH_ready (rs := [12]) (by kernel_rfl) (by simp) ?_; refine AllReadyH.cons (o := _) rfl (fun K_ hK_ => ?_) AllReadyH.nil
                first
                  | (have hst_23 := HBw_t_22.out.size
                     have h1t_23 : list_3l1.length + 1 ≤ maxLen := (by unfold maxLen; omega); have h2t_23 : (list_3l1.length + 1) * 40 ≤ 140737488355328 := (by omega); have h3t_23 := Ot_22.out.cells rfl; refine Go.Proofs.Ytgbcdmlcmnaimaa.GoH.step_append_own (w := w_t_22) rfl (.tmp 18) (.tmp 29) 24 rfl w.heap.size 92 i0_92 (.agg #[.int .i64 0, .int .i64 0, .int .i64 0, .int .i64 0, .int .i64 0]) 5 40 Try.underlying24 hi_92 hz0_92 hz1_92 hz2_92 rfl (by decide) Alist_3l1 clist_3l1 list_3l1.length _ rfl Olist_3l1.out ⟨wt_21.heap.size, 0, none⟩ 1 [.int .i64 t_21_zone, .int .i64 t_21_grams, .int .i64 t_21_from_, .int .i64 t_21_until_, .int .i64 t_21_cents] rfl rfl h3t_23 (one_cells rfl) h1t_23 h2t_23 hst_23 ?_; intro vt_23 wt_23 ot_23 gt_23 yt_23; obtain ⟨qt_23, ct_23, rfl, pt_23⟩ := own_push hht_23.out (Go.Proofs.Ytgbcdmlcmnaimaa.PRate.flat_snoc _ _) rfl ot_23; have Pt_23 := Lib.hid pt_23; have Yt_23 := Lib.hid yt_23; have Gt_23 := Lib.hid gt_23; clear ot_23 gt_23 pt_23 yt_23; have HBwt_23 := Lib.hid (Go.Proofs.Ytgbcdmlcmnaimaa.GoC.grown_new HBw_t_22.out Gt_23.out (Go.Proofs.Ytgbcdmlcmnaimaa.GoC.own_ge Olist_3l1.out)); clear hst_23; have Dt_23_c0 : Hid (Apart (some ⟨qt_23, 0, none⟩) _) := Lib.hid (apart_app Dlist_3l1_c0.out (fun a_ ha_ => by cases ha_; exact (Go.Proofs.Ytgbcdmlcmnaimaa.GoC.cur_lt Kt_21.out).2) Yt_23.out); have Dt_23_t_14 : Hid (Apart (some ⟨qt_23, 0, none⟩) _) := Lib.hid (apart_app (Apart.symm Dt_14_list_3l1.out) (fun a_ ha_ => (own_lt Ot_14.out a_ ha_).2) Yt_23.out); have Dt_23_t_19 : Hid (Apart (some ⟨qt_23, 0, none⟩) _) := Lib.hid (apart_app (Apart.symm Dt_19_list_3l1.out) (fun a_ ha_ => (own_lt Ot_19.out a_ ha_).2) Yt_23.out); have Dt_23_t_22 : Hid (Apart (some ⟨qt_23, 0, none⟩) _) := Lib.hid (apart_app (Apart.symm Dt_22_list_3l1.out) (fun a_ ha_ => (own_lt Ot_22.out a_ ha_).2) Yt_23.out); replace ct_16_0__87 := cell_other ct_16_0__87 Gt_23.out (Apart.symm Dt_14_list_3l1.out); replace Ot_14 := Lib.hid (own_other Ot_14.out Gt_23.out (Apart.symm Dt_14_list_3l1.out)); replace Ot_19 := Lib.hid (own_other Ot_19.out Gt_23.out (Apart.symm Dt_19_list_3l1.out)); replace Ot_22 := Lib.hid (own_other Ot_22.out Gt_23.out (Apart.symm Dt_22_list_3l1.out)); replace Kt_21 := Lib.hid (Go.Proofs.Ytgbcdmlcmnaimaa.GoC.cur_otherO Kt_21.out Gt_23.out Dlist_3l1_c0.out L0 Olist_3l1.out); clear ct_16_0__86
                     clear Olist_3l1 Yt_23 Gt_23)
                  | (go_simp
                     have hst_23 := HBw_t_22.out.size; have h1t_23 : list_3l1.length + 1 ≤ maxLen := (by unfold maxLen; omega); have h2t_23 : (list_3l1.length + 1) * 40 ≤ 140737488355328 := (by omega); have h3t_23 := Ot_22.out.cells rfl; refine Go.Proofs.Ytgbcdmlcmnaimaa.GoH.step_append_own (w := w_t_22) rfl (.tmp 18) (.tmp 29) 24 rfl w.heap.size 92 i0_92 (.agg #[.int .i64 0, .int .i64 0, .int .i64 0, .int .i64 0, .int .i64 0]) 5 40 Try.underlying24 hi_92 hz0_92 hz1_92 hz2_92 rfl (by decide) Alist_3l1 clist_3l1 list_3l1.length _ rfl Olist_3l1.out ⟨wt_21.heap.size, 0, none⟩ 1 [.int .i64 t_21_zone, .int .i64 t_21_grams, .int .i64 t_21_from_, .int .i64 t_21_until_, .int .i64 t_21_cents] rfl rfl h3t_23 (one_cells rfl) h1t_23 h2t_23 hst_23 ?_; intro vt_23 wt_23 ot_23 gt_23 yt_23; obtain ⟨qt_23, ct_23, rfl, pt_23⟩ := own_push hht_23.out (Go.Proofs.Ytgbcdmlcmnaimaa.PRate.flat_snoc _ _) rfl ot_23; have Pt_23 := Lib.hid pt_23; have Yt_23 := Lib.hid yt_23; have Gt_23 := Lib.hid gt_23; clear ot_23 gt_23 pt_23 yt_23; have HBwt_23 := Lib.hid (Go.Proofs.Ytgbcdmlcmnaimaa.GoC.grown_new HBw_t_22.out Gt_23.out (Go.Proofs.Ytgbcdmlcmnaimaa.GoC.own_ge Olist_3l1.out)); clear hst_23; have Dt_23_c0 : Hid (Apart (some ⟨qt_23, 0, none⟩) _) := Lib.hid (apart_app Dlist_3l1_c0.out (fun a_ ha_ => by cases ha_; exact (Go.Proofs.Ytgbcdmlcmnaimaa.GoC.cur_lt Kt_21.out).2) Yt_23.out); have Dt_23_t_14 : Hid (Apart (some ⟨qt_23, 0, none⟩) _) := Lib.hid (apart_app (Apart.symm Dt_14_list_3l1.out) (fun a_ ha_ => (own_lt Ot_14.out a_ ha_).2) Yt_23.out); have Dt_23_t_19 : Hid (Apart (some ⟨qt_23, 0, none⟩) _) := Lib.hid (apart_app (Apart.symm Dt_19_list_3l1.out) (fun a_ ha_ => (own_lt Ot_19.out a_ ha_).2) Yt_23.out); have Dt_23_t_22 : Hid (Apart (some ⟨qt_23, 0, none⟩) _) := Lib.hid (apart_app (Apart.symm Dt_22_list_3l1.out) (fun a_ ha_ => (own_lt Ot_22.out a_ ha_).2) Yt_23.out); replace ct_16_0__87 := cell_other ct_16_0__87 Gt_23.out (Apart.symm Dt_14_list_3l1.out); replace Ot_14 := Lib.hid (own_other Ot_14.out Gt_23.out (Apart.symm Dt_14_list_3l1.out)); replace Ot_19 := Lib.hid (own_other Ot_19.out Gt_23.out (Apart.symm Dt_19_list_3l1.out)); replace Ot_22 := Lib.hid (own_other Ot_22.out Gt_23.out (Apart.symm Dt_22_list_3l1.out)); replace Kt_21 := Lib.hid (Go.Proofs.Ytgbcdmlcmnaimaa.GoC.cur_otherO Kt_21.out Gt_23.out Dlist_3l1_c0.out L0 Olist_3l1.out); clear ct_16_0__86
                     clear Olist_3l1 Yt_23 Gt_23)
                first | refine hK_.out _ _ ⟨ct_16_0__87, Lib.hid (Nat.zero_le _)⟩ (fun hHeld => ?_) | (go_wp2_with fail; refine hK_.out _ _ ⟨ct_16_0__87, Lib.hid (Nat.zero_le _)⟩ (fun hHeld => ?_))
                clear hK_ K_
                try simp only [Act.put, List.getElem_toArray, List.getElem_cons_zero, List.getElem_cons_succ, List.setIfInBounds_toArray, List.set_cons_zero, List.set_cons_succ]
                refine wpAnyH_take (i := 13) (oi := _) (v := ?_) rfl (by kernel_rfl) (by kernel_rfl) (by kernel_rfl) (fun _ _ _ h => h) (Or.inl ⟨by rfl, ?_⟩) (by assumption) ?_
                rotate_left
                · intro w hSw
                  (try dsimp only at hSw)
                  (try simp only [List.getElem_toArray, List.getElem_cons_zero, List.getElem_cons_succ])
                  go_simp
                  (try with_reducible rfl)
                try simp only [Act.put, List.getElem_toArray, List.getElem_cons_zero, List.getElem_cons_succ, List.setIfInBounds_toArray, List.set_cons_zero, List.set_cons_succ]
                refine wpAnyH_done (by kernel_rfl) ?_ _; go_wp2_with fail
                go_meet
                case rel => exact ⟨_, _, _, _, rfl, H, HBwt_23, Pt_23, Lib.hid Dt_23_c0.out, Kt_21⟩
              refine AllReadyH.cons (o := _) rfl (fun K_ hK_ => ?_) AllReadyH.nil; obtain ⟨w_t_19, hw_t_19⟩ : ∃ x, wt_10.drew.alloc (.cells #[.int .i64 0, .int .i64 0, .int .i64 5] 3) = x := ⟨_, rfl⟩; have bw_t_19 : Below wt_10.drew.heap.size wt_10.drew w_t_19 := (by rw [← hw_t_19]; exact (Below.refl _ _).alloc (Nat.le_refl _) _); have hs_t_19 := HBwt_10.drew.out.size; have nt_19 : t_19.length = 3 := (by rw [← ht_19]; rfl)
              have Ot_19 : Hid (w_t_19.ownsRow w.heap.size 3 1 (.slice (some ⟨wt_10.heap.size, 0, none⟩) 3 3) 3 (Go.Proofs.Ytgbcdmlcmnaimaa.HelpInt.iv t_19)) := by
                rw [← hw_t_19, ← ht_19]; have e_ : ([.int .i64 0, .int .i64 0, .int .i64 5] : List Value) = (Go.Proofs.Ytgbcdmlcmnaimaa.HelpInt.iv ([0, 0, 5] : List Int)) := rfl; exact Lib.hid (own_laid (n := 3) hs_t_19 e_ rfl (by unfold maxLen; omega))
              clear hs_t_19; have hht_19 := Lib.hid ht_19; clear ht_19; replace nt_19 := Lib.hid nt_19; have Dt_19_list_3l1 := Lib.hid (apart_fresh Olist_3l1.out); have Dt_19_c0 := Lib.hid (Go.Proofs.Ytgbcdmlcmnaimaa.GoC.apart_cur Kt_10.out); have HBw_t_19 := Lib.hid (grown_below HBwt_10.drew.out bw_t_19); replace Olist_3l1 := Lib.hid (own_below Olist_3l1.out bw_t_19); replace Kt_10 := Lib.hid (Go.Proofs.Ytgbcdmlcmnaimaa.GoC.cur_below Kt_10.out bw_t_19); clear bw_t_19
              (try simp only [List.getElem_toArray, List.getElem_cons_zero, List.getElem_cons_succ])
              go_simp
              first | refine hK_.out _ _ (Lib.hid (Nat.zero_le _)) (fun hHeld => ?_) | (go_wp2_with fail; refine hK_.out _ _ (Lib.hid (Nat.zero_le _)) (fun hHeld => ?_))
              clear hK_ K_
              try simp only [Act.put, List.getElem_toArray, List.getElem_cons_zero, List.getElem_cons_succ, List.setIfInBounds_toArray, List.set_cons_zero, List.set_cons_succ]
              refine wpAnyH_ready (rs := [3, 9]) (by kernel_rfl) (by simp) ?_; refine AllReadyH.cons (o := _) rfl (fun K_ hK_ => ?_) ?_
              · skip
                obtain ⟨w_t_14, hw_t_14⟩ : ∃ x, w_t_19.alloc (.cells #[.int .i64 20, .int .i64 50, .int .i64 100] 3) = x := ⟨_, rfl⟩; have bw_t_14 : Below w_t_19.heap.size w_t_19 w_t_14 := (by rw [← hw_t_14]; exact (Below.refl _ _).alloc (Nat.le_refl _) _); have hs_t_14 := HBw_t_19.out.size; have nt_14 : t_14.length = 3 := (by rw [← ht_14]; rfl)
                have Ot_14 : Hid (w_t_14.ownsRow w.heap.size 3 1 (.slice (some ⟨w_t_19.heap.size, 0, none⟩) 3 3) 3 (Go.Proofs.Ytgbcdmlcmnaimaa.HelpInt.iv t_14)) := by
                  rw [← hw_t_14, ← ht_14]; have e_ : ([.int .i64 20, .int .i64 50, .int .i64 100] : List Value) = (Go.Proofs.Ytgbcdmlcmnaimaa.HelpInt.iv ([20, 50, 100] : List Int)) := rfl; exact Lib.hid (own_laid (n := 3) hs_t_14 e_ rfl (by unfold maxLen; omega))
                clear hs_t_14; have hht_14 := Lib.hid ht_14; clear ht_14; replace nt_14 := Lib.hid nt_14; have Dt_14_list_3l1 := Lib.hid (apart_fresh Olist_3l1.out); have Dt_14_t_19 := Lib.hid (apart_fresh Ot_19.out); have Dt_14_c0 := Lib.hid (Go.Proofs.Ytgbcdmlcmnaimaa.GoC.apart_cur Kt_10.out); have HBw_t_14 := Lib.hid (grown_below HBw_t_19.out bw_t_14); replace Olist_3l1 := Lib.hid (own_below Olist_3l1.out bw_t_14); replace Ot_19 := Lib.hid (own_below Ot_19.out bw_t_14); replace Kt_10 := Lib.hid (Go.Proofs.Ytgbcdmlcmnaimaa.GoC.cur_below Kt_10.out bw_t_14); clear bw_t_14
                (try simp only [List.getElem_toArray, List.getElem_cons_zero, List.getElem_cons_succ])
                go_simp
                first | refine hK_.out _ _ (Lib.hid (Nat.zero_le _)) (fun hHeld => ?_) | (go_wp2_with fail; refine hK_.out _ _ (Lib.hid (Nat.zero_le _)) (fun hHeld => ?_))
                clear hK_ K_
                try simp only [Act.put, List.getElem_toArray, List.getElem_cons_zero, List.getElem_cons_succ, List.setIfInBounds_toArray, List.set_cons_zero, List.set_cons_succ]
                have hqt_16 := nt_14.out; obtain ⟨ab_t_16, ao_t_16, zt_16, At_16, z_t_16, ct_16_0⟩ := Go.Proofs.Ytgbcdmlcmnaimaa.HelpInt.Ints.at_ (own_cells Ot_14.out) (k := k1) (by omega); obtain rfl := Option.some.inj (gt_16.out.symm.trans z_t_16); simp only [Option.some.injEq, Addr.mk.injEq] at At_16; obtain ⟨rfl, rfl, _⟩ := At_16; clear z_t_16; simp only [Nat.zero_add] at ct_16_0; have b0t_16 : (0 : Int) ≤ (k1 : Int) := (by omega); have b1t_16 : (k1 : Int) < ((3 : Nat) : Int) := (by omega); have b2t_16 : ((k1 : Int)).toNat = k1 := (by omega); have b4t_16 : (k1 : Int) < (3 : Int) := (by omega); have b5t_16 : k1 < 3 := (by omega); clear hqt_16; refine wpAnyH_take (i := 5) (oi := _) (v := ?_) rfl (by kernel_rfl) (by kernel_rfl) (by kernel_rfl) (fun _ _ _ h => h) (Or.inl ⟨by rfl, ?_⟩) (by assumption) ?_
                rotate_left
                · intro w hSw
                  (try dsimp only at hSw)
                  (try simp only [List.getElem_toArray, List.getElem_cons_zero, List.getElem_cons_succ])
                  go_simp
                  (try with_reducible rfl)
                try simp only [Act.put, List.getElem_toArray, List.getElem_cons_zero, List.getElem_cons_succ, List.setIfInBounds_toArray, List.set_cons_zero, List.set_cons_succ]
                refine Go.Proofs.Ytgbcdmlcmnaimaa.GoR.wpAnyH_more (S' := fun w' => w'.cell? ⟨w_t_19.heap.size, k1, none⟩ = some (.int .i64 yt_16) ∧ Hid (0 ≤ w'.heap.size)) (fun w' hS_ => ?_) _ _ _ _ ?_
                · go_split_ands; (repeat' apply And.intro) <;> first | assumption | exact Lib.hid (Nat.zero_le _)
                have hHeld : (fun w' => w'.cell? ⟨w_t_19.heap.size, k1, none⟩ = some (.int .i64 yt_16) ∧ Hid (0 ≤ w'.heap.size)) w_t_14 := ⟨ct_16_0, Lib.hid (Nat.zero_le _)⟩; refine wpAnyH_take (i := 6) (oi := _) (v := ?_) rfl (by kernel_rfl) (by kernel_rfl) (by kernel_rfl) (fun _ _ _ h => h) (Or.inl ⟨by rfl, ?_⟩) (by assumption) ?_
                rotate_left
                · intro w hSw
                  (try dsimp only at hSw)
                  (try simp only [List.getElem_toArray, List.getElem_cons_zero, List.getElem_cons_succ])
                  go_simp
                  (try with_reducible rfl)
                try simp only [Act.put, List.getElem_toArray, List.getElem_cons_zero, List.getElem_cons_succ, List.setIfInBounds_toArray, List.set_cons_zero, List.set_cons_succ]
                refine wpAnyH_ready (rs := [9]) (by kernel_rfl) (by simp) ?_; refine AllReadyH.cons (o := _) rfl (fun K_ hK_ => ?_) AllReadyH.nil
                (try simp only [List.getElem_toArray, List.getElem_cons_zero, List.getElem_cons_succ])
                go_simp
                have hc0_ := nt_19.out; have Oct_20_1 := Lib.hid (own_len hc0_ Ot_19.out); have con_ := Go.Proofs.Ytgbcdmlcmnaimaa.GsL1CurAmong.C (t_10_tp) (t_19) (some ⟨wt_10.heap.size, 0, none⟩) 3 (g0) (Ac0) (cc0) (bc0) _   (Lib.hid (own_cells Oct_20_1.out)) (Lib.hid (own_max Oct_20_1.out)) Kt_10 (Lib.hid (fun _ => Dt_19_c0.out)) qt_20; rw [hc0_] at con_; clear hc0_ Oct_20_1; go_at_call 56
                with_reducible show Calls _ _ _ w_t_14 _
                refine con_.mono ?_; rintro e_t_20 wt_20 ⟨rfl, kt_20, gt_20⟩; have Kt_20 := Lib.hid kt_20; have Gt_20 : Hid (w_t_14.grownBy wt_20 (Value.slice (some ⟨g0, 0, none⟩) 1 1).ownBlock) := Lib.hid gt_20; clear kt_20 gt_20; have HBwt_20 := Lib.hid (Aid.grown_tr HBw_t_14.out Gt_20.out); replace ct_16_0 := cell_other ct_16_0 Gt_20.out (Apart.symm Dt_14_c0.out); replace Olist_3l1 := Lib.hid (own_other Olist_3l1.out Gt_20.out (Apart.symm Dlist_3l1_c0.out)); replace Ot_19 := Lib.hid (own_other Ot_19.out Gt_20.out (Apart.symm Dt_19_c0.out)); replace Ot_14 := Lib.hid (own_other Ot_14.out Gt_20.out (Apart.symm Dt_14_c0.out)); clear Kt_10 Gt_20; clear qt_20
                first | refine hK_.out _ _ ⟨ct_16_0, Lib.hid (Nat.zero_le _)⟩ (fun hHeld => ?_) | (go_wp2_with fail; refine hK_.out _ _ ⟨ct_16_0, Lib.hid (Nat.zero_le _)⟩ (fun hHeld => ?_))
                clear hK_ K_
                try simp only [Act.put, List.getElem_toArray, List.getElem_cons_zero, List.getElem_cons_succ, List.setIfInBounds_toArray, List.set_cons_zero, List.set_cons_succ]
                refine wpAnyH_ready (rs := [10]) (by kernel_rfl) (by simp) ?_; refine AllReadyH.cons (o := _) rfl (fun K_ hK_ => ?_) AllReadyH.nil
                (try simp only [List.getElem_toArray, List.getElem_cons_zero, List.getElem_cons_succ])
                go_simp
                go_at_call 76
                with_reducible show Calls _ _ _ wt_20 _
                refine (Go.Proofs.Ytgbcdmlcmnaimaa.GsL1CurRate.C (t_20_tp) ((k0 : Int)) (yt_16) (t_20) (g0) (Ac0) (cc0) (bc0) _   Kt_20 qt_21).mono ?_; rintro e_t_21 wt_21 ⟨rfl, kt_21, gt_21⟩; unfold Go.Proofs.Ytgbcdmlcmnaimaa.PRate.Rate.val; have Kt_21 := Lib.hid kt_21; have Gt_21 : Hid (wt_20.grownBy wt_21 (Value.slice (some ⟨g0, 0, none⟩) 1 1).ownBlock) := Lib.hid gt_21; clear kt_21 gt_21; have HBwt_21 := Lib.hid (Aid.grown_tr HBwt_20.out Gt_21.out); replace ct_16_0 := cell_other ct_16_0 Gt_21.out (Apart.symm Dt_14_c0.out); replace Olist_3l1 := Lib.hid (own_other Olist_3l1.out Gt_21.out (Apart.symm Dlist_3l1_c0.out)); replace Ot_19 := Lib.hid (own_other Ot_19.out Gt_21.out (Apart.symm Dt_19_c0.out)); replace Ot_14 := Lib.hid (own_other Ot_14.out Gt_21.out (Apart.symm Dt_14_c0.out)); clear Kt_20 Gt_21; clear qt_21
                first | refine hK_.out _ _ ⟨ct_16_0, Lib.hid (Nat.zero_le _)⟩ (fun hHeld => ?_) | (go_wp2_with fail; refine hK_.out _ _ ⟨ct_16_0, Lib.hid (Nat.zero_le _)⟩ (fun hHeld => ?_))
                clear hK_ K_
                try simp only [Act.put, List.getElem_toArray, List.getElem_cons_zero, List.getElem_cons_succ, List.setIfInBounds_toArray, List.set_cons_zero, List.set_cons_succ]
                refine wpAnyH_ready (rs := [11]) (by kernel_rfl) (by simp) ?_; refine AllReadyH.cons (o := _) rfl (fun K_ hK_ => ?_) AllReadyH.nil; obtain ⟨w_t_22, hw_t_22⟩ : ∃ x, wt_21.alloc (.cells #[.int .i64 t_21_zone, .int .i64 t_21_grams, .int .i64 t_21_from_, .int .i64 t_21_until_, .int .i64 t_21_cents] 92) = x := ⟨_, rfl⟩; have bw_t_22 : Below wt_21.heap.size wt_21 w_t_22 := (by rw [← hw_t_22]; exact (Below.refl _ _).alloc (Nat.le_refl _) _); have Ot_22 : Hid (w_t_22.ownsRow w.heap.size 92 5 (.slice (some ⟨wt_21.heap.size, 0, none⟩) 1 1) 1 [.int .i64 t_21_zone, .int .i64 t_21_grams, .int .i64 t_21_from_, .int .i64 t_21_until_, .int .i64 t_21_cents]) := Lib.hid (by rw [← hw_t_22]; exact own_laid (n := 1) HBwt_21.out.size (rfl : ([.int .i64 t_21_zone, .int .i64 t_21_grams, .int .i64 t_21_from_, .int .i64 t_21_until_, .int .i64 t_21_cents] : List Value) = [.int .i64 t_21_zone, .int .i64 t_21_grams, .int .i64 t_21_from_, .int .i64 t_21_until_, .int .i64 t_21_cents]) rfl (by unfold maxLen; omega)); have Dt_22_list_3l1 := Lib.hid (apart_fresh Olist_3l1.out); have Dt_22_t_19 := Lib.hid (apart_fresh Ot_19.out); have Dt_22_t_14 := Lib.hid (apart_fresh Ot_14.out); have Dt_22_c0 := Lib.hid (Go.Proofs.Ytgbcdmlcmnaimaa.GoC.apart_cur Kt_21.out); have HBw_t_22 := Lib.hid (grown_below HBwt_21.out bw_t_22); have ct_16_0__88 := cell_below bw_t_22 ct_16_0; replace Olist_3l1 := Lib.hid (own_below Olist_3l1.out bw_t_22); replace Ot_19 := Lib.hid (own_below Ot_19.out bw_t_22); replace Ot_14 := Lib.hid (own_below Ot_14.out bw_t_22); replace Kt_21 := Lib.hid (Go.Proofs.Ytgbcdmlcmnaimaa.GoC.cur_below Kt_21.out bw_t_22); clear bw_t_22
                (try simp only [List.getElem_toArray, List.getElem_cons_zero, List.getElem_cons_succ])
                go_simp
                first | refine hK_.out _ _ ⟨ct_16_0__88, Lib.hid (Nat.zero_le _)⟩ (fun hHeld => ?_) | (go_wp2_with fail; refine hK_.out _ _ ⟨ct_16_0__88, Lib.hid (Nat.zero_le _)⟩ (fun hHeld => ?_))
                clear hK_ K_
                try simp only [Act.put, List.getElem_toArray, List.getElem_cons_zero, List.getElem_cons_succ, List.setIfInBounds_toArray, List.set_cons_zero, List.set_cons_succ]
                refine wpAnyH_ready (rs := [12]) (by kernel_rfl) (by simp) ?_; refine AllReadyH.cons (o := _) rfl (fun K_ hK_ => ?_) AllReadyH.nil
                first
                  | (have hst_23 := HBw_t_22.out.size
                     have h1t_23 : list_3l1.length + 1 ≤ maxLen := (by unfold maxLen; omega); have h2t_23 : (list_3l1.length + 1) * 40 ≤ 140737488355328 := (by omega); have h3t_23 := Ot_22.out.cells rfl; refine Go.Proofs.Ytgbcdmlcmnaimaa.GoH.step_append_own (w := w_t_22) rfl (.tmp 18) (.tmp 29) 24 rfl w.heap.size 92 i0_92 (.agg #[.int .i64 0, .int .i64 0, .int .i64 0, .int .i64 0, .int .i64 0]) 5 40 Try.underlying24 hi_92 hz0_92 hz1_92 hz2_92 rfl (by decide) Alist_3l1 clist_3l1 list_3l1.length _ rfl Olist_3l1.out ⟨wt_21.heap.size, 0, none⟩ 1 [.int .i64 t_21_zone, .int .i64 t_21_grams, .int .i64 t_21_from_, .int .i64 t_21_until_, .int .i64 t_21_cents] rfl rfl h3t_23 (one_cells rfl) h1t_23 h2t_23 hst_23 ?_; intro vt_23 wt_23 ot_23 gt_23 yt_23; obtain ⟨qt_23, ct_23, rfl, pt_23⟩ := own_push hht_23.out (Go.Proofs.Ytgbcdmlcmnaimaa.PRate.flat_snoc _ _) rfl ot_23; have Pt_23 := Lib.hid pt_23; have Yt_23 := Lib.hid yt_23; have Gt_23 := Lib.hid gt_23; clear ot_23 gt_23 pt_23 yt_23; have HBwt_23 := Lib.hid (Go.Proofs.Ytgbcdmlcmnaimaa.GoC.grown_new HBw_t_22.out Gt_23.out (Go.Proofs.Ytgbcdmlcmnaimaa.GoC.own_ge Olist_3l1.out)); clear hst_23; have Dt_23_c0 : Hid (Apart (some ⟨qt_23, 0, none⟩) _) := Lib.hid (apart_app Dlist_3l1_c0.out (fun a_ ha_ => by cases ha_; exact (Go.Proofs.Ytgbcdmlcmnaimaa.GoC.cur_lt Kt_21.out).2) Yt_23.out); have Dt_23_t_19 : Hid (Apart (some ⟨qt_23, 0, none⟩) _) := Lib.hid (apart_app (Apart.symm Dt_19_list_3l1.out) (fun a_ ha_ => (own_lt Ot_19.out a_ ha_).2) Yt_23.out); have Dt_23_t_14 : Hid (Apart (some ⟨qt_23, 0, none⟩) _) := Lib.hid (apart_app (Apart.symm Dt_14_list_3l1.out) (fun a_ ha_ => (own_lt Ot_14.out a_ ha_).2) Yt_23.out); have Dt_23_t_22 : Hid (Apart (some ⟨qt_23, 0, none⟩) _) := Lib.hid (apart_app (Apart.symm Dt_22_list_3l1.out) (fun a_ ha_ => (own_lt Ot_22.out a_ ha_).2) Yt_23.out); replace ct_16_0__88 := cell_other ct_16_0__88 Gt_23.out (Apart.symm Dt_14_list_3l1.out); replace Ot_19 := Lib.hid (own_other Ot_19.out Gt_23.out (Apart.symm Dt_19_list_3l1.out)); replace Ot_14 := Lib.hid (own_other Ot_14.out Gt_23.out (Apart.symm Dt_14_list_3l1.out)); replace Ot_22 := Lib.hid (own_other Ot_22.out Gt_23.out (Apart.symm Dt_22_list_3l1.out)); replace Kt_21 := Lib.hid (Go.Proofs.Ytgbcdmlcmnaimaa.GoC.cur_otherO Kt_21.out Gt_23.out Dlist_3l1_c0.out L0 Olist_3l1.out); clear ct_16_0
                     clear Olist_3l1 Yt_23 Gt_23)
                  | (go_simp
                     have hst_23 := HBw_t_22.out.size; have h1t_23 : list_3l1.length + 1 ≤ maxLen := (by unfold maxLen; omega); have h2t_23 : (list_3l1.length + 1) * 40 ≤ 140737488355328 := (by omega); have h3t_23 := Ot_22.out.cells rfl; refine Go.Proofs.Ytgbcdmlcmnaimaa.GoH.step_append_own (w := w_t_22) rfl (.tmp 18) (.tmp 29) 24 rfl w.heap.size 92 i0_92 (.agg #[.int .i64 0, .int .i64 0, .int .i64 0, .int .i64 0, .int .i64 0]) 5 40 Try.underlying24 hi_92 hz0_92 hz1_92 hz2_92 rfl (by decide) Alist_3l1 clist_3l1 list_3l1.length _ rfl Olist_3l1.out ⟨wt_21.heap.size, 0, none⟩ 1 [.int .i64 t_21_zone, .int .i64 t_21_grams, .int .i64 t_21_from_, .int .i64 t_21_until_, .int .i64 t_21_cents] rfl rfl h3t_23 (one_cells rfl) h1t_23 h2t_23 hst_23 ?_; intro vt_23 wt_23 ot_23 gt_23 yt_23; obtain ⟨qt_23, ct_23, rfl, pt_23⟩ := own_push hht_23.out (Go.Proofs.Ytgbcdmlcmnaimaa.PRate.flat_snoc _ _) rfl ot_23; have Pt_23 := Lib.hid pt_23; have Yt_23 := Lib.hid yt_23; have Gt_23 := Lib.hid gt_23; clear ot_23 gt_23 pt_23 yt_23; have HBwt_23 := Lib.hid (Go.Proofs.Ytgbcdmlcmnaimaa.GoC.grown_new HBw_t_22.out Gt_23.out (Go.Proofs.Ytgbcdmlcmnaimaa.GoC.own_ge Olist_3l1.out)); clear hst_23; have Dt_23_c0 : Hid (Apart (some ⟨qt_23, 0, none⟩) _) := Lib.hid (apart_app Dlist_3l1_c0.out (fun a_ ha_ => by cases ha_; exact (Go.Proofs.Ytgbcdmlcmnaimaa.GoC.cur_lt Kt_21.out).2) Yt_23.out); have Dt_23_t_19 : Hid (Apart (some ⟨qt_23, 0, none⟩) _) := Lib.hid (apart_app (Apart.symm Dt_19_list_3l1.out) (fun a_ ha_ => (own_lt Ot_19.out a_ ha_).2) Yt_23.out); have Dt_23_t_14 : Hid (Apart (some ⟨qt_23, 0, none⟩) _) := Lib.hid (apart_app (Apart.symm Dt_14_list_3l1.out) (fun a_ ha_ => (own_lt Ot_14.out a_ ha_).2) Yt_23.out); have Dt_23_t_22 : Hid (Apart (some ⟨qt_23, 0, none⟩) _) := Lib.hid (apart_app (Apart.symm Dt_22_list_3l1.out) (fun a_ ha_ => (own_lt Ot_22.out a_ ha_).2) Yt_23.out); replace ct_16_0__88 := cell_other ct_16_0__88 Gt_23.out (Apart.symm Dt_14_list_3l1.out); replace Ot_19 := Lib.hid (own_other Ot_19.out Gt_23.out (Apart.symm Dt_19_list_3l1.out)); replace Ot_14 := Lib.hid (own_other Ot_14.out Gt_23.out (Apart.symm Dt_14_list_3l1.out)); replace Ot_22 := Lib.hid (own_other Ot_22.out Gt_23.out (Apart.symm Dt_22_list_3l1.out)); replace Kt_21 := Lib.hid (Go.Proofs.Ytgbcdmlcmnaimaa.GoC.cur_otherO Kt_21.out Gt_23.out Dlist_3l1_c0.out L0 Olist_3l1.out); clear ct_16_0
                     clear Olist_3l1 Yt_23 Gt_23)
                first | refine hK_.out _ _ ⟨ct_16_0__88, Lib.hid (Nat.zero_le _)⟩ (fun hHeld => ?_) | (go_wp2_with fail; refine hK_.out _ _ ⟨ct_16_0__88, Lib.hid (Nat.zero_le _)⟩ (fun hHeld => ?_))
                clear hK_ K_
                try simp only [Act.put, List.getElem_toArray, List.getElem_cons_zero, List.getElem_cons_succ, List.setIfInBounds_toArray, List.set_cons_zero, List.set_cons_succ]
                refine wpAnyH_take (i := 13) (oi := _) (v := ?_) rfl (by kernel_rfl) (by kernel_rfl) (by kernel_rfl) (fun _ _ _ h => h) (Or.inl ⟨by rfl, ?_⟩) (by assumption) ?_
                rotate_left
                · intro w hSw
                  (try dsimp only at hSw)
                  (try simp only [List.getElem_toArray, List.getElem_cons_zero, List.getElem_cons_succ])
                  go_simp
                  (try with_reducible rfl)
                try simp only [Act.put, List.getElem_toArray, List.getElem_cons_zero, List.getElem_cons_succ, List.setIfInBounds_toArray, List.set_cons_zero, List.set_cons_succ]
                refine wpAnyH_done (by kernel_rfl) ?_ _; go_wp2_with fail
                go_meet
                case rel => exact ⟨_, _, _, _, rfl, H, HBwt_23, Pt_23, Lib.hid Dt_23_c0.out, Kt_21⟩
              refine AllReadyH.cons (o := _) rfl (fun K_ hK_ => ?_) AllReadyH.nil
              (try simp only [List.getElem_toArray, List.getElem_cons_zero, List.getElem_cons_succ])
              go_simp
              have hc0_ := nt_19.out; have Oct_20_1 := Lib.hid (own_len hc0_ Ot_19.out); have con_ := Go.Proofs.Ytgbcdmlcmnaimaa.GsL1CurAmong.C (t_10_tp) (t_19) (some ⟨wt_10.heap.size, 0, none⟩) 3 (g0) (Ac0) (cc0) (bc0) _   (Lib.hid (own_cells Oct_20_1.out)) (Lib.hid (own_max Oct_20_1.out)) Kt_10 (Lib.hid (fun _ => Dt_19_c0.out)) qt_20; rw [hc0_] at con_; clear hc0_ Oct_20_1; go_at_call 56
              with_reducible show Calls _ _ _ w_t_19 _
              refine con_.mono ?_; rintro e_t_20 wt_20 ⟨rfl, kt_20, gt_20⟩; have Kt_20 := Lib.hid kt_20; have Gt_20 : Hid (w_t_19.grownBy wt_20 (Value.slice (some ⟨g0, 0, none⟩) 1 1).ownBlock) := Lib.hid gt_20; clear kt_20 gt_20; have HBwt_20 := Lib.hid (Aid.grown_tr HBw_t_19.out Gt_20.out); replace Olist_3l1 := Lib.hid (own_other Olist_3l1.out Gt_20.out (Apart.symm Dlist_3l1_c0.out)); replace Ot_19 := Lib.hid (own_other Ot_19.out Gt_20.out (Apart.symm Dt_19_c0.out)); clear Kt_10 Gt_20; clear qt_20
              first | refine hK_.out _ _ (Lib.hid (Nat.zero_le _)) (fun hHeld => ?_) | (go_wp2_with fail; refine hK_.out _ _ (Lib.hid (Nat.zero_le _)) (fun hHeld => ?_))
              clear hK_ K_
              try simp only [Act.put, List.getElem_toArray, List.getElem_cons_zero, List.getElem_cons_succ, List.setIfInBounds_toArray, List.set_cons_zero, List.set_cons_succ]
              refine wpAnyH_ready (rs := [3]) (by kernel_rfl) (by simp) ?_; refine AllReadyH.cons (o := _) rfl (fun K_ hK_ => ?_) AllReadyH.nil; obtain ⟨w_t_14, hw_t_14⟩ : ∃ x, wt_20.alloc (.cells #[.int .i64 20, .int .i64 50, .int .i64 100] 3) = x := ⟨_, rfl⟩; have bw_t_14 : Below wt_20.heap.size wt_20 w_t_14 := (by rw [← hw_t_14]; exact (Below.refl _ _).alloc (Nat.le_refl _) _); have hs_t_14 := HBwt_20.out.size; have nt_14 : t_14.length = 3 := (by rw [← ht_14]; rfl)
              have Ot_14 : Hid (w_t_14.ownsRow w.heap.size 3 1 (.slice (some ⟨wt_20.heap.size, 0, none⟩) 3 3) 3 (Go.Proofs.Ytgbcdmlcmnaimaa.HelpInt.iv t_14)) := by
                rw [← hw_t_14, ← ht_14]; have e_ : ([.int .i64 20, .int .i64 50, .int .i64 100] : List Value) = (Go.Proofs.Ytgbcdmlcmnaimaa.HelpInt.iv ([20, 50, 100] : List Int)) := rfl; exact Lib.hid (own_laid (n := 3) hs_t_14 e_ rfl (by unfold maxLen; omega))
              clear hs_t_14; have hht_14 := Lib.hid ht_14; clear ht_14; replace nt_14 := Lib.hid nt_14; have Dt_14_list_3l1 := Lib.hid (apart_fresh Olist_3l1.out); have Dt_14_t_19 := Lib.hid (apart_fresh Ot_19.out); have Dt_14_c0 := Lib.hid (Go.Proofs.Ytgbcdmlcmnaimaa.GoC.apart_cur Kt_20.out); have HBw_t_14 := Lib.hid (grown_below HBwt_20.out bw_t_14); replace Olist_3l1 := Lib.hid (own_below Olist_3l1.out bw_t_14); replace Ot_19 := Lib.hid (own_below Ot_19.out bw_t_14); replace Kt_20 := Lib.hid (Go.Proofs.Ytgbcdmlcmnaimaa.GoC.cur_below Kt_20.out bw_t_14); clear bw_t_14
              (try simp only [List.getElem_toArray, List.getElem_cons_zero, List.getElem_cons_succ])
              go_simp
              first | refine hK_.out _ _ (Lib.hid (Nat.zero_le _)) (fun hHeld => ?_) | (go_wp2_with fail; refine hK_.out _ _ (Lib.hid (Nat.zero_le _)) (fun hHeld => ?_))
              clear hK_ K_
              try simp only [Act.put, List.getElem_toArray, List.getElem_cons_zero, List.getElem_cons_succ, List.setIfInBounds_toArray, List.set_cons_zero, List.set_cons_succ]
              have hqt_16 := nt_14.out; obtain ⟨ab_t_16, ao_t_16, zt_16, At_16, z_t_16, ct_16_0⟩ := Go.Proofs.Ytgbcdmlcmnaimaa.HelpInt.Ints.at_ (own_cells Ot_14.out) (k := k1) (by omega); obtain rfl := Option.some.inj (gt_16.out.symm.trans z_t_16); simp only [Option.some.injEq, Addr.mk.injEq] at At_16; obtain ⟨rfl, rfl, _⟩ := At_16; clear z_t_16; simp only [Nat.zero_add] at ct_16_0; have b0t_16 : (0 : Int) ≤ (k1 : Int) := (by omega); have b1t_16 : (k1 : Int) < ((3 : Nat) : Int) := (by omega); have b2t_16 : ((k1 : Int)).toNat = k1 := (by omega); have b4t_16 : (k1 : Int) < (3 : Int) := (by omega); have b5t_16 : k1 < 3 := (by omega); clear hqt_16; refine wpAnyH_take (i := 5) (oi := _) (v := ?_) rfl (by kernel_rfl) (by kernel_rfl) (by kernel_rfl) (fun _ _ _ h => h) (Or.inl ⟨by rfl, ?_⟩) (by assumption) ?_
              rotate_left
              · intro w hSw
                (try dsimp only at hSw)
                (try simp only [List.getElem_toArray, List.getElem_cons_zero, List.getElem_cons_succ])
                go_simp
                (try with_reducible rfl)
              try simp only [Act.put, List.getElem_toArray, List.getElem_cons_zero, List.getElem_cons_succ, List.setIfInBounds_toArray, List.set_cons_zero, List.set_cons_succ]
              refine Go.Proofs.Ytgbcdmlcmnaimaa.GoR.wpAnyH_more (S' := fun w' => w'.cell? ⟨wt_20.heap.size, k1, none⟩ = some (.int .i64 yt_16) ∧ Hid (0 ≤ w'.heap.size)) (fun w' hS_ => ?_) _ _ _ _ ?_
              · go_split_ands; (repeat' apply And.intro) <;> first | assumption | exact Lib.hid (Nat.zero_le _)
              have hHeld : (fun w' => w'.cell? ⟨wt_20.heap.size, k1, none⟩ = some (.int .i64 yt_16) ∧ Hid (0 ≤ w'.heap.size)) w_t_14 := ⟨ct_16_0, Lib.hid (Nat.zero_le _)⟩; refine wpAnyH_take (i := 6) (oi := _) (v := ?_) rfl (by kernel_rfl) (by kernel_rfl) (by kernel_rfl) (fun _ _ _ h => h) (Or.inl ⟨by rfl, ?_⟩) (by assumption) ?_
              rotate_left
              · intro w hSw
                (try dsimp only at hSw)
                (try simp only [List.getElem_toArray, List.getElem_cons_zero, List.getElem_cons_succ])
                go_simp
                (try with_reducible rfl)
              try simp only [Act.put, List.getElem_toArray, List.getElem_cons_zero, List.getElem_cons_succ, List.setIfInBounds_toArray, List.set_cons_zero, List.set_cons_succ]
              refine wpAnyH_ready (rs := [10]) (by kernel_rfl) (by simp) ?_; refine AllReadyH.cons (o := _) rfl (fun K_ hK_ => ?_) AllReadyH.nil
              (try simp only [List.getElem_toArray, List.getElem_cons_zero, List.getElem_cons_succ])
              go_simp
              go_at_call 76
              with_reducible show Calls _ _ _ w_t_14 _
              refine (Go.Proofs.Ytgbcdmlcmnaimaa.GsL1CurRate.C (t_20_tp) ((k0 : Int)) (yt_16) (t_20) (g0) (Ac0) (cc0) (bc0) _   Kt_20 qt_21).mono ?_; rintro e_t_21 wt_21 ⟨rfl, kt_21, gt_21⟩; unfold Go.Proofs.Ytgbcdmlcmnaimaa.PRate.Rate.val; have Kt_21 := Lib.hid kt_21; have Gt_21 : Hid (w_t_14.grownBy wt_21 (Value.slice (some ⟨g0, 0, none⟩) 1 1).ownBlock) := Lib.hid gt_21; clear kt_21 gt_21; have HBwt_21 := Lib.hid (Aid.grown_tr HBw_t_14.out Gt_21.out); replace ct_16_0 := cell_other ct_16_0 Gt_21.out (Apart.symm Dt_14_c0.out); replace Olist_3l1 := Lib.hid (own_other Olist_3l1.out Gt_21.out (Apart.symm Dlist_3l1_c0.out)); replace Ot_19 := Lib.hid (own_other Ot_19.out Gt_21.out (Apart.symm Dt_19_c0.out)); replace Ot_14 := Lib.hid (own_other Ot_14.out Gt_21.out (Apart.symm Dt_14_c0.out)); clear Kt_20 Gt_21; clear qt_21
              first | refine hK_.out _ _ ⟨ct_16_0, Lib.hid (Nat.zero_le _)⟩ (fun hHeld => ?_) | (go_wp2_with fail; refine hK_.out _ _ ⟨ct_16_0, Lib.hid (Nat.zero_le _)⟩ (fun hHeld => ?_))
              clear hK_ K_
              try simp only [Act.put, List.getElem_toArray, List.getElem_cons_zero, List.getElem_cons_succ, List.setIfInBounds_toArray, List.set_cons_zero, List.set_cons_succ]
              refine wpAnyH_ready (rs := [11]) (by kernel_rfl) (by simp) ?_; refine AllReadyH.cons (o := _) rfl (fun K_ hK_ => ?_) AllReadyH.nil; obtain ⟨w_t_22, hw_t_22⟩ : ∃ x, wt_21.alloc (.cells #[.int .i64 t_21_zone, .int .i64 t_21_grams, .int .i64 t_21_from_, .int .i64 t_21_until_, .int .i64 t_21_cents] 92) = x := ⟨_, rfl⟩; have bw_t_22 : Below wt_21.heap.size wt_21 w_t_22 := (by rw [← hw_t_22]; exact (Below.refl _ _).alloc (Nat.le_refl _) _); have Ot_22 : Hid (w_t_22.ownsRow w.heap.size 92 5 (.slice (some ⟨wt_21.heap.size, 0, none⟩) 1 1) 1 [.int .i64 t_21_zone, .int .i64 t_21_grams, .int .i64 t_21_from_, .int .i64 t_21_until_, .int .i64 t_21_cents]) := Lib.hid (by rw [← hw_t_22]; exact own_laid (n := 1) HBwt_21.out.size (rfl : ([.int .i64 t_21_zone, .int .i64 t_21_grams, .int .i64 t_21_from_, .int .i64 t_21_until_, .int .i64 t_21_cents] : List Value) = [.int .i64 t_21_zone, .int .i64 t_21_grams, .int .i64 t_21_from_, .int .i64 t_21_until_, .int .i64 t_21_cents]) rfl (by unfold maxLen; omega)); have Dt_22_list_3l1 := Lib.hid (apart_fresh Olist_3l1.out); have Dt_22_t_19 := Lib.hid (apart_fresh Ot_19.out); have Dt_22_t_14 := Lib.hid (apart_fresh Ot_14.out); have Dt_22_c0 := Lib.hid (Go.Proofs.Ytgbcdmlcmnaimaa.GoC.apart_cur Kt_21.out); have HBw_t_22 := Lib.hid (grown_below HBwt_21.out bw_t_22); have ct_16_0__89 := cell_below bw_t_22 ct_16_0; replace Olist_3l1 := Lib.hid (own_below Olist_3l1.out bw_t_22); replace Ot_19 := Lib.hid (own_below Ot_19.out bw_t_22); replace Ot_14 := Lib.hid (own_below Ot_14.out bw_t_22); replace Kt_21 := Lib.hid (Go.Proofs.Ytgbcdmlcmnaimaa.GoC.cur_below Kt_21.out bw_t_22); clear bw_t_22
              (try simp only [List.getElem_toArray, List.getElem_cons_zero, List.getElem_cons_succ])
              go_simp
              first | refine hK_.out _ _ ⟨ct_16_0__89, Lib.hid (Nat.zero_le _)⟩ (fun hHeld => ?_) | (go_wp2_with fail; refine hK_.out _ _ ⟨ct_16_0__89, Lib.hid (Nat.zero_le _)⟩ (fun hHeld => ?_))
              clear hK_ K_
              try simp only [Act.put, List.getElem_toArray, List.getElem_cons_zero, List.getElem_cons_succ, List.setIfInBounds_toArray, List.set_cons_zero, List.set_cons_succ]
              refine wpAnyH_ready (rs := [12]) (by kernel_rfl) (by simp) ?_; refine AllReadyH.cons (o := _) rfl (fun K_ hK_ => ?_) AllReadyH.nil
              first
                | (have hst_23 := HBw_t_22.out.size
                   have h1t_23 : list_3l1.length + 1 ≤ maxLen := (by unfold maxLen; omega); have h2t_23 : (list_3l1.length + 1) * 40 ≤ 140737488355328 := (by omega); have h3t_23 := Ot_22.out.cells rfl; refine Go.Proofs.Ytgbcdmlcmnaimaa.GoH.step_append_own (w := w_t_22) rfl (.tmp 18) (.tmp 29) 24 rfl w.heap.size 92 i0_92 (.agg #[.int .i64 0, .int .i64 0, .int .i64 0, .int .i64 0, .int .i64 0]) 5 40 Try.underlying24 hi_92 hz0_92 hz1_92 hz2_92 rfl (by decide) Alist_3l1 clist_3l1 list_3l1.length _ rfl Olist_3l1.out ⟨wt_21.heap.size, 0, none⟩ 1 [.int .i64 t_21_zone, .int .i64 t_21_grams, .int .i64 t_21_from_, .int .i64 t_21_until_, .int .i64 t_21_cents] rfl rfl h3t_23 (one_cells rfl) h1t_23 h2t_23 hst_23 ?_; intro vt_23 wt_23 ot_23 gt_23 yt_23; obtain ⟨qt_23, ct_23, rfl, pt_23⟩ := own_push hht_23.out (Go.Proofs.Ytgbcdmlcmnaimaa.PRate.flat_snoc _ _) rfl ot_23; have Pt_23 := Lib.hid pt_23; have Yt_23 := Lib.hid yt_23; have Gt_23 := Lib.hid gt_23; clear ot_23 gt_23 pt_23 yt_23; have HBwt_23 := Lib.hid (Go.Proofs.Ytgbcdmlcmnaimaa.GoC.grown_new HBw_t_22.out Gt_23.out (Go.Proofs.Ytgbcdmlcmnaimaa.GoC.own_ge Olist_3l1.out)); clear hst_23; have Dt_23_c0 : Hid (Apart (some ⟨qt_23, 0, none⟩) _) := Lib.hid (apart_app Dlist_3l1_c0.out (fun a_ ha_ => by cases ha_; exact (Go.Proofs.Ytgbcdmlcmnaimaa.GoC.cur_lt Kt_21.out).2) Yt_23.out); have Dt_23_t_19 : Hid (Apart (some ⟨qt_23, 0, none⟩) _) := Lib.hid (apart_app (Apart.symm Dt_19_list_3l1.out) (fun a_ ha_ => (own_lt Ot_19.out a_ ha_).2) Yt_23.out); have Dt_23_t_14 : Hid (Apart (some ⟨qt_23, 0, none⟩) _) := Lib.hid (apart_app (Apart.symm Dt_14_list_3l1.out) (fun a_ ha_ => (own_lt Ot_14.out a_ ha_).2) Yt_23.out); have Dt_23_t_22 : Hid (Apart (some ⟨qt_23, 0, none⟩) _) := Lib.hid (apart_app (Apart.symm Dt_22_list_3l1.out) (fun a_ ha_ => (own_lt Ot_22.out a_ ha_).2) Yt_23.out); replace ct_16_0__89 := cell_other ct_16_0__89 Gt_23.out (Apart.symm Dt_14_list_3l1.out); replace Ot_19 := Lib.hid (own_other Ot_19.out Gt_23.out (Apart.symm Dt_19_list_3l1.out)); replace Ot_14 := Lib.hid (own_other Ot_14.out Gt_23.out (Apart.symm Dt_14_list_3l1.out)); replace Ot_22 := Lib.hid (own_other Ot_22.out Gt_23.out (Apart.symm Dt_22_list_3l1.out)); replace Kt_21 := Lib.hid (Go.Proofs.Ytgbcdmlcmnaimaa.GoC.cur_otherO Kt_21.out Gt_23.out Dlist_3l1_c0.out L0 Olist_3l1.out); clear ct_16_0
                   clear Olist_3l1 Yt_23 Gt_23)
                | (go_simp
                   have hst_23 := HBw_t_22.out.size; have h1t_23 : list_3l1.length + 1 ≤ maxLen := (by unfold maxLen; omega); have h2t_23 : (list_3l1.length + 1) * 40 ≤ 140737488355328 := (by omega); have h3t_23 := Ot_22.out.cells rfl; refine Go.Proofs.Ytgbcdmlcmnaimaa.GoH.step_append_own (w := w_t_22) rfl (.tmp 18) (.tmp 29) 24 rfl w.heap.size 92 i0_92 (.agg #[.int .i64 0, .int .i64 0, .int .i64 0, .int .i64 0, .int .i64 0]) 5 40 Try.underlying24 hi_92 hz0_92 hz1_92 hz2_92 rfl (by decide) Alist_3l1 clist_3l1 list_3l1.length _ rfl Olist_3l1.out ⟨wt_21.heap.size, 0, none⟩ 1 [.int .i64 t_21_zone, .int .i64 t_21_grams, .int .i64 t_21_from_, .int .i64 t_21_until_, .int .i64 t_21_cents] rfl rfl h3t_23 (one_cells rfl) h1t_23 h2t_23 hst_23 ?_; intro vt_23 wt_23 ot_23 gt_23 yt_23; obtain ⟨qt_23, ct_23, rfl, pt_23⟩ := own_push hht_23.out (Go.Proofs.Ytgbcdmlcmnaimaa.PRate.flat_snoc _ _) rfl ot_23; have Pt_23 := Lib.hid pt_23; have Yt_23 := Lib.hid yt_23; have Gt_23 := Lib.hid gt_23; clear ot_23 gt_23 pt_23 yt_23; have HBwt_23 := Lib.hid (Go.Proofs.Ytgbcdmlcmnaimaa.GoC.grown_new HBw_t_22.out Gt_23.out (Go.Proofs.Ytgbcdmlcmnaimaa.GoC.own_ge Olist_3l1.out)); clear hst_23; have Dt_23_c0 : Hid (Apart (some ⟨qt_23, 0, none⟩) _) := Lib.hid (apart_app Dlist_3l1_c0.out (fun a_ ha_ => by cases ha_; exact (Go.Proofs.Ytgbcdmlcmnaimaa.GoC.cur_lt Kt_21.out).2) Yt_23.out); have Dt_23_t_19 : Hid (Apart (some ⟨qt_23, 0, none⟩) _) := Lib.hid (apart_app (Apart.symm Dt_19_list_3l1.out) (fun a_ ha_ => (own_lt Ot_19.out a_ ha_).2) Yt_23.out); have Dt_23_t_14 : Hid (Apart (some ⟨qt_23, 0, none⟩) _) := Lib.hid (apart_app (Apart.symm Dt_14_list_3l1.out) (fun a_ ha_ => (own_lt Ot_14.out a_ ha_).2) Yt_23.out); have Dt_23_t_22 : Hid (Apart (some ⟨qt_23, 0, none⟩) _) := Lib.hid (apart_app (Apart.symm Dt_22_list_3l1.out) (fun a_ ha_ => (own_lt Ot_22.out a_ ha_).2) Yt_23.out); replace ct_16_0__89 := cell_other ct_16_0__89 Gt_23.out (Apart.symm Dt_14_list_3l1.out); replace Ot_19 := Lib.hid (own_other Ot_19.out Gt_23.out (Apart.symm Dt_19_list_3l1.out)); replace Ot_14 := Lib.hid (own_other Ot_14.out Gt_23.out (Apart.symm Dt_14_list_3l1.out)); replace Ot_22 := Lib.hid (own_other Ot_22.out Gt_23.out (Apart.symm Dt_22_list_3l1.out)); replace Kt_21 := Lib.hid (Go.Proofs.Ytgbcdmlcmnaimaa.GoC.cur_otherO Kt_21.out Gt_23.out Dlist_3l1_c0.out L0 Olist_3l1.out); clear ct_16_0
                   clear Olist_3l1 Yt_23 Gt_23)
              first | refine hK_.out _ _ ⟨ct_16_0__89, Lib.hid (Nat.zero_le _)⟩ (fun hHeld => ?_) | (go_wp2_with fail; refine hK_.out _ _ ⟨ct_16_0__89, Lib.hid (Nat.zero_le _)⟩ (fun hHeld => ?_))
              clear hK_ K_
              try simp only [Act.put, List.getElem_toArray, List.getElem_cons_zero, List.getElem_cons_succ, List.setIfInBounds_toArray, List.set_cons_zero, List.set_cons_succ]
              refine wpAnyH_take (i := 13) (oi := _) (v := ?_) rfl (by kernel_rfl) (by kernel_rfl) (by kernel_rfl) (fun _ _ _ h => h) (Or.inl ⟨by rfl, ?_⟩) (by assumption) ?_
              rotate_left
              · intro w hSw
                (try dsimp only at hSw)
                (try simp only [List.getElem_toArray, List.getElem_cons_zero, List.getElem_cons_succ])
                go_simp
                (try with_reducible rfl)
              try simp only [Act.put, List.getElem_toArray, List.getElem_cons_zero, List.getElem_cons_succ, List.setIfInBounds_toArray, List.set_cons_zero, List.set_cons_succ]
              refine wpAnyH_done (by kernel_rfl) ?_ _; go_wp2_with fail
              go_meet
              case rel => exact ⟨_, _, _, _, rfl, H, HBwt_23, Pt_23, Lib.hid Dt_23_c0.out, Kt_21⟩
            case rest =>
              obtain ⟨list_3q0, c0_c0q0, Alist_3q0, clist_3q0, rfl, H, HBwq0, Olist_3q0, Dlist_3q0_c0, Kq0_0⟩ := hcut; rename World => wq0; unfold q0 at H; replace H := unp2_hid H; replace H := let_hid H; obtain ⟨t_28, ht_28, H⟩ := H
              try have hv_t_28 : (list_3q0.length : Int) - 1 = t_28 := by rw [← ht_28]; exact (IntWalk.i64_in _ (by omega)).symm
              try have hv2_t_28 : IntKind.i64.wrap t_28 = t_28 := by rw [← hv_t_28]; exact IntWalk.i64_in _ (by omega)
              replace H := idx_hid H; obtain ⟨nt_29, yt_29, et_29, lt_29, gt_29, H⟩ := H; subst et_29; obtain ⟨t_29_zone, t_29_grams, t_29_from_, t_29_until_, t_29_cents⟩ := yt_29; replace H := unRate_hid H; obtain ⟨qt_29, Qt_29⟩ := own_some Olist_3q0.out (by omega); subst Qt_29; obtain ⟨ab_t_29, ao_t_29, zt_29, At_29, z_t_29, ct_29_0, ct_29_1, ct_29_2, ct_29_3, ct_29_4⟩ := Go.Proofs.Ytgbcdmlcmnaimaa.ORate.at_ (own_cells Olist_3q0.out) (k := nt_29) (by omega); obtain rfl := Option.some.inj (gt_29.out.symm.trans z_t_29); simp only [Option.some.injEq, Addr.mk.injEq] at At_29; obtain ⟨rfl, rfl, _⟩ := At_29; clear z_t_29; simp only [Nat.zero_add] at ct_29_0 ct_29_1 ct_29_2 ct_29_3 ct_29_4; have b0t_29 : (0 : Int) ≤ (nt_29 : Int) := (by omega); have b1t_29 : (nt_29 : Int) < ((list_3q0.length : Nat) : Int) := (by omega); have b2t_29 : ((nt_29 : Int)).toNat = nt_29 := (by omega); obtain ⟨w_last_31, hw_last_31⟩ : ∃ x, wq0.alloc (.cells #[.int .i64 t_29_zone, .int .i64 t_29_grams, .int .i64 t_29_from_, .int .i64 t_29_until_, .int .i64 t_29_cents] 92) = x := ⟨_, rfl⟩; have bw_last_31 : Below wq0.heap.size wq0 w_last_31 := (by rw [← hw_last_31]; exact (Below.refl _ _).alloc (Nat.le_refl _) _); have Dlast_31_list_3q0 := Lib.hid (apart_fresh Olist_3q0.out); have Dlast_31_c0 := Lib.hid (Go.Proofs.Ytgbcdmlcmnaimaa.GoC.apart_cur Kq0_0.out); have HBw_last_31 := Lib.hid (grown_below HBwq0.out bw_last_31); have ct_29_0__90 := cell_below bw_last_31 ct_29_0; have ct_29_1__91 := cell_below bw_last_31 ct_29_1; have ct_29_2__92 := cell_below bw_last_31 ct_29_2; have ct_29_3__93 := cell_below bw_last_31 ct_29_3; have ct_29_4__94 := cell_below bw_last_31 ct_29_4; replace Olist_3q0 := Lib.hid (own_below Olist_3q0.out bw_last_31); replace Kq0_0 := Lib.hid (Go.Proofs.Ytgbcdmlcmnaimaa.GoC.cur_below Kq0_0.out bw_last_31); clear bw_last_31; have klast_31_0 : w_last_31.cell? ⟨wq0.heap.size, 0, none⟩ = some (.int .i64 t_29_zone) := (by rw [← hw_last_31]; exact box_new _ _ _ 0 _ rfl); have klast_31_1 : w_last_31.cell? ⟨wq0.heap.size, 1, none⟩ = some (.int .i64 t_29_grams) := (by rw [← hw_last_31]; exact box_new _ _ _ 1 _ rfl); have klast_31_2 : w_last_31.cell? ⟨wq0.heap.size, 2, none⟩ = some (.int .i64 t_29_from_) := (by rw [← hw_last_31]; exact box_new _ _ _ 2 _ rfl); have klast_31_3 : w_last_31.cell? ⟨wq0.heap.size, 3, none⟩ = some (.int .i64 t_29_until_) := (by rw [← hw_last_31]; exact box_new _ _ _ 3 _ rfl); have klast_31_4 : w_last_31.cell? ⟨wq0.heap.size, 4, none⟩ = some (.int .i64 t_29_cents) := (by rw [← hw_last_31]; exact box_new _ _ _ 4 _ rfl); go_upto_region 11 with fail; clear ct_29_0 ct_29_1 ct_29_2 ct_29_3 ct_29_4
              go_cut [43] (fun v43_ wr => ∃ (t_43q1 : Bool) (c0_c0q1 : Go.Proofs.Ytgbcdmlcmnaimaa.GoC.Tape), v43_ = .bool t_43q1 ∧ Hid (q1 k0 (fun s' => cntK (l1 k0) m1 (k1 + 1) s' (e1 (fun s' => cntK (l0 ) m0 (k0 + 1) s' (e0 fuel)))) list_3q0 t_29_grams t_29_until_ (t_43q1, c0_c0q1) = some (r, t_)) ∧ Hid (w.grownBy wr (Value.slice (some ⟨g0, 0, none⟩) 1 1).ownBlock) ∧ wr.cell? ⟨wq0.heap.size, 0, none⟩ = some (.int .i64 t_29_zone) ∧ wr.cell? ⟨wq0.heap.size, 1, none⟩ = some (.int .i64 t_29_grams) ∧ wr.cell? ⟨wq0.heap.size, 2, none⟩ = some (.int .i64 t_29_from_) ∧ wr.cell? ⟨wq0.heap.size, 3, none⟩ = some (.int .i64 t_29_until_) ∧ wr.cell? ⟨wq0.heap.size, 4, none⟩ = some (.int .i64 t_29_cents) ∧ Hid (wr.ownsRow w.heap.size 92 5 (.slice (some ⟨qt_29, 0, none⟩) list_3q0.length clist_3q0) list_3q0.length (Go.Proofs.Ytgbcdmlcmnaimaa.PRate.flat list_3q0)) ∧ Hid (Go.Proofs.Ytgbcdmlcmnaimaa.GoC.CurIs wr bc0 g0 Ac0 cc0 c0_c0q1))
              case first =>
                replace H := bind2_hid H; obtain ⟨t_34, t_34_tp, qt_34, H⟩ := H; go_wp2_with fail; go_at_call 75; refine (Go.Proofs.Ytgbcdmlcmnaimaa.GsL1CurOne.C (c0_c0q0) (2) (g0) (Ac0) (cc0) (bc0) _   Kq0_0 qt_34).mono ?_; rintro e_t_34 wt_34 ⟨rfl, kt_34, gt_34⟩; have Kt_34 := Lib.hid kt_34; have Gt_34 : Hid (w_last_31.grownBy wt_34 (Value.slice (some ⟨g0, 0, none⟩) 1 1).ownBlock) := Lib.hid gt_34; clear kt_34 gt_34; have HBwt_34 := Lib.hid (Aid.grown_tr HBw_last_31.out Gt_34.out); replace ct_29_0__90 := cell_other ct_29_0__90 Gt_34.out (Apart.symm Dlist_3q0_c0.out); replace ct_29_1__91 := cell_other ct_29_1__91 Gt_34.out (Apart.symm Dlist_3q0_c0.out); replace ct_29_2__92 := cell_other ct_29_2__92 Gt_34.out (Apart.symm Dlist_3q0_c0.out); replace ct_29_3__93 := cell_other ct_29_3__93 Gt_34.out (Apart.symm Dlist_3q0_c0.out); replace ct_29_4__94 := cell_other ct_29_4__94 Gt_34.out (Apart.symm Dlist_3q0_c0.out); replace klast_31_0 := cell_other klast_31_0 Gt_34.out (Apart.symm Dlast_31_c0.out); replace klast_31_1 := cell_other klast_31_1 Gt_34.out (Apart.symm Dlast_31_c0.out); replace klast_31_2 := cell_other klast_31_2 Gt_34.out (Apart.symm Dlast_31_c0.out); replace klast_31_3 := cell_other klast_31_3 Gt_34.out (Apart.symm Dlast_31_c0.out); replace klast_31_4 := cell_other klast_31_4 Gt_34.out (Apart.symm Dlast_31_c0.out); replace Olist_3q0 := Lib.hid (own_other Olist_3q0.out Gt_34.out (Apart.symm Dlist_3q0_c0.out)); clear Kq0_0 Gt_34; replace H := join_hid H
                cases t_34 with
                | false =>
                  replace H := ite_f H; replace H := app_hid H; go_wp2_with fail
                  go_meet
                  case rel => exact ⟨_, _, rfl, H, HBwt_34, klast_31_0, klast_31_1, klast_31_2, klast_31_3, klast_31_4, Olist_3q0, Kt_34⟩
                | true =>
                  replace H := ite_t H; replace H := let_hid H; obtain ⟨t_38, ht_38, H⟩ := H; replace H := app_hid H; go_wp2_with fail
                  go_meet
                  case rel => exact ⟨_, _, rfl, H, HBwt_34, klast_31_0, klast_31_1, klast_31_2, klast_31_3, klast_31_4, Olist_3q0, Kt_34⟩
              case rest =>
                obtain ⟨t_43q1, c0_c0q1, rfl, H, HBwq1, klast_31_0, klast_31_1, klast_31_2, klast_31_3, klast_31_4, Olist_3q0, Kq1_0⟩ := hcut; rename World => wq1; unfold q1 at H; replace H := unp2_hid H
                cases t_43q1 with
                | false =>
                  replace H := ite_f H; replace H := app_hid H; go_wp2_with fail
                  go_roundg m1
                  case measure => omega
                  case rel => exact ⟨k1 + 1, _, _, _, _, by omega, by go_num, rfl, H, HBwq1, Olist_3q0, Lib.hid Dlist_3q0_c0.out, Kq1_0⟩
                | true =>
                  replace H := ite_t H; go_wp2_with fail; have bd12 : Below wq1.heap.size wq1 wq1.drew := (Below.refl _ _).drew; have HBwq1.drew := Lib.hid (grown_below HBwq1.out bd12); replace klast_31_0 := cell_below bd12 klast_31_0; replace klast_31_1 := cell_below bd12 klast_31_1; replace klast_31_2 := cell_below bd12 klast_31_2; replace klast_31_3 := cell_below bd12 klast_31_3; replace klast_31_4 := cell_below bd12 klast_31_4; replace Olist_3q0 := Lib.hid (own_below Olist_3q0.out bd12); replace Kq1_0 := Lib.hid (Go.Proofs.Ytgbcdmlcmnaimaa.GoC.cur_below Kq1_0.out bd12); clear bd12; replace H := let_hid H; obtain ⟨t_48, ht_48, H⟩ := H; obtain ⟨w_t_48, hw_t_48⟩ : ∃ x, wq1.drew.alloc (.cells #[.int .i64 1, .int .i64 1, .int .i64 3] 3) = x := ⟨_, rfl⟩; have bw_t_48 : Below wq1.drew.heap.size wq1.drew w_t_48 := (by rw [← hw_t_48]; exact (Below.refl _ _).alloc (Nat.le_refl _) _); have hs_t_48 := HBwq1.drew.out.size; have nt_48 : t_48.length = 3 := (by rw [← ht_48]; rfl)
                  have Ot_48 : Hid (w_t_48.ownsRow w.heap.size 3 1 (.slice (some ⟨wq1.heap.size, 0, none⟩) 3 3) 3 (Go.Proofs.Ytgbcdmlcmnaimaa.HelpInt.iv t_48)) := by
                    rw [← hw_t_48, ← ht_48]; have e_ : ([.int .i64 1, .int .i64 1, .int .i64 3] : List Value) = (Go.Proofs.Ytgbcdmlcmnaimaa.HelpInt.iv ([1, 1, 3] : List Int)) := rfl; exact Lib.hid (own_laid (n := 3) hs_t_48 e_ rfl (by unfold maxLen; omega))
                  clear hs_t_48; have hht_48 := Lib.hid ht_48; clear ht_48; replace nt_48 := Lib.hid nt_48; have Dt_48_list_3q0 := Lib.hid (apart_fresh Olist_3q0.out); have Dt_48_c0 := Lib.hid (Go.Proofs.Ytgbcdmlcmnaimaa.GoC.apart_cur Kq1_0.out); have Dt_48_last_31 := Lib.hid (apart_box klast_31_0); have HBw_t_48 := Lib.hid (grown_below HBwq1.drew.out bw_t_48); have klast_31_0__95 := cell_below bw_t_48 klast_31_0; have klast_31_1__96 := cell_below bw_t_48 klast_31_1; have klast_31_2__97 := cell_below bw_t_48 klast_31_2; have klast_31_3__98 := cell_below bw_t_48 klast_31_3; have klast_31_4__99 := cell_below bw_t_48 klast_31_4; replace Olist_3q0 := Lib.hid (own_below Olist_3q0.out bw_t_48); replace Kq1_0 := Lib.hid (Go.Proofs.Ytgbcdmlcmnaimaa.GoC.cur_below Kq1_0.out bw_t_48); clear bw_t_48; replace H := bind2_hid H; obtain ⟨t_49, t_49_tp, qt_49, H⟩ := H; replace H := let_hid H; obtain ⟨t_50, ht_50, H⟩ := H; replace H := bind2_hid H; obtain ⟨t_51, t_51_tp, qt_51, H⟩ := H; obtain ⟨t_51_zone, t_51_grams, t_51_from_, t_51_until_, t_51_cents⟩ := t_51; replace H := unRate_hid H; replace H := guard_hid H; obtain ⟨hlt_53, H⟩ := H; replace H := let_hid H; obtain ⟨t_53, ht_53, H⟩ := H; have hht_53 := Lib.hid ht_53; clear ht_53
                  go_region_held3 (fun w' => w'.cell? ⟨wq0.heap.size, 0, none⟩ = some (.int .i64 t_29_zone) ∧ w'.cell? ⟨wq0.heap.size, 1, none⟩ = some (.int .i64 t_29_grams) ∧ w'.cell? ⟨wq0.heap.size, 2, none⟩ = some (.int .i64 t_29_from_) ∧ w'.cell? ⟨wq0.heap.size, 3, none⟩ = some (.int .i64 t_29_until_) ∧ w'.cell? ⟨wq0.heap.size, 4, none⟩ = some (.int .i64 t_29_cents)) (first | exact ⟨klast_31_0, klast_31_1, klast_31_2, klast_31_3, klast_31_4⟩ | exact ⟨klast_31_0__95, klast_31_1__96, klast_31_2__97, klast_31_3__98, klast_31_4__99⟩ | exact ⟨klast_31_0__100, klast_31_1__101, klast_31_2__102, klast_31_3__103, klast_31_4__104⟩)
                      (first
                        | (have hc0_ := nt_48.out
                           have Oct_49_1 := Lib.hid (own_len hc0_ Ot_48.out); have con_ := Go.Proofs.Ytgbcdmlcmnaimaa.GsL1CurAmong.C (c0_c0q1) (t_48) (some ⟨wq1.heap.size, 0, none⟩) 3 (g0) (Ac0) (cc0) (bc0) _   (Lib.hid (own_cells Oct_49_1.out)) (Lib.hid (own_max Oct_49_1.out)) Kq1_0 (Lib.hid (fun _ => Dt_48_c0.out)) qt_49; rw [hc0_] at con_; clear hc0_ Oct_49_1; go_at_call 56; refine con_.mono ?_; rintro e_t_49 wt_49 ⟨rfl, kt_49, gt_49⟩; have Kt_49 := Lib.hid kt_49; have Gt_49 : Hid (w_t_48.grownBy wt_49 (Value.slice (some ⟨g0, 0, none⟩) 1 1).ownBlock) := Lib.hid gt_49; clear kt_49 gt_49; have HBwt_49 := Lib.hid (Aid.grown_tr HBw_t_48.out Gt_49.out); replace klast_31_0__95 := cell_other klast_31_0__95 Gt_49.out (Apart.symm Dlast_31_c0.out); replace klast_31_1__96 := cell_other klast_31_1__96 Gt_49.out (Apart.symm Dlast_31_c0.out); replace klast_31_2__97 := cell_other klast_31_2__97 Gt_49.out (Apart.symm Dlast_31_c0.out); replace klast_31_3__98 := cell_other klast_31_3__98 Gt_49.out (Apart.symm Dlast_31_c0.out); replace klast_31_4__99 := cell_other klast_31_4__99 Gt_49.out (Apart.symm Dlast_31_c0.out); replace Olist_3q0 := Lib.hid (own_other Olist_3q0.out Gt_49.out (Apart.symm Dlist_3q0_c0.out)); replace Ot_48 := Lib.hid (own_other Ot_48.out Gt_49.out (Apart.symm Dt_48_c0.out)); clear klast_31_0 klast_31_1 klast_31_2 klast_31_3 klast_31_4; clear Kq1_0 Gt_49
                           clear qt_49)
                        | (go_at_call 76
                           refine (Go.Proofs.Ytgbcdmlcmnaimaa.GsL1CurRate.C (t_49_tp) ((k0 : Int)) (t_29_grams) (t_50) (g0) (Ac0) (cc0) (bc0) _   Kt_49 qt_51).mono ?_; rintro e_t_51 wt_51 ⟨rfl, kt_51, gt_51⟩; unfold Go.Proofs.Ytgbcdmlcmnaimaa.PRate.Rate.val; have Kt_51 := Lib.hid kt_51; have Gt_51 : Hid (wt_49.grownBy wt_51 (Value.slice (some ⟨g0, 0, none⟩) 1 1).ownBlock) := Lib.hid gt_51; clear kt_51 gt_51; have HBwt_51 := Lib.hid (Aid.grown_tr HBwt_49.out Gt_51.out); replace klast_31_0__95 := cell_other klast_31_0__95 Gt_51.out (Apart.symm Dlast_31_c0.out); replace klast_31_1__96 := cell_other klast_31_1__96 Gt_51.out (Apart.symm Dlast_31_c0.out); replace klast_31_2__97 := cell_other klast_31_2__97 Gt_51.out (Apart.symm Dlast_31_c0.out); replace klast_31_3__98 := cell_other klast_31_3__98 Gt_51.out (Apart.symm Dlast_31_c0.out); replace klast_31_4__99 := cell_other klast_31_4__99 Gt_51.out (Apart.symm Dlast_31_c0.out); replace Olist_3q0 := Lib.hid (own_other Olist_3q0.out Gt_51.out (Apart.symm Dlist_3q0_c0.out)); replace Ot_48 := Lib.hid (own_other Ot_48.out Gt_51.out (Apart.symm Dt_48_c0.out)); clear Kt_49 Gt_51; clear qt_51; obtain ⟨w_t_52, hw_t_52⟩ : ∃ x, wt_51.alloc (.cells #[.int .i64 t_51_zone, .int .i64 t_51_grams, .int .i64 t_51_from_, .int .i64 t_51_until_, .int .i64 t_51_cents] 92) = x := ⟨_, rfl⟩; have bw_t_52 : Below wt_51.heap.size wt_51 w_t_52 := (by rw [← hw_t_52]; exact (Below.refl _ _).alloc (Nat.le_refl _) _); have HBw_t_52 := Lib.hid (grown_below HBwt_51.out bw_t_52); have klast_31_0__100 := cell_below bw_t_52 klast_31_0__95; have klast_31_1__101 := cell_below bw_t_52 klast_31_1__96; have klast_31_2__102 := cell_below bw_t_52 klast_31_2__97; have klast_31_3__103 := cell_below bw_t_52 klast_31_3__98; have klast_31_4__104 := cell_below bw_t_52 klast_31_4__99; replace Olist_3q0 := Lib.hid (own_below Olist_3q0.out bw_t_52); replace Ot_48 := Lib.hid (own_below Ot_48.out bw_t_52); replace Kt_51 := Lib.hid (Go.Proofs.Ytgbcdmlcmnaimaa.GoC.cur_below Kt_51.out bw_t_52)
                           clear bw_t_52)
                        | (have hst_53 := HBw_t_52.out.size
                           have h1t_53 : list_3q0.length + 1 ≤ maxLen := (by unfold maxLen; omega); have h2t_53 : (list_3q0.length + 1) * 40 ≤ 140737488355328 := (by omega); have h3t_53 := news_new hw_t_52; refine Go.Proofs.Ytgbcdmlcmnaimaa.GoH.step_append_own (w := w_t_52) rfl (.tmp 44) (.tmp 56) 24 rfl w.heap.size 92 i0_92 (.agg #[.int .i64 0, .int .i64 0, .int .i64 0, .int .i64 0, .int .i64 0]) 5 40 Try.underlying24 hi_92 hz0_92 hz1_92 hz2_92 rfl (by decide) (some ⟨qt_29, 0, none⟩) clist_3q0 list_3q0.length _ rfl Olist_3q0.out ⟨wt_51.heap.size, 0, none⟩ 1 [.int .i64 t_51_zone, .int .i64 t_51_grams, .int .i64 t_51_from_, .int .i64 t_51_until_, .int .i64 t_51_cents] rfl rfl h3t_53 (one_cells rfl) h1t_53 h2t_53 hst_53 ?_; intro vt_53 wt_53 ot_53 gt_53 yt_53; obtain ⟨qt_53, ct_53, rfl, pt_53⟩ := own_push hht_53.out (Go.Proofs.Ytgbcdmlcmnaimaa.PRate.flat_snoc _ _) rfl ot_53; have Pt_53 := Lib.hid pt_53; have Yt_53 := Lib.hid yt_53; have Gt_53 := Lib.hid gt_53; clear ot_53 gt_53 pt_53 yt_53; have HBwt_53 := Lib.hid (Go.Proofs.Ytgbcdmlcmnaimaa.GoC.grown_new HBw_t_52.out Gt_53.out (Go.Proofs.Ytgbcdmlcmnaimaa.GoC.own_ge Olist_3q0.out)); clear hst_53; have Dt_53_c0 : Hid (Apart (some ⟨qt_53, 0, none⟩) _) := Lib.hid (apart_app Dlist_3q0_c0.out (fun a_ ha_ => by cases ha_; exact (Go.Proofs.Ytgbcdmlcmnaimaa.GoC.cur_lt Kt_51.out).2) Yt_53.out); have Dt_53_last_31 : Hid (Apart (some ⟨qt_53, 0, none⟩) _) := Lib.hid (apart_app (Apart.symm Dlast_31_list_3q0.out) (fun a_ ha_ => by cases ha_; exact cell_lt klast_31_0__100) Yt_53.out); have Dt_53_t_48 : Hid (Apart (some ⟨qt_53, 0, none⟩) _) := Lib.hid (apart_app (Apart.symm Dt_48_list_3q0.out) (fun a_ ha_ => (own_lt Ot_48.out a_ ha_).2) Yt_53.out); replace klast_31_0__100 := cell_other klast_31_0__100 Gt_53.out (Apart.symm Dlast_31_list_3q0.out); replace klast_31_1__101 := cell_other klast_31_1__101 Gt_53.out (Apart.symm Dlast_31_list_3q0.out); replace klast_31_2__102 := cell_other klast_31_2__102 Gt_53.out (Apart.symm Dlast_31_list_3q0.out); replace klast_31_3__103 := cell_other klast_31_3__103 Gt_53.out (Apart.symm Dlast_31_list_3q0.out); replace klast_31_4__104 := cell_other klast_31_4__104 Gt_53.out (Apart.symm Dlast_31_list_3q0.out); replace Ot_48 := Lib.hid (own_other Ot_48.out Gt_53.out (Apart.symm Dt_48_list_3q0.out)); replace Kt_51 := Lib.hid (Go.Proofs.Ytgbcdmlcmnaimaa.GoC.cur_otherO Kt_51.out Gt_53.out Dlist_3q0_c0.out L0 Olist_3q0.out); clear klast_31_0__95 klast_31_1__96 klast_31_2__97 klast_31_3__98 klast_31_4__99
                           clear Olist_3q0 Yt_53 Gt_53))
                  replace H := app_hid H; go_wp2_with fail
                  go_roundg m1
                  case measure => omega
                  case rel => exact ⟨k1 + 1, _, _, _, _, by omega, by go_num, rfl, H, HBwt_53, Pt_53, Lib.hid Dt_53_c0.out, Kt_51⟩
end Go.Proofs.Ytgbcdmlcmnaimaa.GsL1CurRates

namespace Go.Proofs.Ytgbcdmlcmnaimaa.GoK
open Go.RowKit
open Go.Proofs.Ytgbcdmlcmnaimaa.Rowed Go.Proofs.Ytgbcdmlcmnaimaa.Turn Go.Proofs.Ytgbcdmlcmnaimaa.GoM

/-- a test of a row against nil: only an empty row can be nil, and then both ways have one answer -/
def nilK {α ρ : Type} (l : List α) (f : Bool → Option ρ) : Option ρ := f false
/-- where a row lies that a function hands on: where another one lay, or behind all that was there -/
def From (w : World) (A A' : Option Addr) : Prop := ∀ a', A' = some a' → (∃ a, A = some a ∧ a.block = a'.block) ∨ w.heap.size ≤ a'.block
end Go.Proofs.Ytgbcdmlcmnaimaa.GoK

namespace Go.Proofs.Ytgbcdmlcmnaimaa.GoD
open Go.RowKit
open Go.Proofs.Ytgbcdmlcmnaimaa.Rowed Go.Proofs.Ytgbcdmlcmnaimaa.Turn Go.Proofs.Ytgbcdmlcmnaimaa.GoM Go.Proofs.Ytgbcdmlcmnaimaa.GoK

/-- s[lo:] of a row of its own, to be read -/
theorem slice_view {P : Program} {t e : TypeId} {i : TypeInfo} {k : IntKind} {K n c b : Nat} {A : Option Addr} {lo : Int} {w : World} {xs ys : List Value} {m : Nat}
    (ht : P.underlying t = some (.slice (P.elem t))) (he : P.elem t = e) (hi : P.info? e = some i) (hs : i.size = K) (h : w.ownsRow b e K (.slice A n c) n xs) (hl : 0 ≤ lo ∧ lo ≤ (n : Int)) (hm : n - lo.toNat = m) (hd : xs.drop (lo.toNat * K) = ys) :
    ∃ A' c', (∀ W, (Instr.slice t (.slice A n c) (some (.int k lo)) none none).run P W = .ok (.slice A' m c') W) ∧ (∀ W : World, W.ownsRow b e K (.slice A n c) n xs → Cells W K A' m ys) ∧ Room A' m c' := by
  have hR := own_room h
  subst hm
  have hsz : ∀ W, (sizeOf (P.elem t)).run P W = .ok K W := by intro W; subst he; simp [sizeOf, typeInfo, hi, hs]
  have hrun : ∀ W, (Instr.slice t (.slice A n c) (some (.int k lo)) none none).run P W = .ok (.slice (if c = lo.toNat then A else A.map (·.add (lo.toNat * K))) (n - lo.toNat) (c - lo.toNat)) W := by
    intro W
    rw [run_slice_l (P := P) W t A n c ht k lo hl.1 hl.2, hsz W]
    rfl
  have key : ∀ W : World, W.ownsRow b e K (.slice A n c) n xs → Cells W K (if c = lo.toNat then A else A.map (·.add (lo.toNat * K))) (n - lo.toNat) ys ∧ Room (if c = lo.toNat then A else A.map (·.add (lo.toNat * K))) (n - lo.toNat) (c - lo.toNat) := by
    intro W hW
    obtain ⟨A', c', hr, hC, hM⟩ := slice_tail (P := P) (t := t) (k := k) ht he hi hs (own_cells hW) (own_room hW) hl rfl hd
    have e1 := (hr W).symm.trans (hrun W)
    simp only [Result.ok.injEq, Value.slice.injEq, true_and, and_true] at e1
    obtain ⟨rfl, rfl⟩ := e1
    exact ⟨hC, hM⟩
  exact ⟨_, _, hrun, fun W hW => (key W hW).1, (key w h).2⟩
/-- s[:hi] of a row of its own, to be read -/
theorem slice_viewH {P : Program} {t e : TypeId} {i : TypeInfo} {k : IntKind} {K n c b : Nat} {A : Option Addr} {hi : Int} {w : World} {xs ys : List Value} {m : Nat}
    (ht : P.underlying t = some (.slice (P.elem t))) (he : P.elem t = e) (hi_ : P.info? e = some i) (hs : i.size = K) (h : w.ownsRow b e K (.slice A n c) n xs) (hl : 0 ≤ hi ∧ hi ≤ (n : Int)) (hm : hi.toNat = m) (hd : xs.take (hi.toNat * K) = ys) :
    ∃ A' c', (∀ W, (Instr.slice t (.slice A n c) none (some (.int k hi)) none).run P W = .ok (.slice A' m c') W) ∧ (∀ W : World, W.ownsRow b e K (.slice A n c) n xs → Cells W K A' m ys) ∧ Room A' m c' :=
  ⟨A, c, (slice_head ht he hi_ hs h hl hm hd).1, fun W hW => own_cells (slice_head (k := k) ht he hi_ hs hW hl hm hd).2, own_room (slice_head (k := k) ht he hi_ hs h hl hm hd).2⟩
end Go.Proofs.Ytgbcdmlcmnaimaa.GoD

